import Derived.Test.YtfkdfplnhlnnoaaGreatDoorBgJa12
namespace Go.Proofs.YtfkdfplnhlnnoaaGreatDoor
open Go.RowKit
namespace Gr
set_option linter.unusedSimpArgs false
set_option linter.unusedVariables false
open NT
/-- where what is selected begins -/
def fromC (w : List T) (i : Nat) : Nat := if w[i + 1]? = some T.dist then i + 2 else i + 1
def NoStar (w : List T) (fr p : Nat) : Prop := ¬ (p = fr + 1 ∧ w[fr]? = some T.star)
def NoCutC (w : List T) (fr j p : Nat) : Prop := w[p]? = some T.fr_ → G tail (st w (p + 1) j) → ¬ (p = fr + 1 ∧ w[fr]? = some T.star) ∧ ¬ G items (st w fr p)
theorem core_no {w : List T} {i j : Nat} (hi : i < j) (hj : j ≤ w.length) (hs : w[i]? = some T.sel) (h : ∀ p, fromC w i < p → p < j → NoCutC w (fromC w i) j p) : ¬ G core (st w i j) := by
  intro hg
  have hc := st_cons w hi hj
  rw [List.getElem?_eq_getElem (by omega)] at hs
  rcases (inv_core _).1 hg with ⟨a, e, _⟩ | ⟨a, b, e, ht, ha⟩
  · rw [hc, Option.some.inj hs] at e; cases e
  · rw [hc] at e
    obtain ⟨_, e2⟩ := List.cons.inj e
    obtain ⟨p, p1, p2, rfl, p3, rfl⟩ := st_of hj e2
    rcases ha with ha | ha | ha | ⟨a', ha, hit⟩
    · have hl := congrArg List.length ha
      rw [st_len w (by omega)] at hl
      simp at hl
      obtain rfl : p = i + 2 := by omega
      rw [st_cons w (by omega) (by omega)] at ha
      have e3 := (List.cons.inj ha).1
      have hf : fromC w i = i + 1 := by
        unfold fromC; rw [if_neg]; rw [List.getElem?_eq_getElem (by omega), e3]; simp
      have hh := h (i + 2) (by omega) p2
      rw [hf] at hh
      exact (hh p3 ht).1 ⟨rfl, by rw [List.getElem?_eq_getElem (by omega), e3]⟩
    · have hl := congrArg List.length ha
      rw [st_len w (by omega)] at hl
      simp at hl
      obtain rfl : p = i + 3 := by omega
      rw [st_cons w (by omega) (by omega), st_cons w (by omega) (by omega)] at ha
      have e3 := (List.cons.inj ha).1
      have e4 := (List.cons.inj (List.cons.inj ha).2).1
      have hf : fromC w i = i + 2 := by
        unfold fromC; rw [if_pos]; rw [List.getElem?_eq_getElem (by omega), e3]
      have hh := h (i + 3) (by omega) p2
      rw [hf] at hh
      exact (hh p3 ht).1 ⟨rfl, by rw [List.getElem?_eq_getElem (by omega)]; exact congrArg some e4⟩
    · have hne := g_nil ha
      have hip : i + 1 < p := by
        by_cases hh : i + 1 < p
        · exact hh
        · rw [st_nil w (by omega)] at hne; exact absurd rfl hne
      have hf : fromC w i = i + 1 := by
        unfold fromC; rw [if_neg]
        intro e4
        obtain ⟨t, r, e3, hf⟩ := first_of ha
        rw [st_cons w hip (by omega)] at e3
        rw [List.getElem?_eq_getElem (by omega)] at e4
        rw [← (List.cons.inj e3).1, Option.some.inj e4] at hf
        exact absurd hf (by decide)
      have hh := h p (by omega) p2
      rw [hf] at hh
      exact (hh p3 ht).2 ha
    · have hip : i + 1 < p := by
        by_cases hh : i + 1 < p
        · exact hh
        · rw [st_nil w (by omega)] at ha; cases ha
      rw [st_cons w hip (by omega)] at ha
      obtain ⟨e3, rfl⟩ := List.cons.inj ha
      have hf : fromC w i = i + 2 := by
        unfold fromC; rw [if_pos]; rw [List.getElem?_eq_getElem (by omega), e3]
      have hne := g_nil hit
      have hip2 : i + 2 < p := by
        by_cases hh : i + 2 < p
        · exact hh
        · rw [show i + 1 + 1 = i + 2 from rfl, st_nil w (by omega)] at hne; exact absurd rfl hne
      have hh := h p (by omega) p2
      rw [hf] at hh
      exact (hh p3 ht).2 hit
theorem core_round {w : List T} {i j : Nat} (hi : i < j) (hj : j ≤ w.length) (hs : w[i]? ≠ some T.sel) (h : ¬ RoundG query (st w i j)) : ¬ G core (st w i j) := by
  intro hg
  rcases (inv_core _).1 hg with hr | ⟨a, b, e, _⟩
  · exact h hr
  · rw [st_cons w hi hj] at e
    exact hs (by rw [List.getElem?_eq_getElem (by omega), (List.cons.inj e).1])
theorem ptr_is {M N : Nat} {W : World} {t : Tr} {v : Value} (h : PtrAt M N W t v) : ∃ o, v = .pointer o := by
  cases t with
  | nil => simp only [PtrAt] at h; exact ⟨_, h⟩
  | cons x t => simp [PtrAt] at h
  | node f k i fr g w hh => rw [ptr_node] at h; obtain ⟨b, _, _, _, _, _, _, rfl, _⟩ := h; exact ⟨_, rfl⟩
theorem tail_shape {a : List RW} {x : Tr} (h : D tail a x) : ∃ f g w v, x = tailT f g w v := by cases h <;> exact ⟨_, _, _, _, rfl⟩
theorem items_shape {a : List RW} {x : Tr} (h : D items a x) : ∃ k, x = nd { kind := [114, 111, 119] } k := by cases h <;> exact ⟨_, rfl⟩
/-- what a tail's part holds -/
theorem tail_cells {M N : Nat} {W : World} {f g w v : Tr} {b : Nat} (h : PtrAt M N W (tailT f g w v) (.pointer (some ⟨b, 0, none⟩))) : ∃ af cf ag cg ow ov, W.cell? ⟨b, 12, none⟩ = some (.slice af f.len cf) ∧ W.cell? ⟨b, 13, none⟩ = some (.slice ag g.len cg) ∧ W.cell? ⟨b, 14, none⟩ = some (.pointer ow) ∧ W.cell? ⟨b, 15, none⟩ = some (.pointer ov) ∧
    SlAt M N W f (.slice af f.len cf) ∧ SlAt M N W g (.slice ag g.len cg) ∧ PtrAt M N W w (.pointer ow) ∧ PtrAt M N W v (.pointer ov) := by
  unfold tailT at h
  rw [ptr_node] at h
  obtain ⟨b', vk, vi, vf, vg, vw, vh, e, h1, h2, h3, _, _, h4, h5, h6, h7⟩ := h
  cases e
  have h4' := h4
  have h5' := h5
  obtain ⟨af, cf, rfl, _⟩ := h4'
  obtain ⟨ag, cg, rfl, _⟩ := h5'
  obtain ⟨ow, rfl⟩ := ptr_is h6
  obtain ⟨ov, rfl⟩ := ptr_is h7
  exact ⟨af, cf, ag, cg, ow, ov, by simp [World.cell?, h3, cellsT], by simp [World.cell?, h3, cellsT], by simp [World.cell?, h3, cellsT], by simp [World.cell?, h3, cellsT], h4, h5, h6, h7⟩
theorem kids_cell {M N : Nat} {W : World} {f : Fl} {k : Tr} {b : Nat} (h : PtrAt M N W (nd f k) (.pointer (some ⟨b, 0, none⟩))) : ∃ a c, W.cell? ⟨b, 10, none⟩ = some (.slice a k.len c) ∧ SlAt M N W k (.slice a k.len c) := by
  unfold nd at h
  rw [ptr_node] at h
  obtain ⟨b', vk, vi, vf, vg, vw, vh, e, h1, h2, h3, h4, _⟩ := h
  cases e
  have h4' := h4
  obtain ⟨af, cf, rfl, _⟩ := h4'
  exact ⟨af, cf, by simp [World.cell?, h3, cellsT], h4⟩
set_option maxRecDepth 10000 in
set_option maxHeartbeats 2000000 in
theorem c_core (C M N : Nat) (ws : List RW) (m : Nat) (hI : Is C M N ws m) (i j : Nat) (W : World) (h : Cut C M N ws W) (hi : i < j) (hj : j ≤ ws.length) (hm : (j - i) * 20 ≤ m) :
    Calls Tryz.prog 81 #[.pointer (some ⟨C, 0, none⟩), .int .i64 i, .int .i64 j] W (Post C M N ws W (¬ G core (st (ws.map tok) i j)) (D core (sw ws i j))) := by
  have hlen := h.len
  have HL : Hid (j ≤ (ws.map tok).length) := by show j ≤ _; simpa using hj
  go_enter Tryz.func81, Tryz.ntmps81
  go_wp2_with fail
  refine (c_key C M N ws (i : Int) _ _ h (by omega) (by omega)).mono ?_
  rintro e w' ⟨rfl, rfl⟩
  cases hs : keyAt ws (i : Int) [115, 101, 108, 101, 99, 116] with
  | false =>
    have HN : Hid ((ws.map tok)[i]? ≠ some T.sel) := fun e => by rw [(key_at h.ok ([115, 101, 108, 101, 99, 116], T.sel) (by decide) (by decide) i).2 e] at hs; cases hs
    clear hs
    go_wp2_with fail
    refine (c_round C M N ws m hI query i j _ h (by omega) (by omega) hj hm (by omega)).mono ?_
    rintro e w1 ⟨v1, rfl, hC1, hK1, hF1⟩
    go_wp2_with fail
    go_ret
    refine ⟨_, rfl, hC1, hK1, ?_⟩
    rcases hF1 with ⟨rfl, hno⟩ | ⟨b, t, e, hb, hp, o, a, c, e2, t1, t2, hd⟩
    · exact .inl ⟨rfl, core_round hi HL.out HN.out hno⟩
    · exact .inr ⟨b, t, e, hb, hp, by rw [e2]; exact .cRound t1 t2 hd⟩
  | true =>
    have HS := (key_at h.ok ([115, 101, 108, 101, 99, 116], T.sel) (by decide) (by decide) i).1 hs
    clear hs
    go_wp2_with fail
    refine (c_key C M N ws ((i + 1 : Nat) : Int) _ _ h (by omega) (by omega)).mono ?_
    rintro e w' ⟨rfl, rfl⟩
    cases hd : keyAt ws ((i + 1 : Nat) : Int) [100, 105, 115, 116, 105, 110, 99, 116] with
    | false =>
      have HFR : Hid (fromC (ws.map tok) i = i + 1) := by
        show _ = _; unfold fromC; rw [if_neg]
        intro e; rw [(key_at h.ok ([100, 105, 115, 116, 105, 110, 99, 116], T.dist) (by decide) (by decide) (i + 1)).2 e] at hd; cases hd
      clear hd
      go_wp2_with fail
      go_loopg [10] (j + 3 - (i + 1 + 1)) (fun gk pv wr => ∃ p : Nat, i + 1 + 1 ≤ p ∧ p ≤ j + 3 ∧ gk = j + 3 - p ∧ pv = .int .i64 p ∧ Cut C M N ws wr ∧ Keep M W wr ∧ ∀ q, i + 1 < q → q < p → NoCutC (ws.map tok) (i + 1) j q)
      case atStart => exact ⟨i + 1 + 1, by omega, by omega, by omega, rfl, h, Keep.refl _ _, fun q h1 h2 => by omega⟩
      case round =>
        obtain ⟨p, hp1, hp2, rfl, rfl, hC, hK, hno⟩ := hrel
        have HNT : Hid (∀ q, i + 1 < q → q < p → NoCutC (ws.map tok) (i + 1) j q) := hno
        clear hno
        by_cases hlt : p < j
        · have HNX : Hid (NoCutC (ws.map tok) (i + 1) j p → ∀ q, i + 1 < q → q < p + 1 → NoCutC (ws.map tok) (i + 1) j q) := fun hn q h1 h2 => by
            by_cases e : q = p
            · subst e; exact hn
            · exact HNT.out q h1 (by omega)
          go_wp2_with fail
          refine (c_key C M N ws (p : Int) _ _ hC (by omega) (by omega)).mono ?_
          rintro e w' ⟨rfl, rfl⟩
          cases hc : keyAt ws (p : Int) [102, 114, 111, 109] with
          | false =>
            have HN : Hid (NoCutC (ws.map tok) (i + 1) j p) := fun hu => by
              rw [(key_at h.ok ([102, 114, 111, 109], T.fr_) (by decide) (by decide) p).2 hu] at hc; cases hc
            clear hc
            go_wp2_with fail
            go_roundg (j + 3 - (p + 1))
            case measure => omega
            case rel => exact ⟨p + 1, by omega, by omega, rfl, by exact vint (by omega), hC, hK, HNX.out HN.out⟩
          | true =>
            have HY := (key_at h.ok ([102, 114, 111, 109], T.fr_) (by decide) (by decide) p).1 hc
            clear hc
            by_cases hp1' : p = i + 1 + 1
            · subst hp1'
              go_wp2_with fail
              refine (c_sign C M N ws ((i + 1 : Nat) : Int) _ _ hC (by omega) (by omega)).mono ?_
              rintro e w' ⟨rfl, rfl⟩
              cases hst : signAt ws ((i + 1 : Nat) : Int) [42] with
              | false =>
                have HST : Hid (NoStar (ws.map tok) (i + 1) (i + 1 + 1)) := fun e => by
                  rw [(sign_at h.ok ([42], T.star) (by decide) (by decide) (i + 1)).2 e.2] at hst; cases hst
                clear hst
                go_wp2_with fail
                refine (hI items (i + 1) ((i + 1 + 1 : Nat) : Int) _ hC (by omega) (by omega) (by omega) (by simp [rk]; omega)).mono ?_
                rintro e w3 ⟨v3, rfl, hC3, hK3, hF3⟩
                rw [Int.toNat_natCast] at hF3
                go_wp2_with fail
                refine (hI tail (i + 1 + 1 + 1) j _ hC3 (by omega) (by omega) (by omega) (by simp [rk]; omega)).mono ?_
                rintro e w4 ⟨v4, rfl, hC4, hK4, hF4⟩
                rw [Int.toNat_natCast] at hF4
                have hKW := (hK.trans hK3).trans hK4
                rcases hF4 with ⟨rfl, hn4⟩ | ⟨b4, t4, rfl, hb4, hp4, hd4⟩
                · have HN4 : Hid (NoCutC (ws.map tok) (i + 1) j (i + 1 + 1)) := fun _ h => absurd h hn4
                  clear hn4
                  have hv3 : ∃ o, v3 = .pointer o := by
                    rcases hF3 with ⟨rfl, _⟩ | ⟨b, t, rfl, _⟩ <;> exact ⟨_, rfl⟩
                  obtain ⟨o3, rfl⟩ := hv3
                  clear hF3
                  go_wp2_with fail
                  go_roundg (j + 3 - (i + 1 + 1 + 1))
                  case measure => omega
                  case rel => exact ⟨i + 1 + 1 + 1, by omega, by omega, rfl, by exact vint (by omega), hC4, hKW, HNX.out HN4.out⟩
                · rcases hF3 with ⟨rfl, hn3⟩ | ⟨b3, t3, rfl, hb3, hp3, hd3⟩
                  · have HN3 : Hid (NoCutC (ws.map tok) (i + 1) j (i + 1 + 1)) := fun _ _ => ⟨HST.out, hn3⟩
                    clear hn3
                    go_wp2_with fail
                    go_roundg (j + 3 - (i + 1 + 1 + 1))
                    case measure => omega
                    case rel => exact ⟨i + 1 + 1 + 1, by omega, by omega, rfl, by exact vint (by omega), hC4, hKW, HNX.out HN3.out⟩
                  · obtain ⟨tf, tg, tw, tv, et⟩ := tail_shape hd4
                    subst et
                    obtain ⟨tk, ek⟩ := items_shape hd3
                    subst ek
                    obtain ⟨af, cf, ag, cg, ow, ov, c12, c13, c14, c15, s1, s2, s3, s4⟩ := tail_cells hp4
                    have hp3' := hp3.keep hK4
                    obtain ⟨ak, ck, c10, s0⟩ := kids_cell hp3'
                    generalize hLf : tf.len = Lf at c12 s1
                    generalize hLg : tg.len = Lg at c13 s2
                    generalize hLk : tk.len = Lk at c10 s0
                    have HX : Hid (PtrAt M N _ _ _) := mk_node (f := { kind := [115, 101, 108, 101, 99, 116], star := false, dist := false }) hC4.mlt hC4.nlt (SlAt.nil M N w4) s0 s1 s2 s3 s4
                    have hb34 : b3 < w4.heap.size := World.block_lt_of_cell? _ _ c10
                    go_wp2_with fail
                    go_region
                    go_wp2_with fail
                    go_ret
                    refine ⟨_, rfl, (hC4.alloc _).drew 1, (hKW.trans (Keep.alloc M _ _)).trans (Keep.drew M _ 1), .inr ⟨_, _, rfl, ?_, HX.out.keep (Keep.drew M _ 1), ?_⟩⟩
                    · have := hC4.nlt; omega
                    · obtain ⟨hl0, k0⟩ := tok_get HS
                      obtain ⟨hl2, k2⟩ := tok_get HY
                      rw [sw_cons ws hi hj, sw_split ws (i := i + 1) (p := i + 1 + 1) (by omega) (by omega) hj]
                      exact .cSel k0 k2 hd3 hd4
              | true =>
                have HST := (sign_at h.ok ([42], T.star) (by decide) (by decide) (i + 1)).1 hst
                clear hst
                go_wp2_with fail
                refine (hI items (i + 1) ((i + 1 + 1 : Nat) : Int) _ hC (by omega) (by omega) (by omega) (by simp [rk]; omega)).mono ?_
                rintro e w3 ⟨v3, rfl, hC3, hK3, hF3⟩
                go_wp2_with fail
                refine (hI tail (i + 1 + 1 + 1) j _ hC3 (by omega) (by omega) (by omega) (by simp [rk]; omega)).mono ?_
                rintro e w4 ⟨v4, rfl, hC4, hK4, hF4⟩
                rw [Int.toNat_natCast] at hF4
                have hKW := (hK.trans hK3).trans hK4
                have hv3 : ∃ o, v3 = .pointer o := by
                  rcases hF3 with ⟨rfl, _⟩ | ⟨b, t, rfl, _⟩ <;> exact ⟨_, rfl⟩
                obtain ⟨o3, rfl⟩ := hv3
                rcases hF4 with ⟨rfl, hn4⟩ | ⟨b4, t4, rfl, hb4, hp4, hd4⟩
                · have HN4 : Hid (NoCutC (ws.map tok) (i + 1) j (i + 1 + 1)) := fun _ h => absurd h hn4
                  clear hn4
                  go_wp2_with fail
                  go_roundg (j + 3 - (i + 1 + 1 + 1))
                  case measure => omega
                  case rel => exact ⟨i + 1 + 1 + 1, by omega, by omega, rfl, by exact vint (by omega), hC4, hKW, HNX.out HN4.out⟩
                · obtain ⟨tf, tg, tw, tv, et⟩ := tail_shape hd4
                  subst et
                  obtain ⟨af, cf, ag, cg, ow, ov, c12, c13, c14, c15, s1, s2, s3, s4⟩ := tail_cells hp4
                  generalize hLf : tf.len = Lf at c12 s1
                  generalize hLg : tg.len = Lg at c13 s2
                  have HX : Hid (PtrAt M N _ _ _) := mk_node (f := { kind := [115, 101, 108, 101, 99, 116], star := true, dist := false }) hC4.mlt hC4.nlt (SlAt.nil M N w4) (SlAt.nil M N w4) s1 s2 s3 s4
                  go_wp2_with fail
                  go_region
                  go_wp2_with fail
                  go_ret
                  refine ⟨_, rfl, (hC4.alloc _).drew 1, (hKW.trans (Keep.alloc M _ _)).trans (Keep.drew M _ 1), .inr ⟨_, _, rfl, ?_, HX.out.keep (Keep.drew M _ 1), ?_⟩⟩
                  · have := hC4.nlt; omega
                  · obtain ⟨hl0, k0⟩ := tok_get HS
                    obtain ⟨hl1, k1⟩ := tok_get HST
                    obtain ⟨hl2, k2⟩ := tok_get HY
                    rw [sw_cons ws hi hj, sw_cons ws (i := i + 1) (by omega) hj, sw_cons ws (i := i + 1 + 1) (by omega) hj]
                    exact .cStar k0 k1 k2 hd4
            · have HST : Hid (NoStar (ws.map tok) (i + 1) p) := fun e => hp1' e.1
              have hpe : ((p : Int) == (i : Int) + 1 + 1) = false := by simp; omega
              have hpe' : ¬ ((p : Int) = (i : Int) + 1 + 1) := by omega
              go_wp2_with fail
              refine (hI items (i + 1) ((p : Nat) : Int) _ hC (by omega) (by omega) (by omega) (by simp [rk]; omega)).mono ?_
              rintro e w3 ⟨v3, rfl, hC3, hK3, hF3⟩
              rw [Int.toNat_natCast] at hF3
              go_wp2_with fail
              refine (hI tail (p + 1) j _ hC3 (by omega) (by omega) (by omega) (by simp [rk]; omega)).mono ?_
              rintro e w4 ⟨v4, rfl, hC4, hK4, hF4⟩
              rw [Int.toNat_natCast] at hF4
              have hKW := (hK.trans hK3).trans hK4
              rcases hF4 with ⟨rfl, hn4⟩ | ⟨b4, t4, rfl, hb4, hp4, hd4⟩
              · have HN4 : Hid (NoCutC (ws.map tok) (i + 1) j (p)) := fun _ h => absurd h hn4
                clear hn4
                have hv3 : ∃ o, v3 = .pointer o := by
                  rcases hF3 with ⟨rfl, _⟩ | ⟨b, t, rfl, _⟩ <;> exact ⟨_, rfl⟩
                obtain ⟨o3, rfl⟩ := hv3
                clear hF3
                go_wp2_with fail
                go_roundg (j + 3 - (p + 1))
                case measure => omega
                case rel => exact ⟨p + 1, by omega, by omega, rfl, by exact vint (by omega), hC4, hKW, HNX.out HN4.out⟩
              · rcases hF3 with ⟨rfl, hn3⟩ | ⟨b3, t3, rfl, hb3, hp3, hd3⟩
                · have HN3 : Hid (NoCutC (ws.map tok) (i + 1) j (p)) := fun _ _ => ⟨HST.out, hn3⟩
                  clear hn3
                  go_wp2_with fail
                  go_roundg (j + 3 - (p + 1))
                  case measure => omega
                  case rel => exact ⟨p + 1, by omega, by omega, rfl, by exact vint (by omega), hC4, hKW, HNX.out HN3.out⟩
                · obtain ⟨tf, tg, tw, tv, et⟩ := tail_shape hd4
                  subst et
                  obtain ⟨tk, ek⟩ := items_shape hd3
                  subst ek
                  obtain ⟨af, cf, ag, cg, ow, ov, c12, c13, c14, c15, s1, s2, s3, s4⟩ := tail_cells hp4
                  have hp3' := hp3.keep hK4
                  obtain ⟨ak, ck, c10, s0⟩ := kids_cell hp3'
                  generalize hLf : tf.len = Lf at c12 s1
                  generalize hLg : tg.len = Lg at c13 s2
                  generalize hLk : tk.len = Lk at c10 s0
                  have HX : Hid (PtrAt M N _ _ _) := mk_node (f := { kind := [115, 101, 108, 101, 99, 116], star := false, dist := false }) hC4.mlt hC4.nlt (SlAt.nil M N w4) s0 s1 s2 s3 s4
                  have hb34 : b3 < w4.heap.size := World.block_lt_of_cell? _ _ c10
                  go_wp2_with fail
                  go_region
                  go_wp2_with fail
                  go_ret
                  refine ⟨_, rfl, (hC4.alloc _).drew 1, (hKW.trans (Keep.alloc M _ _)).trans (Keep.drew M _ 1), .inr ⟨_, _, rfl, ?_, HX.out.keep (Keep.drew M _ 1), ?_⟩⟩
                  · have := hC4.nlt; omega
                  · obtain ⟨hl0, k0⟩ := tok_get HS
                    obtain ⟨hl2, k2⟩ := tok_get HY
                    rw [sw_cons ws hi hj, sw_split ws (i := i + 1) (p := p) (by omega) (by omega) hj]
                    exact .cSel k0 k2 hd3 hd4
        · go_wp2_with fail
          go_ret
          exact ⟨_, rfl, hC, hK, .inl ⟨rfl, core_no hi HL.out HS (by rw [HFR.out]; exact fun q h1 h2 => HNT.out q h1 (by omega))⟩⟩
    | true =>
      have HDD := (key_at h.ok ([100, 105, 115, 116, 105, 110, 99, 116], T.dist) (by decide) (by decide) (i + 1)).1 hd
      have HFR : Hid (fromC (ws.map tok) i = i + 2) := by
        show _ = _; unfold fromC; rw [if_pos HDD]
      clear hd
      go_wp2_with fail
      go_loopg [10] (j + 3 - (i + 2 + 1)) (fun gk pv wr => ∃ p : Nat, i + 2 + 1 ≤ p ∧ p ≤ j + 3 ∧ gk = j + 3 - p ∧ pv = .int .i64 p ∧ Cut C M N ws wr ∧ Keep M W wr ∧ ∀ q, i + 2 < q → q < p → NoCutC (ws.map tok) (i + 2) j q)
      case atStart => exact ⟨i + 2 + 1, by omega, by omega, by omega, rfl, h, Keep.refl _ _, fun q h1 h2 => by omega⟩
      case round =>
        obtain ⟨p, hp1, hp2, rfl, rfl, hC, hK, hno⟩ := hrel
        have HNT : Hid (∀ q, i + 2 < q → q < p → NoCutC (ws.map tok) (i + 2) j q) := hno
        clear hno
        by_cases hlt : p < j
        · have HNX : Hid (NoCutC (ws.map tok) (i + 2) j p → ∀ q, i + 2 < q → q < p + 1 → NoCutC (ws.map tok) (i + 2) j q) := fun hn q h1 h2 => by
            by_cases e : q = p
            · subst e; exact hn
            · exact HNT.out q h1 (by omega)
          go_wp2_with fail
          refine (c_key C M N ws (p : Int) _ _ hC (by omega) (by omega)).mono ?_
          rintro e w' ⟨rfl, rfl⟩
          cases hc : keyAt ws (p : Int) [102, 114, 111, 109] with
          | false =>
            have HN : Hid (NoCutC (ws.map tok) (i + 2) j p) := fun hu => by
              rw [(key_at h.ok ([102, 114, 111, 109], T.fr_) (by decide) (by decide) p).2 hu] at hc; cases hc
            clear hc
            go_wp2_with fail
            go_roundg (j + 3 - (p + 1))
            case measure => omega
            case rel => exact ⟨p + 1, by omega, by omega, rfl, by exact vint (by omega), hC, hK, HNX.out HN.out⟩
          | true =>
            have HY := (key_at h.ok ([102, 114, 111, 109], T.fr_) (by decide) (by decide) p).1 hc
            clear hc
            by_cases hp1' : p = i + 2 + 1
            · subst hp1'
              go_wp2_with fail
              refine (c_sign C M N ws ((i + 2 : Nat) : Int) _ _ hC (by omega) (by omega)).mono ?_
              rintro e w' ⟨rfl, rfl⟩
              cases hst : signAt ws ((i + 2 : Nat) : Int) [42] with
              | false =>
                have HST : Hid (NoStar (ws.map tok) (i + 2) (i + 2 + 1)) := fun e => by
                  rw [(sign_at h.ok ([42], T.star) (by decide) (by decide) (i + 2)).2 e.2] at hst; cases hst
                clear hst
                go_wp2_with fail
                refine (hI items (i + 2) ((i + 2 + 1 : Nat) : Int) _ hC (by omega) (by omega) (by omega) (by simp [rk]; omega)).mono ?_
                rintro e w3 ⟨v3, rfl, hC3, hK3, hF3⟩
                rw [Int.toNat_natCast] at hF3
                go_wp2_with fail
                refine (hI tail (i + 2 + 1 + 1) j _ hC3 (by omega) (by omega) (by omega) (by simp [rk]; omega)).mono ?_
                rintro e w4 ⟨v4, rfl, hC4, hK4, hF4⟩
                rw [Int.toNat_natCast] at hF4
                have hKW := (hK.trans hK3).trans hK4
                rcases hF4 with ⟨rfl, hn4⟩ | ⟨b4, t4, rfl, hb4, hp4, hd4⟩
                · have HN4 : Hid (NoCutC (ws.map tok) (i + 2) j (i + 2 + 1)) := fun _ h => absurd h hn4
                  clear hn4
                  have hv3 : ∃ o, v3 = .pointer o := by
                    rcases hF3 with ⟨rfl, _⟩ | ⟨b, t, rfl, _⟩ <;> exact ⟨_, rfl⟩
                  obtain ⟨o3, rfl⟩ := hv3
                  clear hF3
                  go_wp2_with fail
                  go_roundg (j + 3 - (i + 2 + 1 + 1))
                  case measure => omega
                  case rel => exact ⟨i + 2 + 1 + 1, by omega, by omega, rfl, by exact vint (by omega), hC4, hKW, HNX.out HN4.out⟩
                · rcases hF3 with ⟨rfl, hn3⟩ | ⟨b3, t3, rfl, hb3, hp3, hd3⟩
                  · have HN3 : Hid (NoCutC (ws.map tok) (i + 2) j (i + 2 + 1)) := fun _ _ => ⟨HST.out, hn3⟩
                    clear hn3
                    go_wp2_with fail
                    go_roundg (j + 3 - (i + 2 + 1 + 1))
                    case measure => omega
                    case rel => exact ⟨i + 2 + 1 + 1, by omega, by omega, rfl, by exact vint (by omega), hC4, hKW, HNX.out HN3.out⟩
                  · obtain ⟨tf, tg, tw, tv, et⟩ := tail_shape hd4
                    subst et
                    obtain ⟨tk, ek⟩ := items_shape hd3
                    subst ek
                    obtain ⟨af, cf, ag, cg, ow, ov, c12, c13, c14, c15, s1, s2, s3, s4⟩ := tail_cells hp4
                    have hp3' := hp3.keep hK4
                    obtain ⟨ak, ck, c10, s0⟩ := kids_cell hp3'
                    generalize hLf : tf.len = Lf at c12 s1
                    generalize hLg : tg.len = Lg at c13 s2
                    generalize hLk : tk.len = Lk at c10 s0
                    have HX : Hid (PtrAt M N _ _ _) := mk_node (f := { kind := [115, 101, 108, 101, 99, 116], star := false, dist := true }) hC4.mlt hC4.nlt (SlAt.nil M N w4) s0 s1 s2 s3 s4
                    have hb34 : b3 < w4.heap.size := World.block_lt_of_cell? _ _ c10
                    go_wp2_with fail
                    go_region
                    go_wp2_with fail
                    go_ret
                    refine ⟨_, rfl, (hC4.alloc _).drew 1, (hKW.trans (Keep.alloc M _ _)).trans (Keep.drew M _ 1), .inr ⟨_, _, rfl, ?_, HX.out.keep (Keep.drew M _ 1), ?_⟩⟩
                    · have := hC4.nlt; omega
                    · obtain ⟨hl0, k0⟩ := tok_get HS
                      obtain ⟨hl2, k2⟩ := tok_get HY
                      obtain ⟨hl3, k3⟩ := tok_get HDD
                      rw [sw_cons ws hi hj, sw_cons ws (i := i + 1) (by omega) hj, sw_split ws (i := i + 1 + 1) (p := i + 2 + 1) (by omega) (by omega) hj]
                      exact .cSelD k0 k3 k2 hd3 hd4
              | true =>
                have HST := (sign_at h.ok ([42], T.star) (by decide) (by decide) (i + 2)).1 hst
                clear hst
                go_wp2_with fail
                refine (hI items (i + 2) ((i + 2 + 1 : Nat) : Int) _ hC (by omega) (by omega) (by omega) (by simp [rk]; omega)).mono ?_
                rintro e w3 ⟨v3, rfl, hC3, hK3, hF3⟩
                go_wp2_with fail
                refine (hI tail (i + 2 + 1 + 1) j _ hC3 (by omega) (by omega) (by omega) (by simp [rk]; omega)).mono ?_
                rintro e w4 ⟨v4, rfl, hC4, hK4, hF4⟩
                rw [Int.toNat_natCast] at hF4
                have hKW := (hK.trans hK3).trans hK4
                have hv3 : ∃ o, v3 = .pointer o := by
                  rcases hF3 with ⟨rfl, _⟩ | ⟨b, t, rfl, _⟩ <;> exact ⟨_, rfl⟩
                obtain ⟨o3, rfl⟩ := hv3
                rcases hF4 with ⟨rfl, hn4⟩ | ⟨b4, t4, rfl, hb4, hp4, hd4⟩
                · have HN4 : Hid (NoCutC (ws.map tok) (i + 2) j (i + 2 + 1)) := fun _ h => absurd h hn4
                  clear hn4
                  go_wp2_with fail
                  go_roundg (j + 3 - (i + 2 + 1 + 1))
                  case measure => omega
                  case rel => exact ⟨i + 2 + 1 + 1, by omega, by omega, rfl, by exact vint (by omega), hC4, hKW, HNX.out HN4.out⟩
                · obtain ⟨tf, tg, tw, tv, et⟩ := tail_shape hd4
                  subst et
                  obtain ⟨af, cf, ag, cg, ow, ov, c12, c13, c14, c15, s1, s2, s3, s4⟩ := tail_cells hp4
                  generalize hLf : tf.len = Lf at c12 s1
                  generalize hLg : tg.len = Lg at c13 s2
                  have HX : Hid (PtrAt M N _ _ _) := mk_node (f := { kind := [115, 101, 108, 101, 99, 116], star := true, dist := true }) hC4.mlt hC4.nlt (SlAt.nil M N w4) (SlAt.nil M N w4) s1 s2 s3 s4
                  go_wp2_with fail
                  go_region
                  go_wp2_with fail
                  go_ret
                  refine ⟨_, rfl, (hC4.alloc _).drew 1, (hKW.trans (Keep.alloc M _ _)).trans (Keep.drew M _ 1), .inr ⟨_, _, rfl, ?_, HX.out.keep (Keep.drew M _ 1), ?_⟩⟩
                  · have := hC4.nlt; omega
                  · obtain ⟨hl0, k0⟩ := tok_get HS
                    obtain ⟨hl1, k1⟩ := tok_get HST
                    obtain ⟨hl2, k2⟩ := tok_get HY
                    obtain ⟨hl3, k3⟩ := tok_get HDD
                    rw [sw_cons ws hi hj, sw_cons ws (i := i + 1) (by omega) hj, sw_cons ws (i := i + 1 + 1) (by omega) hj, sw_cons ws (i := i + 1 + 1 + 1) (by omega) hj]
                    exact .cStarD k0 k3 k1 k2 hd4
            · have HST : Hid (NoStar (ws.map tok) (i + 2) p) := fun e => hp1' e.1
              have hpe : ((p : Int) == (i : Int) + 2 + 1) = false := by simp; omega
              have hpe' : ¬ ((p : Int) = (i : Int) + 2 + 1) := by omega
              go_wp2_with fail
              refine (hI items (i + 2) ((p : Nat) : Int) _ hC (by omega) (by omega) (by omega) (by simp [rk]; omega)).mono ?_
              rintro e w3 ⟨v3, rfl, hC3, hK3, hF3⟩
              rw [Int.toNat_natCast] at hF3
              go_wp2_with fail
              refine (hI tail (p + 1) j _ hC3 (by omega) (by omega) (by omega) (by simp [rk]; omega)).mono ?_
              rintro e w4 ⟨v4, rfl, hC4, hK4, hF4⟩
              rw [Int.toNat_natCast] at hF4
              have hKW := (hK.trans hK3).trans hK4
              rcases hF4 with ⟨rfl, hn4⟩ | ⟨b4, t4, rfl, hb4, hp4, hd4⟩
              · have HN4 : Hid (NoCutC (ws.map tok) (i + 2) j (p)) := fun _ h => absurd h hn4
                clear hn4
                have hv3 : ∃ o, v3 = .pointer o := by
                  rcases hF3 with ⟨rfl, _⟩ | ⟨b, t, rfl, _⟩ <;> exact ⟨_, rfl⟩
                obtain ⟨o3, rfl⟩ := hv3
                clear hF3
                go_wp2_with fail
                go_roundg (j + 3 - (p + 1))
                case measure => omega
                case rel => exact ⟨p + 1, by omega, by omega, rfl, by exact vint (by omega), hC4, hKW, HNX.out HN4.out⟩
              · rcases hF3 with ⟨rfl, hn3⟩ | ⟨b3, t3, rfl, hb3, hp3, hd3⟩
                · have HN3 : Hid (NoCutC (ws.map tok) (i + 2) j (p)) := fun _ _ => ⟨HST.out, hn3⟩
                  clear hn3
                  go_wp2_with fail
                  go_roundg (j + 3 - (p + 1))
                  case measure => omega
                  case rel => exact ⟨p + 1, by omega, by omega, rfl, by exact vint (by omega), hC4, hKW, HNX.out HN3.out⟩
                · obtain ⟨tf, tg, tw, tv, et⟩ := tail_shape hd4
                  subst et
                  obtain ⟨tk, ek⟩ := items_shape hd3
                  subst ek
                  obtain ⟨af, cf, ag, cg, ow, ov, c12, c13, c14, c15, s1, s2, s3, s4⟩ := tail_cells hp4
                  have hp3' := hp3.keep hK4
                  obtain ⟨ak, ck, c10, s0⟩ := kids_cell hp3'
                  generalize hLf : tf.len = Lf at c12 s1
                  generalize hLg : tg.len = Lg at c13 s2
                  generalize hLk : tk.len = Lk at c10 s0
                  have HX : Hid (PtrAt M N _ _ _) := mk_node (f := { kind := [115, 101, 108, 101, 99, 116], star := false, dist := true }) hC4.mlt hC4.nlt (SlAt.nil M N w4) s0 s1 s2 s3 s4
                  have hb34 : b3 < w4.heap.size := World.block_lt_of_cell? _ _ c10
                  go_wp2_with fail
                  go_region
                  go_wp2_with fail
                  go_ret
                  refine ⟨_, rfl, (hC4.alloc _).drew 1, (hKW.trans (Keep.alloc M _ _)).trans (Keep.drew M _ 1), .inr ⟨_, _, rfl, ?_, HX.out.keep (Keep.drew M _ 1), ?_⟩⟩
                  · have := hC4.nlt; omega
                  · obtain ⟨hl0, k0⟩ := tok_get HS
                    obtain ⟨hl2, k2⟩ := tok_get HY
                    obtain ⟨hl3, k3⟩ := tok_get HDD
                    rw [sw_cons ws hi hj, sw_cons ws (i := i + 1) (by omega) hj, sw_split ws (i := i + 1 + 1) (p := p) (by omega) (by omega) hj]
                    exact .cSelD k0 k3 k2 hd3 hd4
        · go_wp2_with fail
          go_ret
          exact ⟨_, rfl, hC, hK, .inl ⟨rfl, core_no hi HL.out HS (by rw [HFR.out]; exact fun q h1 h2 => HNT.out q h1 (by omega))⟩⟩
end Gr
end Go.Proofs.YtfkdfplnhlnnoaaGreatDoor
