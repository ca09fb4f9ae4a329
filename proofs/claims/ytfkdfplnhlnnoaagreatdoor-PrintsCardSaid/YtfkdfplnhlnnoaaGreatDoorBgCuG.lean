import Derived.Test.YtfkdfplnhlnnoaaGreatDoorBgJa12
namespace Go.Proofs.YtfkdfplnhlnnoaaGreatDoor
open Go.RowKit
namespace Gr
set_option linter.unusedSimpArgs false
set_option linter.unusedVariables false
open NT
theorem cell3s {w : World} {b : Nat} {x y z : Value} {ty : TypeId} (h : w.heap[b]? = some (.cells #[x, y, z] ty (0, 0))) : w.cell? ⟨b, 0, none⟩ = some x ∧ w.cell? ⟨b, 1, none⟩ = some y ∧ w.cell? ⟨b, 2, none⟩ = some z :=
  ⟨by simp [World.cell?, h], by simp [World.cell?, h], by simp [World.cell?, h]⟩
def setW : List Bg.Str := [[117, 110, 105, 111, 110], [105, 110, 116, 101, 114, 115, 101, 99, 116], [101, 120, 99, 101, 112, 116]]
/-- where what is joined begins -/
def fromQ (w : List T) (q : Nat) : Nat := if w[q + 1]? = some T.all_ then q + 2 else q + 1
def NoCutQ (w : List T) (i j q : Nat) : Prop := ∀ u, w[q]? = some u → isSet u = true → G query (st w i q) → ¬ G core (st w (fromQ w q) j)
def NoTilQ (w : List T) (i j p : Nat) : Prop := ¬ G core (st w i j) ∧ ∀ q, i < q → q < p → NoCutQ w i j q
theorem noTilQ_all {w : List T} {i j : Nat} (hj : j ≤ w.length) (h : NoTilQ w i j j) : ¬ G query (st w i j) := by
  intro hg
  rcases (inv_query _).1 hg with h1 | ⟨a, u, b, e, hu, ha, hb⟩
  · exact h.1 h1
  · obtain ⟨p, p1, p2, rfl, p3, rfl⟩ := st_of hj e
    have hne := g_nil ha
    have hip : i < p := by
      by_cases hh : i < p
      · exact hh
      · rw [st_nil w (by omega)] at hne; exact absurd rfl hne
    refine h.2 p hip p2 u p3 hu ha ?_
    rcases hb with hb | ⟨b', e', hb'⟩
    · have hne2 := g_nil hb
      have hpj : p + 1 < j := by
        by_cases hh : p + 1 < j
        · exact hh
        · rw [st_nil w (by omega)] at hne2; exact absurd rfl hne2
      have : fromQ w p = p + 1 := by
        unfold fromQ
        rw [if_neg]
        intro e2
        rw [st_cons w hpj hj] at hb
        obtain ⟨t, r, e3, hf⟩ := first_of hb
        obtain ⟨e4, _⟩ := List.cons.inj e3
        rw [List.getElem?_eq_getElem (by omega)] at e2
        rw [← e4, Option.some.inj e2] at hf
        exact absurd hf (by decide)
      rw [this]; exact hb
    · have hpj : p + 1 < j := by
        by_cases hh : p + 1 < j
        · exact hh
        · rw [st_nil w (by omega)] at e'; cases e'
      rw [st_cons w hpj hj] at e'
      obtain ⟨e1, e2⟩ := List.cons.inj e'
      have : fromQ w p = p + 2 := by
        unfold fromQ
        rw [if_pos]
        rw [List.getElem?_eq_getElem (by omega), e1]
      rw [this, show p + 2 = p + 1 + 1 from rfl, e2]; exact hb'
theorem set_tab : ∀ x ∈ keyToks.map Prod.fst, (isSet (keyTok x) = true ↔ x ∈ setW) := by decide
theorem set_key {ws : List RW} (ok : ∀ w ∈ ws, Ok1 w) {p : Nat} {u : T} (hu : (ws.map tok)[p]? = some u) (hs : isSet u = true) : ∃ k, ∃ hk : k < setW.length, keyAt ws (p : Int) setW[k] = true := by
  obtain ⟨hl, rfl⟩ := tok_get hu
  have hw := ok _ (List.getElem_mem hl)
  have h3 : tok ws[p] = T.union ∨ tok ws[p] = T.inter ∨ tok ws[p] = T.exc := by
    revert hs; generalize tok ws[p] = t; cases t <;> simp [isSet]
  rcases h3 with h3 | h3 | h3
  · exact ⟨0, by decide, (key_at ok ([117, 110, 105, 111, 110], T.union) (by decide) (by decide) p).2 (by rw [hu, h3])⟩
  · exact ⟨1, by decide, (key_at ok ([105, 110, 116, 101, 114, 115, 101, 99, 116], T.inter) (by decide) (by decide) p).2 (by rw [hu, h3])⟩
  · exact ⟨2, by decide, (key_at ok ([101, 120, 99, 101, 112, 116], T.exc) (by decide) (by decide) p).2 (by rw [hu, h3])⟩
theorem key_set {ws : List RW} (ok : ∀ w ∈ ws, Ok1 w) {p k : Nat} (hk : k < setW.length) (h : keyAt ws (p : Int) setW[k] = true) : ∃ hl : p < ws.length, isSet (tok ws[p]) = true ∧ ws[p].text = setW[k] := by
  by_cases hl : p < ws.length
  · refine ⟨hl, ?_⟩
    have hx : keyB ws[p] setW[k] = true := by unfold keyAt at h; rw [wordAt_in hl] at h; exact h
    unfold keyB at hx
    simp only [Bool.and_eq_true, beq_iff_eq] at hx
    have ht : ws[p].text ∈ keyToks.map Prod.fst := by rw [hx.2]; exact (show ∀ x ∈ setW, x ∈ keyToks.map Prod.fst by decide) _ (List.getElem_mem hk)
    refine ⟨?_, hx.2⟩
    unfold tok
    rw [if_pos hx.1, set_tab _ ht, hx.2]
    exact List.getElem_mem hk
  · unfold keyAt at h; rw [wordAt_past (by omega)] at h; cases h
set_option maxRecDepth 10000 in
set_option maxHeartbeats 1000000 in
theorem c_query (C M N : Nat) (ws : List RW) (m : Nat) (hI : Is C M N ws m) (i j : Nat) (W : World) (h : Cut C M N ws W) (hi : i < j) (hj : j ≤ ws.length) (hm : (j - i) * 20 < m) :
    Calls Tryz.prog 80 #[.pointer (some ⟨C, 0, none⟩), .int .i64 i, .int .i64 j] W (Post C M N ws W (¬ G query (st (ws.map tok) i j)) (D query (sw ws i j))) := by
  have hlen := h.len
  have HL : Hid (j ≤ (ws.map tok).length) := by show j ≤ _; simpa using hj
  go_enter Tryz.func80, Tryz.ntmps80
  go_wp2_with fail
  refine (hI core i j _ h (by omega) (by omega) (by omega) (by simpa [rk] using hm)).mono ?_
  rintro e w1 ⟨v1, rfl, hC1, hK1, hF1⟩
  rw [Int.toNat_natCast] at hF1
  go_wp2_with fail
  generalize hSe : w1.heap.size = S
  have hSM : S ≠ M := by have := hC1.mlt; omega
  have HS0 : Hid (Texts M S (w1.alloc (.cells #[.string ⟨#[117, 110, 105, 111, 110]⟩, .string ⟨#[105, 110, 116, 101, 114, 115, 101, 99, 116]⟩, .string ⟨#[101, 120, 99, 101, 112, 116]⟩] 9)) setW) := by
    refine ⟨hSM, fun k hk => ?_⟩
    have h3 : k < 3 := hk
    obtain ⟨c0, c1, c2⟩ := cell3s (heap_alloc_new w1 (.cells #[.string ⟨#[117, 110, 105, 111, 110]⟩, .string ⟨#[105, 110, 116, 101, 114, 115, 101, 99, 116]⟩, .string ⟨#[101, 120, 99, 101, 112, 116]⟩] 9))
    rw [hSe] at c0 c1 c2
    rcases k with _ | _ | _ | k
    · exact c0
    · exact c1
    · exact c2
    · omega
  have hC1' := hC1.alloc (.cells #[.string ⟨#[117, 110, 105, 111, 110]⟩, .string ⟨#[105, 110, 116, 101, 114, 115, 101, 99, 116]⟩, .string ⟨#[101, 120, 99, 101, 112, 116]⟩] 9)
  have hKa : Keep M w1 _ := Keep.alloc M w1 (.cells #[.string ⟨#[117, 110, 105, 111, 110]⟩, .string ⟨#[105, 110, 116, 101, 114, 115, 101, 99, 116]⟩, .string ⟨#[101, 120, 99, 101, 112, 116]⟩] 9)
  have hF1' := hF1.keep hKa
  have hK1' := hK1.trans hKa
  clear hF1 hKa hC1 hK1
  generalize w1.alloc (.cells #[.string ⟨#[117, 110, 105, 111, 110]⟩, .string ⟨#[105, 110, 116, 101, 114, 115, 101, 99, 116]⟩, .string ⟨#[101, 120, 99, 101, 112, 116]⟩] 9) = w2 at HS0 hC1' hF1' hK1' ⊢
  clear hSe w1
  go_loopg [7, 9] (j - i) (fun gk tv pv wr => ∃ p : Nat, i + 1 ≤ p ∧ p ≤ j ∧ gk = j - p + 1 ∧ pv = .int .i64 p ∧ Cut C M N ws wr ∧ Keep M w2 wr ∧ Ans M N wr tv (NoTilQ (ws.map tok) i j p) (D query (sw ws i j)))
  case atStart =>
    refine ⟨i + 1, by omega, by omega, by omega, rfl, hC1', Keep.refl _ _, ?_⟩
    rcases hF1' with ⟨e, hn⟩ | ⟨b, t, e, hb, hp, hd⟩
    · exact .inl ⟨e, hn, fun q h1 h2 => by omega⟩
    · exact .inr ⟨b, t, e, hb, hp, .qCore hd⟩
  case round =>
    obtain ⟨p, hp1, hp2, rfl, rfl, hC, hK, hA⟩ := hrel
    rcases hA with ⟨rfl, hno⟩ | ⟨b, t, rfl, hb, hp, hd⟩
    · by_cases hlt : p < j
      · have HNO : Hid (NoTilQ (ws.map tok) i j p) := hno
        clear hno
        go_wp2
        go_loopg [7, 10] (3 + 1) (fun gk tv kv w3 => ∃ k : Nat, k ≤ 3 ∧ gk = 3 - k + 1 ∧ kv = .int .i64 k ∧ Cut C M N ws w3 ∧ Keep M w2 w3 ∧ Ans M N w3 tv (∀ k', k' < k → ∀ (hk : k' < setW.length), keyAt ws (p : Int) setW[k'] = true → NoCutQ (ws.map tok) i j p) (D query (sw ws i j)))
        case atStart => exact ⟨0, by omega, by omega, rfl, hC, hK, .inl ⟨rfl, fun k' h => by omega⟩⟩
        case round =>
          obtain ⟨k, hk, rfl, rfl, hC2, hK2, hA2⟩ := hrel
          by_cases hkl : k < 3
          · have hkl' : k < setW.length := hkl
            have q4 := (HS0.out.keep hK2).2 k hkl'
            go_wp2_with fail
            refine (c_key C M N ws (p : Int) setW[k] _ hC2 (by omega) (by omega)).mono ?_
            rintro e w' ⟨rfl, rfl⟩
            cases hkey : keyAt ws (p : Int) setW[k] with
            | false =>
              go_wp2_with fail
              go_roundg (3 - (k + 1) + 1)
              case measure => omega
              case rel =>
                refine ⟨k + 1, by omega, rfl, by exact vint (by omega), hC2, hK2, ?_⟩
                rcases hA2 with ⟨e, hn⟩ | hA
                · refine .inl ⟨e, fun k' hk' hk2 e1 => ?_⟩
                  by_cases hkk : k' = k
                  · subst hkk; rw [hkey] at e1; cases e1
                  · exact hn k' (by omega) hk2 e1
                · exact .inr hA
            | true =>
              obtain ⟨hpw, hset, htext⟩ := key_set h.ok hkl' hkey
              have HSET : Hid (isSet (tok ws[p]) = true) := hset
              have HT : Hid (ws[p].text = setW[k]) := htext
              clear hset htext hkey
              go_wp2_with fail
              refine (c_key C M N ws ((p + 1 : Nat) : Int) [97, 108, 108] _ hC2 (by omega) (by omega)).mono ?_
              rintro e w' ⟨rfl, rfl⟩
              cases hall : keyAt ws ((p + 1 : Nat) : Int) [97, 108, 108] with
              | false =>
                have HFROM : Hid (fromQ (ws.map tok) p = p + 1) := by
                  show _ = _; unfold fromQ; rw [if_neg]
                  intro e; rw [(key_at h.ok ([97, 108, 108], T.all_) (by decide) (by decide) (p + 1)).2 e] at hall; cases hall
                clear hall
                go_wp2_with fail
                refine (hI query i p _ hC2 (by omega) (by omega) (by omega) (by simp [rk]; omega)).mono ?_
                rintro e w3 ⟨v3, rfl, hC3, hK3, hF3⟩
                rw [Int.toNat_natCast] at hF3
                go_wp2_with fail
                refine (hI core (p + 1) j _ hC3 (by omega) (by omega) (by omega) (by simp [rk]; omega)).mono ?_
                rintro e w4 ⟨v4, rfl, hC4, hK4, hF4⟩
                rw [Int.toNat_natCast] at hF4
                have hK24 : Keep M wr w4 := hK3.trans hK4
                have hKW := hK2.trans hK24
                have hA4 := hA2.keep hK24
                have HA4 : Hid (NoCutQ (ws.map tok) i j p → Ans M N w4 u7 (∀ k', k' < k + 1 → ∀ (hk : k' < setW.length), keyAt ws (p : Int) setW[k'] = true → NoCutQ (ws.map tok) i j p) (D query (sw ws i j))) := by
                  intro hnc
                  rcases hA4 with ⟨e, _⟩ | hA4
                  · exact .inl ⟨e, fun _ _ _ _ => hnc⟩
                  · exact .inr hA4
                clear hA4
                rcases hF3 with ⟨rfl, hn3⟩ | ⟨b3, t3, rfl, hb3, hp3, hd3⟩
                · have HN3 : Hid (NoCutQ (ws.map tok) i j p) := fun u _ _ h _ => hn3 h
                  clear hn3
                  go_wp2
                  go_roundg (3 - (k + 1) + 1)
                  case measure => omega
                  case rel => exact ⟨k + 1, by omega, rfl, by exact vint (by omega), hC4, hKW, HA4.out HN3.out⟩
                · rcases hF4 with ⟨rfl, hn4⟩ | ⟨b4, t4, rfl, hb4, hp4, hd4⟩
                  · have HN4 : Hid (NoCutQ (ws.map tok) i j p) := fun u _ _ _ => by rw [HFROM.out]; exact hn4
                    clear hn4
                    go_wp2
                    go_roundg (3 - (k + 1) + 1)
                    case measure => omega
                    case rel => exact ⟨k + 1, by omega, rfl, by exact vint (by omega), hC4, hKW, HA4.out HN4.out⟩
                  · have q5 := (HS0.out.keep hKW).2 k hkl'
                    go_wp2
                    go_roundg (3 - (k + 1) + 1)
                    case measure => omega
                    case rel =>
                      have hM := hC4.mlt
                      have hN := hC4.nlt
                      have hp3' := hp3.keep hK4
                      refine ⟨k + 1, by omega, rfl, by exact vint (by omega), (hC4.alloc _).alloc _, (hKW.trans (Keep.alloc M _ _)).trans (Keep.alloc M _ _), .inr ⟨_, _, rfl, ?_, mk_nd2 hM hN { kind := setW[k] } hp3' hp4, ?_⟩⟩
                      · simp; omega
                      · have e := D.qJoin (u := ws[p]) HSET.out hd3 hd4
                        rw [HT.out] at e
                        rw [sw_split ws (i := i) (p := p) (by omega) hlt hj]
                        exact e
              | true =>
                have HALL := (key_at h.ok ([97, 108, 108], T.all_) (by decide) (by decide) (p + 1)).1 hall
                have HFROM : Hid (fromQ (ws.map tok) p = p + 2) := by
                  show _ = _; unfold fromQ; rw [if_pos HALL]
                clear hall
                go_wp2_with fail
                refine (hI query i p _ hC2 (by omega) (by omega) (by omega) (by simp [rk]; omega)).mono ?_
                rintro e w3 ⟨v3, rfl, hC3, hK3, hF3⟩
                rw [Int.toNat_natCast] at hF3
                go_wp2_with fail
                refine (hI core (p + 2) j _ hC3 (by omega) (by omega) (by omega) (by simp [rk]; omega)).mono ?_
                rintro e w4 ⟨v4, rfl, hC4, hK4, hF4⟩
                rw [Int.toNat_natCast] at hF4
                have hK24 : Keep M wr w4 := hK3.trans hK4
                have hKW := hK2.trans hK24
                have hA4 := hA2.keep hK24
                have HA4 : Hid (NoCutQ (ws.map tok) i j p → Ans M N w4 u7 (∀ k', k' < k + 1 → ∀ (hk : k' < setW.length), keyAt ws (p : Int) setW[k'] = true → NoCutQ (ws.map tok) i j p) (D query (sw ws i j))) := by
                  intro hnc
                  rcases hA4 with ⟨e, _⟩ | hA4
                  · exact .inl ⟨e, fun _ _ _ _ => hnc⟩
                  · exact .inr hA4
                clear hA4
                rcases hF3 with ⟨rfl, hn3⟩ | ⟨b3, t3, rfl, hb3, hp3, hd3⟩
                · have HN3 : Hid (NoCutQ (ws.map tok) i j p) := fun u _ _ h _ => hn3 h
                  clear hn3
                  go_wp2
                  go_roundg (3 - (k + 1) + 1)
                  case measure => omega
                  case rel => exact ⟨k + 1, by omega, rfl, by exact vint (by omega), hC4, hKW, HA4.out HN3.out⟩
                · rcases hF4 with ⟨rfl, hn4⟩ | ⟨b4, t4, rfl, hb4, hp4, hd4⟩
                  · have HN4 : Hid (NoCutQ (ws.map tok) i j p) := fun u _ _ _ => by rw [HFROM.out]; exact hn4
                    clear hn4
                    go_wp2
                    go_roundg (3 - (k + 1) + 1)
                    case measure => omega
                    case rel => exact ⟨k + 1, by omega, rfl, by exact vint (by omega), hC4, hKW, HA4.out HN4.out⟩
                  · have q5 := (HS0.out.keep hKW).2 k hkl'
                    go_wp2
                    go_roundg (3 - (k + 1) + 1)
                    case measure => omega
                    case rel =>
                      have hM := hC4.mlt
                      have hN := hC4.nlt
                      have hp3' := hp3.keep hK4
                      refine ⟨k + 1, by omega, rfl, by exact vint (by omega), (hC4.alloc _).alloc _, (hKW.trans (Keep.alloc M _ _)).trans (Keep.alloc M _ _), .inr ⟨_, _, rfl, ?_, mk_nd2 hM hN { kind := setW[k], all := true } hp3' hp4, ?_⟩⟩
                      · simp; omega
                      · obtain ⟨hl1, ht1⟩ := tok_get HALL
                        have hne := g_nil hd4.g
                        have hpj : p + 2 < j := by
                          by_cases hh : p + 2 < j
                          · exact hh
                          · rw [sw_nil ws (by omega)] at hne; exact absurd rfl hne
                        have e := D.qJoinAll (u := ws[p]) HSET.out ht1 hd3 hd4
                        rw [HT.out] at e
                        rw [sw_split ws (i := i) (p := p) (by omega) hlt hj, sw_cons ws (i := p + 1) (by omega) hj]
                        exact e
          · go_wp2_with fail
            go_roundg (j - (p + 1) + 1)
            case measure => omega
            case rel =>
              refine ⟨p + 1, by omega, by omega, rfl, by exact vint (by omega), hC2, hK2, ?_⟩
              rcases hA2 with ⟨e, hn⟩ | hA
              · refine .inl ⟨e, HNO.out.1, fun q h1 h2 => ?_⟩
                by_cases hqp : q = p
                · subst hqp
                  intro u hu hju
                  obtain ⟨k', hk', e3⟩ := set_key h.ok hu hju
                  exact hn k' (by have : k' < 3 := hk'; omega) hk' e3 _ hu hju
                · exact HNO.out.2 q h1 (by omega)
              · exact .inr hA
      · go_wp2
        go_ret
        exact ⟨_, rfl, hC, hK1'.trans hK, .inl ⟨rfl, noTilQ_all HL.out (by rw [show j = p from by omega]; rw [show j = p from by omega] at hno; exact hno)⟩⟩
    · by_cases hlt : p < j <;>
        (go_wp2; go_ret; exact ⟨_, rfl, hC, hK1'.trans hK, .inr ⟨b, t, rfl, hb, hp, hd⟩⟩)
end Gr
end Go.Proofs.YtfkdfplnhlnnoaaGreatDoor
