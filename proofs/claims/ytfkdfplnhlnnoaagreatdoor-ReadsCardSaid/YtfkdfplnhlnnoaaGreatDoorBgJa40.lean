import Derived.Test.YtfkdfplnhlnnoaaGreatDoorBgCuK
section
namespace Go.Proofs.YtfkdfplnhlnnoaaGreatDoor
open Go.RowKit
namespace Gr
set_option linter.unusedSimpArgs false
set_option linter.unusedVariables false
open NT
theorem exists_first {l : List T} {r : List T} (h : G expr l) (e : l = T.exists_ :: r) : False := by
  obtain ⟨t, r', e', hf⟩ := first_of h
  rw [e] at e'
  obtain ⟨rfl, _⟩ := List.cons.inj e'
  exact absurd hf (by decide)
theorem basic_ex {w : List T} {i j : Nat} (hj : j ≤ w.length) (he : w[i]? = some T.exists_) (h : ¬ RoundG query (st w (i + 1) j)) : ¬ G basic (st w i j) := by
  intro hg
  rcases (inv_basic _).1 hg with ⟨a, e, ha⟩ | ⟨a, e, ha⟩ | ⟨a, s, e, ha, hs⟩
  · obtain ⟨_, _, e2⟩ := st_head hj e
    exact h ⟨a, e2, ha⟩
  · obtain ⟨_, e1, _⟩ := st_head hj e
    exact tok_ne he (by decide) e1
  · obtain ⟨t, r, e2, _⟩ := first_of ha
    rw [e2, List.cons_append] at e
    obtain ⟨_, e1, _⟩ := st_head hj e
    rw [he] at e1
    cases Option.some.inj e1
    exact exists_first ha e2
def NoAb (w : List T) (i j q : Nat) : Prop := G expr (st w i q) → ¬ About (st w q j)
def NoTilB (w : List T) (i j p : Nat) : Prop := ¬ RoundG cnd (st w i j) ∧ ∀ q, i < q → q < p → NoAb w i j q
theorem about_ne {s : List T} (h : About s) : s ≠ [] := by
  rcases h with rfl | rfl | ⟨q, rfl, _⟩ | ⟨q, rfl, _⟩ | ⟨u, q, rfl, _⟩ | ⟨b, rfl, _⟩ <;> simp
theorem noTilB_all {w : List T} {i j : Nat} (hj : j ≤ w.length) (he : w[i]? ≠ some T.exists_) (h : NoTilB w i j j) : ¬ G basic (st w i j) := by
  intro hg
  rcases (inv_basic _).1 hg with ⟨a, e, ha⟩ | ⟨a, e, ha⟩ | ⟨a, s, e, ha, hs⟩
  · obtain ⟨_, e1, _⟩ := st_head hj e
    exact he e1
  · exact h.1 ⟨a, e, ha⟩
  · have hne := g_nil ha
    cases hs0 : s with
    | nil => exact about_ne hs hs0
    | cons u r =>
      rw [hs0] at e
      obtain ⟨p, p1, p2, rfl, p3, rfl⟩ := st_of hj e
      have hip : i < p := by
        by_cases hh : i < p
        · exact hh
        · rw [st_nil w (by omega)] at hne; exact absurd rfl hne
      refine h.2 p hip p2 ha ?_
      rw [st_cons w p2 hj]
      rw [List.getElem?_eq_getElem (by omega)] at p3
      rw [Option.some.inj p3, ← hs0]
      exact hs
set_option maxRecDepth 10000 in
set_option maxHeartbeats 2000000 in
theorem c_basic (C M N : Nat) (ws : List RW) (m : Nat) (hI : Is C M N ws m) (i j : Nat) (W : World) (h : Cut C M N ws W) (hi : i < j) (hj : j ≤ ws.length) (hm : (j - i) * 20 ≤ m) :
    Calls Tryz.prog 89 #[.pointer (some ⟨C, 0, none⟩), .int .i64 i, .int .i64 j] W (Post C M N ws W (¬ G basic (st (ws.map tok) i j)) (D basic (sw ws i j))) := by
  have hlen := h.len
  have HL : Hid (j ≤ (ws.map tok).length) := by show j ≤ _; simpa using hj
  go_enter Tryz.func89, Tryz.ntmps89
  go_wp2_with fail
  refine (c_key C M N ws (i : Int) _ _ h (by omega) (by omega)).mono ?_
  rintro e w' ⟨rfl, rfl⟩
  cases he : keyAt ws (i : Int) [101, 120, 105, 115, 116, 115] with
  | true =>
    have HE : Hid ((ws.map tok)[i]? = some T.exists_) := (key_at h.ok ([101, 120, 105, 115, 116, 115], T.exists_) (by decide) (by decide) i).1 he
    clear he
    go_wp2_with fail
    refine (c_round C M N ws m hI query (i + 1) j _ h (by omega) (by omega) hj (by omega) (by omega)).mono ?_
    rintro e w1 ⟨v1, rfl, hC1, hK1, hF1⟩
    rcases hF1 with ⟨rfl, hno⟩ | ⟨b, t, rfl, hb, hp, o, a, c, e2, t1, t2, hd⟩
    · have HN : Hid (¬ G basic (st (ws.map tok) i j)) := basic_ex HL.out HE.out hno
      clear hno
      go_wp2_with fail
      go_ret
      exact ⟨_, rfl, hC1, hK1, .inl ⟨rfl, HN.out⟩⟩
    · have HQ : Hid (sw ws (i + 1) j = o :: (a ++ [c])) := e2
      clear e2
      go_wp2_with fail
      go_ret
      refine ⟨_, rfl, (hC1.alloc _).alloc _, (hK1.trans (Keep.alloc M _ _)).trans (Keep.alloc M _ _), .inr ⟨_, _, rfl, ?_, mk_nd1 hC1.mlt hC1.nlt { kind := [101, 120, 105, 115, 116, 115] } hp, ?_⟩⟩
      · have := hC1.nlt; simp; omega
      · obtain ⟨_, t0⟩ := tok_get HE.out
        rw [sw_cons ws hi hj, HQ.out]
        exact .bExists t0 t1 t2 hd
  | false =>
    have HE : Hid ((ws.map tok)[i]? ≠ some T.exists_) := key_no h.ok ([101, 120, 105, 115, 116, 115], T.exists_) (by decide) (by decide) he
    clear he
    go_wp2_with fail
    refine (c_round C M N ws m hI cnd i j _ h (by omega) (by omega) hj (by omega) (by omega)).mono ?_
    rintro e w1 ⟨v1, rfl, hC1, hK1, hF1⟩
    go_wp2_with fail
    go_loopg [9, 10] (j - i) (fun gk tv pv wr => ∃ p : Nat, i + 1 ≤ p ∧ p ≤ j ∧ gk = j - p + 1 ∧ pv = .int .i64 p ∧ Cut C M N ws wr ∧ Keep M W wr ∧ Ans M N wr tv (NoTilB (ws.map tok) i j p) (D basic (sw ws i j)))
    case atStart =>
      refine ⟨i + 1, by omega, by omega, by omega, rfl, hC1, hK1, ?_⟩
      rcases hF1 with ⟨e, hn⟩ | ⟨b, t, e, hb, hp, o, a, c, e2, t1, t2, hd⟩
      · exact .inl ⟨e, hn, fun q h1 h2 => by omega⟩
      · exact .inr ⟨b, t, e, hb, hp, by rw [e2]; exact .bRound t1 t2 hd⟩
    case round =>
      obtain ⟨p, hp1, hp2, rfl, rfl, hC, hK, hA⟩ := hrel
      rcases hA with ⟨rfl, hno⟩ | ⟨b, t, rfl, hb, hp, hd⟩
      · by_cases hlt : p < j
        · have HNX : Hid (NoAb (ws.map tok) i j p → NoTilB (ws.map tok) i j (p + 1)) := fun hn => ⟨hno.1, fun q h1 h2 => by
            by_cases e : q = p
            · subst e; exact hn
            · exact hno.2 q h1 (by omega)⟩
          clear hno
          go_wp2_with fail
          refine (hI expr i p _ hC (by omega) (by omega) (by omega) (by simp [rk]; omega)).mono ?_
          rintro e w3 ⟨v3, rfl, hC3, hK3, hF3⟩
          rw [Int.toNat_natCast] at hF3
          rcases hF3 with ⟨rfl, hn3⟩ | ⟨b3, t3, rfl, hb3, hp3, hd3⟩
          · have HN : Hid (NoAb (ws.map tok) i j p) := fun hg => absurd hg hn3
            clear hn3
            go_wp2_with fail
            go_roundg (j - (p + 1) + 1)
            case measure => omega
            case rel => exact ⟨p + 1, by omega, by omega, rfl, by exact vint (by omega), hC3, hK.trans hK3, .inl ⟨rfl, HNX.out HN.out⟩⟩
          · go_wp2_with fail
            refine (c_about C M N ws m hI p j _ hC3 t3 b3 hp3 hlt hj (by omega)).mono ?_
            rintro e w4 ⟨v4, rfl, hC4, hK4, hF4⟩
            go_wp2_with fail
            go_roundg (j - (p + 1) + 1)
            case measure => omega
            case rel =>
              refine ⟨p + 1, by omega, by omega, rfl, by exact vint (by omega), hC4, (hK.trans hK3).trans hK4, ?_⟩
              rcases hF4 with ⟨rfl, hn4⟩ | ⟨b4, t4, rfl, hb4, hp4, hd4⟩
              · exact .inl ⟨rfl, HNX.out (fun _ => hn4)⟩
              · refine .inr ⟨b4, t4, rfl, hb4, hp4, ?_⟩
                rw [sw_app ws (i := i) (p := p) (by omega) (by omega)]
                exact hd4 _ hd3
        · go_wp2_with fail
          go_ret
          exact ⟨_, rfl, hC, hK, .inl ⟨rfl, noTilB_all HL.out HE.out (by rw [show j = p from by omega]; rw [show j = p from by omega] at hno; exact hno)⟩⟩
      · by_cases hlt : p < j <;>
          (go_wp2_with fail; go_ret; exact ⟨_, rfl, hC, hK, .inr ⟨b, t, rfl, hb, hp, hd⟩⟩)
end Gr
end Go.Proofs.YtfkdfplnhlnnoaaGreatDoor
end
section
namespace Go.Proofs.YtfkdfplnhlnnoaaGreatDoor
open Go.RowKit
namespace Gr
set_option linter.unusedSimpArgs false
set_option linter.unusedVariables false
open NT
def fnW : List Bg.Str := [[99, 111, 117, 110, 116], [115, 117, 109], [109, 105, 110], [109, 97, 120]]
theorem fn_tab : ∀ x ∈ keyToks.map Prod.fst, (isAgg (keyTok x) = true ↔ x ∈ fnW) := by decide
theorem fn_count : ∀ k (hk : k < fnW.length), (keyTok fnW[k] = T.count ↔ k = 0) := by decide
theorem agg_nosign : ∀ x ∈ signToks.map Prod.fst, isAgg (signTok x) = false := by decide
theorem agg_key {ws : List RW} (ok : ∀ w ∈ ws, Ok1 w) {p : Nat} {u : T} (hu : (ws.map tok)[p]? = some u) (ha : isAgg u = true) : ∃ k, ∃ hk : k < fnW.length, keyAt ws (p : Int) fnW[k] = true := by
  obtain ⟨hl, e⟩ := tok_get hu
  have hw := ok _ (List.getElem_mem hl)
  have h12 : ws[p].sort = kKey ∧ ws[p].text ∈ fnW := by
    rw [← e] at ha
    unfold tok at ha
    rcases hw with ⟨hs, ht⟩ | ⟨hs, ht⟩ | hs | hs | hs
    · rw [hs, if_pos rfl] at ha; exact ⟨hs, (fn_tab _ ht).1 ha⟩
    · rw [hs, if_neg (by decide), if_pos rfl, agg_nosign _ ht] at ha; cases ha
    · rw [hs, if_neg (by decide), if_neg (by decide), if_pos rfl] at ha; cases ha
    · rw [hs, if_neg (by decide), if_neg (by decide), if_neg (by decide)] at ha; cases ha
    · rw [hs, if_neg (by decide), if_neg (by decide), if_neg (by decide)] at ha; cases ha
  obtain ⟨k, hk, e3⟩ := List.getElem_of_mem h12.2
  refine ⟨k, hk, ?_⟩
  unfold keyAt
  rw [wordAt_in hl]
  show keyB ws[p] fnW[k] = true
  unfold keyB
  rw [h12.1, e3]
  simp
theorem key_agg {ws : List RW} (ok : ∀ w ∈ ws, Ok1 w) {p k : Nat} (hk : k < fnW.length) (h : keyAt ws (p : Int) fnW[k] = true) : ∃ hl : p < ws.length, isAgg (tok ws[p]) = true ∧ ws[p].text = fnW[k] ∧ (tok ws[p] = T.count ↔ k = 0) := by
  by_cases hl : p < ws.length
  · refine ⟨hl, ?_⟩
    have hx : keyB ws[p] fnW[k] = true := by unfold keyAt at h; rw [wordAt_in hl] at h; exact h
    unfold keyB at hx
    simp only [Bool.and_eq_true, beq_iff_eq] at hx
    have ht : ws[p].text ∈ keyToks.map Prod.fst := by rw [hx.2]; exact (show ∀ x ∈ fnW, x ∈ keyToks.map Prod.fst by decide) _ (List.getElem_mem hk)
    have et : tok ws[p] = keyTok fnW[k] := by unfold tok; rw [if_pos hx.1, hx.2]
    refine ⟨?_, hx.2, by rw [et]; exact fn_count k hk⟩
    unfold tok
    rw [if_pos hx.1, fn_tab _ ht, hx.2]
    exact List.getElem_mem hk
  · unfold keyAt at h; rw [wordAt_past (by omega)] at h; cases h
theorem at_four {w : List T} {i j : Nat} {t u v x : T} (hj : j ≤ w.length) (h : st w i j = [t, u, v, x]) : j = i + 4 ∧ w[i]? = some t ∧ w[i + 1]? = some u ∧ w[i + 2]? = some v ∧ w[i + 3]? = some x := by
  obtain ⟨_, e1, e2⟩ := st_head hj h
  obtain ⟨e3, e4, e5, e6⟩ := at_three hj e2
  exact ⟨by omega, e1, e4, e5, e6⟩
theorem sw_four {w : List RW} {i : Nat} (h : i + 3 < w.length) : sw w i (i + 4) = [w[i], w[i + 1], w[i + 2], w[i + 3]] := by
  rw [sw_cons w (by omega) (by omega), sw_cons w (by omega) (by omega), sw_cons w (by omega) (by omega), sw_cons w (by omega) (by omega), sw_nil w (by omega)]
theorem factor_inv {w : List T} {i j : Nat} (hj : j ≤ w.length) (h : G factor (st w i j)) :
    (w[i]? = some T.minus ∧ G factor (st w (i + 1) j)) ∨ (j = i + 1 ∧ (w[i]? = some T.lit ∨ w[i]? = some T.null)) ∨ (w[i]? = some T.count ∧ j = i + 4 ∧ w[i + 1]? = some T.lp ∧ w[i + 2]? = some T.star ∧ w[i + 3]? = some T.rp) ∨
    (∃ u, w[i]? = some u ∧ isAgg u = true ∧ RoundG expr (st w (i + 1) j)) ∨ (w[i]? = some T.lp ∧ RoundG expr (st w i j)) ∨ (w[i]? = some T.name ∧ G column (st w i j)) := by
  rcases (inv_factor _).1 h with ⟨a, e, ha⟩ | e | e | e | ⟨u, a, e, hu, ha⟩ | ⟨a, e, ha⟩ | hc
  · obtain ⟨_, e1, e2⟩ := st_head hj e
    exact .inl ⟨e1, by rw [e2]; exact ha⟩
  · obtain ⟨e1, e2⟩ := at_one hj e
    exact .inr (.inl ⟨e1, .inl e2⟩)
  · obtain ⟨e1, e2⟩ := at_one hj e
    exact .inr (.inl ⟨e1, .inr e2⟩)
  · obtain ⟨e1, e2, e3, e4, e5⟩ := at_four hj e
    exact .inr (.inr (.inl ⟨e2, e1, e3, e4, e5⟩))
  · obtain ⟨_, e1, e2⟩ := st_head hj e
    exact .inr (.inr (.inr (.inl ⟨u, e1, hu, a, e2, ha⟩)))
  · obtain ⟨_, e1, e2⟩ := st_head hj e
    exact .inr (.inr (.inr (.inr (.inl ⟨e1, a, e, ha⟩))))
  · refine .inr (.inr (.inr (.inr (.inr ⟨?_, hc⟩))))
    rcases (inv_column _).1 hc with e | e
    · exact (at_one hj e).2
    · exact (at_three hj e).2.1
theorem cell4t {w : World} {b : Nat} {x y z t : Value} {ty : TypeId} (h : w.heap[b]? = some (.cells #[x, y, z, t] ty (0, 0))) : w.cell? ⟨b, 0, none⟩ = some x ∧ w.cell? ⟨b, 1, none⟩ = some y ∧ w.cell? ⟨b, 2, none⟩ = some z ∧ w.cell? ⟨b, 3, none⟩ = some t :=
  ⟨by simp [World.cell?, h], by simp [World.cell?, h], by simp [World.cell?, h], by simp [World.cell?, h]⟩
end Gr
end Go.Proofs.YtfkdfplnhlnnoaaGreatDoor
end
