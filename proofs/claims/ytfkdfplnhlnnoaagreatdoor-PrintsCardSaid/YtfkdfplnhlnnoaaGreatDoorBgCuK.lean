import Derived.Test.YtfkdfplnhlnnoaaGreatDoorBgCuG
import Derived.Test.YtfkdfplnhlnnoaaGreatDoorBgCuI
import Derived.Test.YtfkdfplnhlnnoaaGreatDoorBgJa35
namespace Go.Proofs.YtfkdfplnhlnnoaaGreatDoor
open Go.RowKit
namespace Gr
set_option linter.unusedSimpArgs false
set_option linter.unusedVariables false
open NT
theorem how_first {l : List T} {u : T} {r : List T} (h : G expr l) (e : l = u :: r) : isHow u = false := by
  obtain ⟨t, r', e', hf⟩ := first_of h
  rw [e] at e'
  obtain ⟨rfl, _⟩ := List.cons.inj e'
  cases u <;> first | rfl | exact absurd hf (by decide)
theorem at_two {w : List T} {i j : Nat} {t u : T} (hj : j ≤ w.length) (h : st w i j = [t, u]) : j = i + 2 ∧ w[i]? = some t ∧ w[i + 1]? = some u := by
  have hl := congrArg List.length h
  rw [st_len w hj] at hl
  simp at hl
  obtain rfl : j = i + 2 := by omega
  rw [st_cons w (by omega) (by omega), st_cons w (by omega) (by omega)] at h
  simp only [List.cons.injEq] at h
  exact ⟨rfl, by rw [List.getElem?_eq_getElem (by omega), h.1], by rw [List.getElem?_eq_getElem (by omega), h.2.1]⟩
theorem st_head {w : List T} {i j : Nat} {t : T} {r : List T} (hj : j ≤ w.length) (h : st w i j = t :: r) : i < j ∧ w[i]? = some t ∧ st w (i + 1) j = r := by
  have hi : i < j := by
    by_cases hh : i < j
    · exact hh
    · rw [st_nil w (by omega)] at h; cases h
  rw [st_cons w hi hj] at h
  obtain ⟨e1, e2⟩ := List.cons.inj h
  exact ⟨hi, by rw [List.getElem?_eq_getElem (by omega), e1], e2⟩
/-- what About says, by the words' places -/
theorem about_inv {w : List T} {p j : Nat} (hj : j ≤ w.length) (h : About (st w p j)) :
    (w[p]? = some T.is_ ∧ ((w[p + 1]? = some T.null ∧ j = p + 2) ∨ (w[p + 1]? = some T.not_ ∧ w[p + 2]? = some T.null ∧ j = p + 3))) ∨
    (w[p]? = some T.in_ ∧ RoundG query (st w (p + 1) j)) ∨
    (w[p]? = some T.not_ ∧ w[p + 1]? = some T.in_ ∧ RoundG query (st w (p + 2) j)) ∨
    (w[p]? = some T.cmp ∧ ((∃ u, w[p + 1]? = some u ∧ isHow u = true ∧ RoundG query (st w (p + 2) j)) ∨ ((∀ u, w[p + 1]? = some u → isHow u = false) ∧ G expr (st w (p + 1) j)))) := by
  rcases h with h | h | ⟨q, h, hq⟩ | ⟨q, h, hq⟩ | ⟨u, q, h, hu, hq⟩ | ⟨b, h, hb⟩
  · obtain ⟨e1, e2, e3⟩ := at_two hj h
    exact .inl ⟨e2, .inl ⟨e3, e1⟩⟩
  · obtain ⟨e1, e2, e3, e4⟩ := at_three hj h
    exact .inl ⟨e2, .inr ⟨e3, e4, e1⟩⟩
  · obtain ⟨_, e1, e2⟩ := st_head hj h
    exact .inr (.inl ⟨e1, q, e2, hq⟩)
  · obtain ⟨_, e1, e2⟩ := st_head hj h
    obtain ⟨_, e3, e4⟩ := st_head hj e2
    exact .inr (.inr (.inl ⟨e1, e3, q, e4, hq⟩))
  · obtain ⟨_, e1, e2⟩ := st_head hj h
    obtain ⟨_, e3, e4⟩ := st_head hj e2
    exact .inr (.inr (.inr ⟨e1, .inl ⟨u, e3, hu, q, e4, hq⟩⟩))
  · obtain ⟨_, e1, e2⟩ := st_head hj h
    refine .inr (.inr (.inr ⟨e1, .inr ⟨fun u hu => ?_, by rw [e2]; exact hb⟩⟩))
    obtain ⟨t, r, e3, _⟩ := first_of hb
    rw [e3] at e2
    obtain ⟨_, e4, _⟩ := st_head hj e2
    rw [hu] at e4
    cases Option.some.inj e4
    exact how_first hb e3
def cmpW : List Bg.Str := [[61], [60, 62], [60], [60, 61], [62], [62, 61]]
theorem cell6s {w : World} {b : Nat} {x y z t u v : Value} {ty : TypeId} (h : w.heap[b]? = some (.cells #[x, y, z, t, u, v] ty (0, 0))) : w.cell? ⟨b, 0, none⟩ = some x ∧ w.cell? ⟨b, 1, none⟩ = some y ∧ w.cell? ⟨b, 2, none⟩ = some z ∧ w.cell? ⟨b, 3, none⟩ = some t ∧ w.cell? ⟨b, 4, none⟩ = some u ∧ w.cell? ⟨b, 5, none⟩ = some v :=
  ⟨by simp [World.cell?, h], by simp [World.cell?, h], by simp [World.cell?, h], by simp [World.cell?, h], by simp [World.cell?, h], by simp [World.cell?, h]⟩
theorem cmp_tabW : ∀ x ∈ signToks.map Prod.fst, (signTok x = T.cmp ↔ x ∈ cmpW) := by decide
theorem cmp_nokey : ∀ x ∈ keyToks.map Prod.fst, keyTok x ≠ T.cmp := by decide
theorem tok_cmpW {w : RW} (hw : Ok1 w) (h : tok w = T.cmp) : w.sort = kSign ∧ w.text ∈ cmpW := by
  unfold tok at h
  rcases hw with ⟨hs, ht⟩ | ⟨hs, ht⟩ | hs | hs | hs
  · rw [hs, if_pos rfl] at h; exact absurd h (cmp_nokey _ ht)
  · rw [hs, if_neg (by decide), if_pos rfl] at h; exact ⟨hs, (cmp_tabW _ ht).1 h⟩
  · rw [hs, if_neg (by decide), if_neg (by decide), if_pos rfl] at h; cases h
  · rw [hs, if_neg (by decide), if_neg (by decide), if_neg (by decide)] at h; cases h
  · rw [hs, if_neg (by decide), if_neg (by decide), if_neg (by decide)] at h; cases h
theorem cmp_sign {ws : List RW} (ok : ∀ w ∈ ws, Ok1 w) {p : Nat} (hu : (ws.map tok)[p]? = some T.cmp) : ∃ k, ∃ hk : k < cmpW.length, signAt ws (p : Int) cmpW[k] = true := by
  obtain ⟨hl, e⟩ := tok_get hu
  obtain ⟨h1, h2⟩ := tok_cmpW (ok _ (List.getElem_mem hl)) e
  obtain ⟨k, hk, e3⟩ := List.getElem_of_mem h2
  refine ⟨k, hk, ?_⟩
  unfold signAt
  rw [wordAt_in hl]
  show signB ws[p] cmpW[k] = true
  unfold signB
  rw [h1, e3]
  simp
theorem sign_cmp {ws : List RW} (ok : ∀ w ∈ ws, Ok1 w) {p k : Nat} (hk : k < cmpW.length) (h : signAt ws (p : Int) cmpW[k] = true) : ∃ hl : p < ws.length, tok ws[p] = T.cmp ∧ ws[p].text = cmpW[k] := by
  by_cases hl : p < ws.length
  · refine ⟨hl, ?_⟩
    have hx : signB ws[p] cmpW[k] = true := by unfold signAt at h; rw [wordAt_in hl] at h; exact h
    unfold signB at hx
    simp only [Bool.and_eq_true, beq_iff_eq] at hx
    have ht : ws[p].text ∈ signToks.map Prod.fst := by rw [hx.2]; exact (show ∀ x ∈ cmpW, x ∈ signToks.map Prod.fst by decide) _ (List.getElem_mem hk)
    refine ⟨?_, hx.2⟩
    unfold tok
    rw [if_neg (by rw [hx.1]; decide), if_pos hx.1]
    exact (cmp_tabW _ ht).2 (by rw [hx.2]; exact List.getElem_mem hk)
  · unfold signAt at h; rw [wordAt_past (by omega)] at h; cases h
/-- no token of two kinds at one place -/
theorem tok_ne {w : List T} {p : Nat} {t u : T} (h : w[p]? = some t) (hne : t ≠ u) : w[p]? ≠ some u := fun e => hne (Option.some.inj (h.symm.trans e))
theorem key_no {ws : List RW} (ok : ∀ w ∈ ws, Ok1 w) (y : Bg.Str × T) (hy : y ∈ keyToks) (hc : y.2 ≠ T.agg) {i : Nat} (h : keyAt ws (i : Int) y.1 = false) : (ws.map tok)[i]? ≠ some y.2 := fun e => by
  rw [(key_at ok y hy hc i).2 e] at h; cases h
theorem sign_no {ws : List RW} (ok : ∀ w ∈ ws, Ok1 w) (y : Bg.Str × T) (hy : y ∈ signToks) (hc : y.2 ≠ T.cmp) {i : Nat} (h : signAt ws (i : Int) y.1 = false) : (ws.map tok)[i]? ≠ some y.2 := fun e => by
  rw [(sign_at ok y hy hc i).2 e] at h; cases h
/-- what is told of an expression by the words behind it -/
def AboutD (ta : Tr) (s : List RW) (t : Tr) : Prop := ∀ l, D expr l ta → D basic (l ++ s) t
set_option maxRecDepth 10000 in
set_option maxHeartbeats 4000000 in
theorem c_about (C M N : Nat) (ws : List RW) (m : Nat) (hI : Is C M N ws m) (p j : Nat) (W : World) (h : Cut C M N ws W) (ta : Tr) (ba : Nat) (hpa : PtrAt M N W ta (.pointer (some ⟨ba, 0, none⟩))) (hi : p < j) (hj : j ≤ ws.length) (hm : (j - p) * 20 ≤ m) :
    Calls Tryz.prog 121 #[.pointer (some ⟨C, 0, none⟩), .pointer (some ⟨ba, 0, none⟩), .int .i64 p, .int .i64 j] W (Post C M N ws W (¬ About (st (ws.map tok) p j)) (AboutD ta (sw ws p j))) := by
  have hlen := h.len
  have hC := h
  have HL : Hid (j ≤ (ws.map tok).length) := by show j ≤ _; simpa using hj
  go_enter Tryz.func121, Tryz.ntmps121
  go_wp2_with fail
  refine (c_key C M N ws ((p : Nat) : Int) _ _ hC (by omega) (by omega)).mono ?_
  rintro e w' ⟨rfl, rfl⟩
  cases kis : keyAt ws ((p : Nat) : Int) [105, 115] with
  | true =>
    have HIS : Hid ((ws.map tok)[p]? = some T.is_) := (key_at h.ok ([105, 115], T.is_) (by decide) (by decide) (p)).1 kis
    clear kis
    go_wp2_with fail
    refine (c_key C M N ws ((p + 1 : Nat) : Int) _ _ hC (by omega) (by omega)).mono ?_
    rintro e w' ⟨rfl, rfl⟩
    cases knot : keyAt ws ((p + 1 : Nat) : Int) [110, 111, 116] with
    | true =>
      have HNOT : Hid ((ws.map tok)[p + 1]? = some T.not_) := (key_at h.ok ([110, 111, 116], T.not_) (by decide) (by decide) (p + 1)).1 knot
      clear knot
      go_wp2_with fail
      refine (c_key C M N ws ((p + 2 : Nat) : Int) _ _ hC (by omega) (by omega)).mono ?_
      rintro e w' ⟨rfl, rfl⟩
      cases knull : keyAt ws ((p + 2 : Nat) : Int) [110, 117, 108, 108] with
      | false =>
        have HN : Hid (¬ About (st (ws.map tok) p j)) := fun ha => by
            rcases about_inv HL.out ha with ⟨_, ⟨e, _⟩ | ⟨e, e2, _⟩⟩ | ⟨e, _⟩ | ⟨e, _⟩ | ⟨e, _⟩
            · exact tok_ne HNOT.out (by decide) e
            · exact key_no h.ok ([110, 117, 108, 108], T.null) (by decide) (by decide) knull e2
            · exact tok_ne HIS.out (by decide) e
            · exact tok_ne HIS.out (by decide) e
            · exact tok_ne HIS.out (by decide) e
        go_wp2_with fail
        go_ret
        exact ⟨_, rfl, hC, Keep.refl _ _, .inl ⟨rfl, HN.out⟩⟩
      | true =>
        have HNULL : Hid ((ws.map tok)[p + 2]? = some T.null) := (key_at h.ok ([110, 117, 108, 108], T.null) (by decide) (by decide) (p + 2)).1 knull
        by_cases hje : j = p + 3
        · subst hje
          go_wp2_with fail
          go_ret
          refine ⟨_, rfl, (hC.alloc _).alloc _, (Keep.alloc M _ _).trans (Keep.alloc M _ _), .inr ⟨_, _, rfl, ?_, mk_nd1 hC.mlt hC.nlt { kind := [105, 115, 110, 117, 108, 108], not_ := true } hpa, fun l hl => ?_⟩⟩
          · have := hC.nlt; simp; omega
          · skip
            obtain ⟨hl0, t0⟩ := tok_get HIS.out
            obtain ⟨hl1, t1⟩ := tok_get HNOT.out
            obtain ⟨hl2, t2⟩ := tok_get HNULL.out
            rw [sw_three (by omega)]
            exact .bNotNull t0 t1 t2 hl
        · have HN : Hid (¬ About (st (ws.map tok) p j)) := fun ha => by
            rcases about_inv HL.out ha with ⟨_, ⟨e, e3⟩ | ⟨e, e2, e3⟩⟩ | ⟨e, _⟩ | ⟨e, _⟩ | ⟨e, _⟩
            · exact tok_ne HNOT.out (by decide) e
            · exact hje e3
            · exact tok_ne HIS.out (by decide) e
            · exact tok_ne HIS.out (by decide) e
            · exact tok_ne HIS.out (by decide) e
          have hje' : ¬ ((j : Int) = (p : Int) + 3) := by omega
          go_wp2_with fail
          go_ret
          exact ⟨_, rfl, hC, Keep.refl _ _, .inl ⟨rfl, HN.out⟩⟩
    | false =>
      have HNOT : Hid ((ws.map tok)[p + 1]? ≠ some T.not_) := key_no h.ok ([110, 111, 116], T.not_) (by decide) (by decide) knot
      clear knot
      go_wp2_with fail
      refine (c_key C M N ws ((p + 1 : Nat) : Int) _ _ hC (by omega) (by omega)).mono ?_
      rintro e w' ⟨rfl, rfl⟩
      cases knull : keyAt ws ((p + 1 : Nat) : Int) [110, 117, 108, 108] with
      | false =>
        have HN : Hid (¬ About (st (ws.map tok) p j)) := fun ha => by
            rcases about_inv HL.out ha with ⟨_, ⟨e, _⟩ | ⟨e, e2, _⟩⟩ | ⟨e, _⟩ | ⟨e, _⟩ | ⟨e, _⟩
            · exact key_no h.ok ([110, 117, 108, 108], T.null) (by decide) (by decide) knull e
            · exact HNOT.out e
            · exact tok_ne HIS.out (by decide) e
            · exact tok_ne HIS.out (by decide) e
            · exact tok_ne HIS.out (by decide) e
        go_wp2_with fail
        go_ret
        exact ⟨_, rfl, hC, Keep.refl _ _, .inl ⟨rfl, HN.out⟩⟩
      | true =>
        have HNULL : Hid ((ws.map tok)[p + 1]? = some T.null) := (key_at h.ok ([110, 117, 108, 108], T.null) (by decide) (by decide) (p + 1)).1 knull
        by_cases hje : j = p + 2
        · subst hje
          go_wp2_with fail
          go_ret
          refine ⟨_, rfl, (hC.alloc _).alloc _, (Keep.alloc M _ _).trans (Keep.alloc M _ _), .inr ⟨_, _, rfl, ?_, mk_nd1 hC.mlt hC.nlt { kind := [105, 115, 110, 117, 108, 108] } hpa, fun l hl => ?_⟩⟩
          · have := hC.nlt; simp; omega
          · skip
            obtain ⟨hl0, t0⟩ := tok_get HIS.out
            obtain ⟨hl1, t1⟩ := tok_get HNULL.out
            rw [sw_cons ws (by omega) (by omega), sw_one (by omega)]
            exact .bNull t0 t1 hl
        · have HN : Hid (¬ About (st (ws.map tok) p j)) := fun ha => by
            rcases about_inv HL.out ha with ⟨_, ⟨e, e3⟩ | ⟨e, e2, e3⟩⟩ | ⟨e, _⟩ | ⟨e, _⟩ | ⟨e, _⟩
            · exact hje e3
            · exact HNOT.out e
            · exact tok_ne HIS.out (by decide) e
            · exact tok_ne HIS.out (by decide) e
            · exact tok_ne HIS.out (by decide) e
          have hje' : ¬ ((j : Int) = (p : Int) + 2) := by omega
          go_wp2_with fail
          go_ret
          exact ⟨_, rfl, hC, Keep.refl _ _, .inl ⟨rfl, HN.out⟩⟩
  | false =>
    have HIS : Hid ((ws.map tok)[p]? ≠ some T.is_) := key_no h.ok ([105, 115], T.is_) (by decide) (by decide) kis
    clear kis
    go_wp2_with fail
    refine (c_key C M N ws ((p : Nat) : Int) _ _ hC (by omega) (by omega)).mono ?_
    rintro e w' ⟨rfl, rfl⟩
    cases knot : keyAt ws ((p : Nat) : Int) [110, 111, 116] with
    | true =>
      have HNOT : Hid ((ws.map tok)[p]? = some T.not_) := (key_at h.ok ([110, 111, 116], T.not_) (by decide) (by decide) (p)).1 knot
      clear knot
      go_wp2_with fail
      refine (c_key C M N ws ((p + 1 : Nat) : Int) _ _ hC (by omega) (by omega)).mono ?_
      rintro e w' ⟨rfl, rfl⟩
      cases kin : keyAt ws ((p + 1 : Nat) : Int) [105, 110] with
      | true =>
        have HIN : Hid ((ws.map tok)[p + 1]? = some T.in_) := (key_at h.ok ([105, 110], T.in_) (by decide) (by decide) (p + 1)).1 kin
        clear kin
        go_wp2_with fail
        refine (c_round C M N ws m hI query (p + 2) j _ hC (by omega) (by omega) hj (by omega) (by omega)).mono ?_
        rintro e w1 ⟨v1, rfl, hC1, hK1, hF1⟩
        rcases hF1 with ⟨rfl, hno⟩ | ⟨b, t, rfl, hb, hp, o, a, c, e2, t1, t2, hd⟩
        · have HN : Hid (¬ About (st (ws.map tok) p j)) := fun ha => by
            rcases about_inv HL.out ha with ⟨e, _⟩ | ⟨e, e2⟩ | ⟨e, e1, e2⟩ | ⟨e, _⟩
            · exact HIS.out e
            · exact tok_ne HNOT.out (by decide) e
            · exact hno e2
            · exact tok_ne HNOT.out (by decide) e
          clear hno
          go_wp2_with fail
          go_ret
          exact ⟨_, rfl, hC1, hK1, .inl ⟨rfl, HN.out⟩⟩
        · have HE : Hid (sw ws (p + 2) j = o :: (a ++ [c])) := e2
          clear e2
          have hpj : p + 2 < j := by
            by_cases hh : p + 2 < j
            · exact hh
            · have := HE.out; rw [sw_nil ws (by omega)] at this; cases this
          have hpa1 := hpa.keep hK1
          go_wp2_with fail
          go_ret
          refine ⟨_, rfl, (hC1.alloc _).alloc _, (hK1.trans (Keep.alloc M _ _)).trans (Keep.alloc M _ _), .inr ⟨_, _, rfl, ?_, mk_nd2 hC1.mlt hC1.nlt { kind := [105, 110], not_ := true } hpa1 hp, fun l hl => ?_⟩⟩
          · have := hC1.nlt; simp; omega
          · have e2 := HE.out
            obtain ⟨hl0, t3⟩ := tok_get HNOT.out
            obtain ⟨hl1, t4⟩ := tok_get HIN.out
            rw [sw_cons ws (i := p) (by omega) hj, sw_cons ws (i := p + 1) (by omega) hj, show p + 1 + 1 = p + 2 from rfl, e2]
            exact .bNotIn t3 t4 t1 t2 hl hd
      | false =>
        have HIN : Hid ((ws.map tok)[p + 1]? ≠ some T.in_) := key_no h.ok ([105, 110], T.in_) (by decide) (by decide) kin
        clear kin
        go_wp2_with fail
        have HS0 : Hid (Texts M W.heap.size (W.alloc (.cells #[.string ⟨#[61]⟩, .string ⟨#[60, 62]⟩, .string ⟨#[60]⟩, .string ⟨#[60, 61]⟩, .string ⟨#[62]⟩, .string ⟨#[62, 61]⟩] 9)) cmpW) := by
          refine ⟨by have := hC.mlt; omega, fun k hk => ?_⟩
          have h3 : k < 6 := hk
          obtain ⟨c0, c1, c2, c3, c4, c5⟩ := cell6s (heap_alloc_new W (.cells #[.string ⟨#[61]⟩, .string ⟨#[60, 62]⟩, .string ⟨#[60]⟩, .string ⟨#[60, 61]⟩, .string ⟨#[62]⟩, .string ⟨#[62, 61]⟩] 9))
          rcases k with _ | _ | _ | _ | _ | _ | k
          · exact c0
          · exact c1
          · exact c2
          · exact c3
          · exact c4
          · exact c5
          · omega
        have hC0 := hC.alloc (.cells #[.string ⟨#[61]⟩, .string ⟨#[60, 62]⟩, .string ⟨#[60]⟩, .string ⟨#[60, 61]⟩, .string ⟨#[62]⟩, .string ⟨#[62, 61]⟩] 9)
        have hK0 : Keep M W _ := Keep.alloc M W (.cells #[.string ⟨#[61]⟩, .string ⟨#[60, 62]⟩, .string ⟨#[60]⟩, .string ⟨#[60, 61]⟩, .string ⟨#[62]⟩, .string ⟨#[62, 61]⟩] 9)
        generalize hSe : W.heap.size = S at HS0 ⊢
        generalize W.alloc (.cells #[.string ⟨#[61]⟩, .string ⟨#[60, 62]⟩, .string ⟨#[60]⟩, .string ⟨#[60, 61]⟩, .string ⟨#[62]⟩, .string ⟨#[62, 61]⟩] 9) = w0 at HS0 hC0 hK0 ⊢
        go_loopg [18] (6 + 1) (fun gk kv wr => ∃ k : Nat, k ≤ 6 ∧ gk = 6 - k + 1 ∧ kv = .int .i64 k ∧ Cut C M N ws wr ∧ Keep M w0 wr ∧ ∀ k', k' < k → ∀ (hk : k' < cmpW.length), signAt ws (p : Int) cmpW[k'] = true → ¬ About (st (ws.map tok) p j))
        case atStart => exact ⟨0, by omega, by omega, rfl, hC0, Keep.refl _ _, fun k' h => by omega⟩
        case round =>
          obtain ⟨k, hk, rfl, rfl, hC2, hK2, hno⟩ := hrel
          have HNO : Hid (∀ k', k' < k → ∀ (hk : k' < cmpW.length), signAt ws (p : Int) cmpW[k'] = true → ¬ About (st (ws.map tok) p j)) := hno
          clear hno
          by_cases hkl : k < 6
          · have hkl' : k < cmpW.length := hkl
            have q4 := (HS0.out.keep hK2).2 k hkl'
            go_wp2_with fail
            refine (c_sign C M N ws (p : Int) cmpW[k] _ hC2 (by omega) (by omega)).mono ?_
            rintro e w' ⟨rfl, rfl⟩
            cases hkey : signAt ws (p : Int) cmpW[k] with
            | false =>
              go_wp2_with fail
              go_roundg (6 - (k + 1) + 1)
              case measure => omega
              case rel =>
                refine ⟨k + 1, by omega, rfl, by exact vint (by omega), hC2, hK2, fun k' hk' hk2 e1 => ?_⟩
                by_cases hkk : k' = k
                · subst hkk; rw [hkey] at e1; cases e1
                · exact HNO.out k' (by omega) hk2 e1
            | true =>
              obtain ⟨hpw, hset, htext⟩ := sign_cmp h.ok hkl' hkey
              have HT : Hid (tok ws[p] = T.cmp) := hset
              have HTX : Hid (ws[p].text = cmpW[k]) := htext
              have HTK : Hid ((ws.map tok)[p]? = some T.cmp) := by show _ = _; rw [List.getElem?_map, List.getElem?_eq_getElem hpw]; simp [hset]
              clear hset htext hkey
              have HHOW : Hid (keyAt ws ((p + 1 : Nat) : Int) [97, 110, 121] = true ∨ keyAt ws ((p + 1 : Nat) : Int) [97, 108, 108] = true → ∃ hl : p + 1 < ws.length, isHow (tok ws[p + 1]) = true) := fun hh => by
                rcases hh with hh | hh
                · obtain ⟨hl, e⟩ := tok_get ((key_at h.ok ([97, 110, 121], T.any_) (by decide) (by decide) (p + 1)).1 hh)
                  exact ⟨hl, by rw [e]; rfl⟩
                · obtain ⟨hl, e⟩ := tok_get ((key_at h.ok ([97, 108, 108], T.all_) (by decide) (by decide) (p + 1)).1 hh)
                  exact ⟨hl, by rw [e]; rfl⟩
              go_wp2_with fail
              refine (c_key C M N ws ((p + 1 : Nat) : Int) _ _ hC2 (by omega) (by omega)).mono ?_
              rintro e w' ⟨rfl, rfl⟩
              cases kany : keyAt ws ((p + 1 : Nat) : Int) [97, 110, 121] with
              | true =>
                have HH0 := HHOW.out (.inl kany)
                go_wp2_with fail
                refine (c_key C M N ws ((p + 1 : Nat) : Int) _ _ hC2 (by omega) (by omega)).mono ?_
                rintro e w' ⟨rfl, rfl⟩
                cases kall : keyAt ws ((p + 1 : Nat) : Int) [97, 108, 108] with
                | true =>
                  obtain ⟨hl1, hhow⟩ := HH0
                  have HH : Hid (isHow (tok ws[p + 1]) = true) := hhow
                  clear hhow
                  go_wp2_with fail
                  refine (c_round C M N ws m hI query (p + 2) j _ hC2 (by omega) (by omega) hj (by omega) (by omega)).mono ?_
                  rintro e w1 ⟨v1, rfl, hC1, hK1, hF1⟩
                  rcases hF1 with ⟨rfl, hno⟩ | ⟨b, t, rfl, hb, hp, o, a, c, e2, t1, t2, hd⟩
                  · have HN : Hid (¬ About (st (ws.map tok) p j)) := fun ha => by
                      rcases about_inv HL.out ha with ⟨e, _⟩ | ⟨e, e2⟩ | ⟨e, e1, e2⟩ | ⟨e, ⟨u, e1, e2, e3⟩ | ⟨e1, e2⟩⟩
                      · exact tok_ne HTK.out (by decide) e
                      · exact tok_ne HTK.out (by decide) e
                      · exact tok_ne HTK.out (by decide) e
                      · exact hno e3
                      · have := e1 (tok ws[p + 1]) (by rw [List.getElem?_map, List.getElem?_eq_getElem hl1]; rfl)
                        rw [HH.out] at this; cases this
                    clear hno
                    go_wp2_with fail
                    go_ret
                    exact ⟨_, rfl, hC1, (hK0.trans (hK2.trans hK1)), .inl ⟨rfl, HN.out⟩⟩
                  · have HE : Hid (sw ws (p + 2) j = o :: (a ++ [c])) := e2
                    clear e2
                    have hpj : p + 2 < j := by
                      by_cases hh : p + 2 < j
                      · exact hh
                      · have := HE.out; rw [sw_nil ws (by omega)] at this; cases this
                    have hpa1 := ((hpa.keep hK0).keep hK2).keep hK1
                    have q5 := ((HS0.out.keep hK2).keep hK1).2 k hkl'
                    obtain ⟨wa, cap, capm, c0, c1, c2, c3, cw⟩ := hC1.cells
                    obtain ⟨g, rfl, hg, q1, q2, q3⟩ := cw (p + 1) hl1
                    clear cw
                    have hSlt : S < w1.heap.size := World.block_lt_of_cell? _ _ q5
                    have hglt : g < w1.heap.size := World.block_lt_of_cell? _ _ q2
                    have hClt : C < w1.heap.size := World.block_lt_of_cell? _ _ c0
                    go_wp2_with fail
                    go_region
                    go_wp2_with fail
                    go_ret
                    refine ⟨_, rfl, ((hC1.alloc _).alloc _).drew 1, (((hK0.trans (hK2.trans hK1)).trans (Keep.alloc M _ _)).trans (Keep.alloc M _ _)).trans (Keep.drew M _ 1), .inr ⟨_, _, rfl, ?_, (mk_nd2 hC1.mlt hC1.nlt { kind := ws[p + 1].text, sign := cmpW[k] } hpa1 hp).keep (Keep.drew M _ 1), fun l hl => ?_⟩⟩
                    · have := hC1.nlt; simp; omega
                    · have e2 := HE.out
                      rw [sw_cons ws (i := p) (by omega) hj, sw_cons ws (i := p + 1) (by omega) hj, show p + 1 + 1 = p + 2 from rfl, e2, ← HTX.out]
                      exact .bHow HT.out HH.out t1 t2 hl hd
                | false =>
                  obtain ⟨hl1, hhow⟩ := HH0
                  have HH : Hid (isHow (tok ws[p + 1]) = true) := hhow
                  clear hhow
                  go_wp2_with fail
                  refine (c_round C M N ws m hI query (p + 2) j _ hC2 (by omega) (by omega) hj (by omega) (by omega)).mono ?_
                  rintro e w1 ⟨v1, rfl, hC1, hK1, hF1⟩
                  rcases hF1 with ⟨rfl, hno⟩ | ⟨b, t, rfl, hb, hp, o, a, c, e2, t1, t2, hd⟩
                  · have HN : Hid (¬ About (st (ws.map tok) p j)) := fun ha => by
                      rcases about_inv HL.out ha with ⟨e, _⟩ | ⟨e, e2⟩ | ⟨e, e1, e2⟩ | ⟨e, ⟨u, e1, e2, e3⟩ | ⟨e1, e2⟩⟩
                      · exact tok_ne HTK.out (by decide) e
                      · exact tok_ne HTK.out (by decide) e
                      · exact tok_ne HTK.out (by decide) e
                      · exact hno e3
                      · have := e1 (tok ws[p + 1]) (by rw [List.getElem?_map, List.getElem?_eq_getElem hl1]; rfl)
                        rw [HH.out] at this; cases this
                    clear hno
                    go_wp2_with fail
                    go_ret
                    exact ⟨_, rfl, hC1, (hK0.trans (hK2.trans hK1)), .inl ⟨rfl, HN.out⟩⟩
                  · have HE : Hid (sw ws (p + 2) j = o :: (a ++ [c])) := e2
                    clear e2
                    have hpj : p + 2 < j := by
                      by_cases hh : p + 2 < j
                      · exact hh
                      · have := HE.out; rw [sw_nil ws (by omega)] at this; cases this
                    have hpa1 := ((hpa.keep hK0).keep hK2).keep hK1
                    have q5 := ((HS0.out.keep hK2).keep hK1).2 k hkl'
                    obtain ⟨wa, cap, capm, c0, c1, c2, c3, cw⟩ := hC1.cells
                    obtain ⟨g, rfl, hg, q1, q2, q3⟩ := cw (p + 1) hl1
                    clear cw
                    have hSlt : S < w1.heap.size := World.block_lt_of_cell? _ _ q5
                    have hglt : g < w1.heap.size := World.block_lt_of_cell? _ _ q2
                    have hClt : C < w1.heap.size := World.block_lt_of_cell? _ _ c0
                    go_wp2_with fail
                    go_region
                    go_wp2_with fail
                    go_ret
                    refine ⟨_, rfl, ((hC1.alloc _).alloc _).drew 1, (((hK0.trans (hK2.trans hK1)).trans (Keep.alloc M _ _)).trans (Keep.alloc M _ _)).trans (Keep.drew M _ 1), .inr ⟨_, _, rfl, ?_, (mk_nd2 hC1.mlt hC1.nlt { kind := ws[p + 1].text, sign := cmpW[k] } hpa1 hp).keep (Keep.drew M _ 1), fun l hl => ?_⟩⟩
                    · have := hC1.nlt; simp; omega
                    · have e2 := HE.out
                      rw [sw_cons ws (i := p) (by omega) hj, sw_cons ws (i := p + 1) (by omega) hj, show p + 1 + 1 = p + 2 from rfl, e2, ← HTX.out]
                      exact .bHow HT.out HH.out t1 t2 hl hd
              | false =>
                go_wp2_with fail
                refine (c_key C M N ws ((p + 1 : Nat) : Int) _ _ hC2 (by omega) (by omega)).mono ?_
                rintro e w' ⟨rfl, rfl⟩
                cases kall : keyAt ws ((p + 1 : Nat) : Int) [97, 108, 108] with
                | true =>
                  have HH0 := HHOW.out (.inr kall)
                  obtain ⟨hl1, hhow⟩ := HH0
                  have HH : Hid (isHow (tok ws[p + 1]) = true) := hhow
                  clear hhow
                  go_wp2_with fail
                  refine (c_round C M N ws m hI query (p + 2) j _ hC2 (by omega) (by omega) hj (by omega) (by omega)).mono ?_
                  rintro e w1 ⟨v1, rfl, hC1, hK1, hF1⟩
                  rcases hF1 with ⟨rfl, hno⟩ | ⟨b, t, rfl, hb, hp, o, a, c, e2, t1, t2, hd⟩
                  · have HN : Hid (¬ About (st (ws.map tok) p j)) := fun ha => by
                      rcases about_inv HL.out ha with ⟨e, _⟩ | ⟨e, e2⟩ | ⟨e, e1, e2⟩ | ⟨e, ⟨u, e1, e2, e3⟩ | ⟨e1, e2⟩⟩
                      · exact tok_ne HTK.out (by decide) e
                      · exact tok_ne HTK.out (by decide) e
                      · exact tok_ne HTK.out (by decide) e
                      · exact hno e3
                      · have := e1 (tok ws[p + 1]) (by rw [List.getElem?_map, List.getElem?_eq_getElem hl1]; rfl)
                        rw [HH.out] at this; cases this
                    clear hno
                    go_wp2_with fail
                    go_ret
                    exact ⟨_, rfl, hC1, (hK0.trans (hK2.trans hK1)), .inl ⟨rfl, HN.out⟩⟩
                  · have HE : Hid (sw ws (p + 2) j = o :: (a ++ [c])) := e2
                    clear e2
                    have hpj : p + 2 < j := by
                      by_cases hh : p + 2 < j
                      · exact hh
                      · have := HE.out; rw [sw_nil ws (by omega)] at this; cases this
                    have hpa1 := ((hpa.keep hK0).keep hK2).keep hK1
                    have q5 := ((HS0.out.keep hK2).keep hK1).2 k hkl'
                    obtain ⟨wa, cap, capm, c0, c1, c2, c3, cw⟩ := hC1.cells
                    obtain ⟨g, rfl, hg, q1, q2, q3⟩ := cw (p + 1) hl1
                    clear cw
                    have hSlt : S < w1.heap.size := World.block_lt_of_cell? _ _ q5
                    have hglt : g < w1.heap.size := World.block_lt_of_cell? _ _ q2
                    have hClt : C < w1.heap.size := World.block_lt_of_cell? _ _ c0
                    go_wp2_with fail
                    go_region
                    go_wp2_with fail
                    go_ret
                    refine ⟨_, rfl, ((hC1.alloc _).alloc _).drew 1, (((hK0.trans (hK2.trans hK1)).trans (Keep.alloc M _ _)).trans (Keep.alloc M _ _)).trans (Keep.drew M _ 1), .inr ⟨_, _, rfl, ?_, (mk_nd2 hC1.mlt hC1.nlt { kind := ws[p + 1].text, sign := cmpW[k] } hpa1 hp).keep (Keep.drew M _ 1), fun l hl => ?_⟩⟩
                    · have := hC1.nlt; simp; omega
                    · have e2 := HE.out
                      rw [sw_cons ws (i := p) (by omega) hj, sw_cons ws (i := p + 1) (by omega) hj, show p + 1 + 1 = p + 2 from rfl, e2, ← HTX.out]
                      exact .bHow HT.out HH.out t1 t2 hl hd
                | false =>
                  have HH : Hid (∀ u, (ws.map tok)[p + 1]? = some u → isHow u = false) := fun u hu => by
                    cases hh : isHow u with
                    | false => rfl
                    | true =>
                      have : u = T.any_ ∨ u = T.all_ := by revert hh; cases u <;> simp [isHow]
                      rcases this with rfl | rfl
                      · exact absurd hu (key_no h.ok ([97, 110, 121], T.any_) (by decide) (by decide) kany)
                      · exact absurd hu (key_no h.ok ([97, 108, 108], T.all_) (by decide) (by decide) kall)
                  go_wp2_with fail
                  refine (hI expr (p + 1) j _ hC2 (by omega) (by omega) (by omega) (by simp [rk]; omega)).mono ?_
                  rintro e w3 ⟨v3, rfl, hC3, hK3, hF3⟩
                  rw [Int.toNat_natCast] at hF3
                  rcases hF3 with ⟨rfl, hn3⟩ | ⟨b3, t3, rfl, hb3, hp3, hd3⟩
                  · have HN : Hid (¬ About (st (ws.map tok) p j)) := fun ha => by
                      rcases about_inv HL.out ha with ⟨e, _⟩ | ⟨e, e2⟩ | ⟨e, e1, e2⟩ | ⟨e, ⟨u, e1, e2, e3⟩ | ⟨e1, e2⟩⟩
                      · exact tok_ne HTK.out (by decide) e
                      · exact tok_ne HTK.out (by decide) e
                      · exact tok_ne HTK.out (by decide) e
                      · rw [HH.out u e1] at e2; cases e2
                      · exact hn3 e2
                    clear hn3
                    go_wp2_with fail
                    go_roundg (6 - (k + 1) + 1)
                    case measure => omega
                    case rel => exact ⟨k + 1, by omega, rfl, by exact vint (by omega), hC3, hK2.trans hK3, fun _ _ _ _ => HN.out⟩
                  · have hpa1 := ((hpa.keep hK0).keep hK2).keep hK3
                    have q5 := ((HS0.out.keep hK2).keep hK3).2 k hkl'
                    go_wp2_with fail
                    go_ret
                    refine ⟨_, rfl, (hC3.alloc _).alloc _, ((hK0.trans (hK2.trans hK3)).trans (Keep.alloc M _ _)).trans (Keep.alloc M _ _), .inr ⟨_, _, rfl, ?_, mk_nd2 hC3.mlt hC3.nlt { kind := [99, 111, 109, 112, 97, 114, 101], sign := cmpW[k] } hpa1 hp3, fun l hl => ?_⟩⟩
                    · have := hC3.nlt; simp; omega
                    · rw [sw_cons ws (i := p) (by omega) hj, ← HTX.out]
                      exact .bCmp HT.out hl hd3
          · have HN : Hid (¬ About (st (ws.map tok) p j)) := fun ha => by
              rcases about_inv HL.out ha with ⟨e, _⟩ | ⟨e, e2⟩ | ⟨e, e1, e2⟩ | ⟨e, _⟩
              · exact HIS.out e
              · exact tok_ne HNOT.out (by decide) e
              · exact HIN.out e1
              · obtain ⟨k', hk', e'⟩ := cmp_sign h.ok e
                have h6 : k' < 6 := hk'
                exact HNO.out k' (by omega) hk' e' ha
            go_wp2_with fail
            go_ret
            exact ⟨_, rfl, hC2, (hK0.trans hK2), .inl ⟨rfl, HN.out⟩⟩
    | false =>
      have HNOT : Hid ((ws.map tok)[p]? ≠ some T.not_) := key_no h.ok ([110, 111, 116], T.not_) (by decide) (by decide) knot
      clear knot
      go_wp2_with fail
      refine (c_key C M N ws ((p : Nat) : Int) _ _ hC (by omega) (by omega)).mono ?_
      rintro e w' ⟨rfl, rfl⟩
      cases kin : keyAt ws ((p : Nat) : Int) [105, 110] with
      | true =>
        have HIN : Hid ((ws.map tok)[p]? = some T.in_) := (key_at h.ok ([105, 110], T.in_) (by decide) (by decide) (p)).1 kin
        clear kin
        go_wp2_with fail
        refine (c_round C M N ws m hI query (p + 1) j _ hC (by omega) (by omega) hj (by omega) (by omega)).mono ?_
        rintro e w1 ⟨v1, rfl, hC1, hK1, hF1⟩
        rcases hF1 with ⟨rfl, hno⟩ | ⟨b, t, rfl, hb, hp, o, a, c, e2, t1, t2, hd⟩
        · have HN : Hid (¬ About (st (ws.map tok) p j)) := fun ha => by
            rcases about_inv HL.out ha with ⟨e, _⟩ | ⟨e, e2⟩ | ⟨e, e1, e2⟩ | ⟨e, _⟩
            · exact HIS.out e
            · exact hno e2
            · exact HNOT.out e
            · exact tok_ne HIN.out (by decide) e
          clear hno
          go_wp2_with fail
          go_ret
          exact ⟨_, rfl, hC1, hK1, .inl ⟨rfl, HN.out⟩⟩
        · have HE : Hid (sw ws (p + 1) j = o :: (a ++ [c])) := e2
          clear e2
          have hpj : p + 1 < j := by
            by_cases hh : p + 1 < j
            · exact hh
            · have := HE.out; rw [sw_nil ws (by omega)] at this; cases this
          have hpa1 := hpa.keep hK1
          go_wp2_with fail
          go_ret
          refine ⟨_, rfl, (hC1.alloc _).alloc _, (hK1.trans (Keep.alloc M _ _)).trans (Keep.alloc M _ _), .inr ⟨_, _, rfl, ?_, mk_nd2 hC1.mlt hC1.nlt { kind := [105, 110] } hpa1 hp, fun l hl => ?_⟩⟩
          · have := hC1.nlt; simp; omega
          · have e2 := HE.out
            obtain ⟨hl1, t4⟩ := tok_get HIN.out
            rw [sw_cons ws (i := p) (by omega) hj, e2]
            exact .bIn t4 t1 t2 hl hd
      | false =>
        have HIN : Hid ((ws.map tok)[p]? ≠ some T.in_) := key_no h.ok ([105, 110], T.in_) (by decide) (by decide) kin
        clear kin
        go_wp2_with fail
        have HS0 : Hid (Texts M W.heap.size (W.alloc (.cells #[.string ⟨#[61]⟩, .string ⟨#[60, 62]⟩, .string ⟨#[60]⟩, .string ⟨#[60, 61]⟩, .string ⟨#[62]⟩, .string ⟨#[62, 61]⟩] 9)) cmpW) := by
          refine ⟨by have := hC.mlt; omega, fun k hk => ?_⟩
          have h3 : k < 6 := hk
          obtain ⟨c0, c1, c2, c3, c4, c5⟩ := cell6s (heap_alloc_new W (.cells #[.string ⟨#[61]⟩, .string ⟨#[60, 62]⟩, .string ⟨#[60]⟩, .string ⟨#[60, 61]⟩, .string ⟨#[62]⟩, .string ⟨#[62, 61]⟩] 9))
          rcases k with _ | _ | _ | _ | _ | _ | k
          · exact c0
          · exact c1
          · exact c2
          · exact c3
          · exact c4
          · exact c5
          · omega
        have hC0 := hC.alloc (.cells #[.string ⟨#[61]⟩, .string ⟨#[60, 62]⟩, .string ⟨#[60]⟩, .string ⟨#[60, 61]⟩, .string ⟨#[62]⟩, .string ⟨#[62, 61]⟩] 9)
        have hK0 : Keep M W _ := Keep.alloc M W (.cells #[.string ⟨#[61]⟩, .string ⟨#[60, 62]⟩, .string ⟨#[60]⟩, .string ⟨#[60, 61]⟩, .string ⟨#[62]⟩, .string ⟨#[62, 61]⟩] 9)
        generalize hSe : W.heap.size = S at HS0 ⊢
        generalize W.alloc (.cells #[.string ⟨#[61]⟩, .string ⟨#[60, 62]⟩, .string ⟨#[60]⟩, .string ⟨#[60, 61]⟩, .string ⟨#[62]⟩, .string ⟨#[62, 61]⟩] 9) = w0 at HS0 hC0 hK0 ⊢
        go_loopg [18] (6 + 1) (fun gk kv wr => ∃ k : Nat, k ≤ 6 ∧ gk = 6 - k + 1 ∧ kv = .int .i64 k ∧ Cut C M N ws wr ∧ Keep M w0 wr ∧ ∀ k', k' < k → ∀ (hk : k' < cmpW.length), signAt ws (p : Int) cmpW[k'] = true → ¬ About (st (ws.map tok) p j))
        case atStart => exact ⟨0, by omega, by omega, rfl, hC0, Keep.refl _ _, fun k' h => by omega⟩
        case round =>
          obtain ⟨k, hk, rfl, rfl, hC2, hK2, hno⟩ := hrel
          have HNO : Hid (∀ k', k' < k → ∀ (hk : k' < cmpW.length), signAt ws (p : Int) cmpW[k'] = true → ¬ About (st (ws.map tok) p j)) := hno
          clear hno
          by_cases hkl : k < 6
          · have hkl' : k < cmpW.length := hkl
            have q4 := (HS0.out.keep hK2).2 k hkl'
            go_wp2_with fail
            refine (c_sign C M N ws (p : Int) cmpW[k] _ hC2 (by omega) (by omega)).mono ?_
            rintro e w' ⟨rfl, rfl⟩
            cases hkey : signAt ws (p : Int) cmpW[k] with
            | false =>
              go_wp2_with fail
              go_roundg (6 - (k + 1) + 1)
              case measure => omega
              case rel =>
                refine ⟨k + 1, by omega, rfl, by exact vint (by omega), hC2, hK2, fun k' hk' hk2 e1 => ?_⟩
                by_cases hkk : k' = k
                · subst hkk; rw [hkey] at e1; cases e1
                · exact HNO.out k' (by omega) hk2 e1
            | true =>
              obtain ⟨hpw, hset, htext⟩ := sign_cmp h.ok hkl' hkey
              have HT : Hid (tok ws[p] = T.cmp) := hset
              have HTX : Hid (ws[p].text = cmpW[k]) := htext
              have HTK : Hid ((ws.map tok)[p]? = some T.cmp) := by show _ = _; rw [List.getElem?_map, List.getElem?_eq_getElem hpw]; simp [hset]
              clear hset htext hkey
              have HHOW : Hid (keyAt ws ((p + 1 : Nat) : Int) [97, 110, 121] = true ∨ keyAt ws ((p + 1 : Nat) : Int) [97, 108, 108] = true → ∃ hl : p + 1 < ws.length, isHow (tok ws[p + 1]) = true) := fun hh => by
                rcases hh with hh | hh
                · obtain ⟨hl, e⟩ := tok_get ((key_at h.ok ([97, 110, 121], T.any_) (by decide) (by decide) (p + 1)).1 hh)
                  exact ⟨hl, by rw [e]; rfl⟩
                · obtain ⟨hl, e⟩ := tok_get ((key_at h.ok ([97, 108, 108], T.all_) (by decide) (by decide) (p + 1)).1 hh)
                  exact ⟨hl, by rw [e]; rfl⟩
              go_wp2_with fail
              refine (c_key C M N ws ((p + 1 : Nat) : Int) _ _ hC2 (by omega) (by omega)).mono ?_
              rintro e w' ⟨rfl, rfl⟩
              cases kany : keyAt ws ((p + 1 : Nat) : Int) [97, 110, 121] with
              | true =>
                have HH0 := HHOW.out (.inl kany)
                go_wp2_with fail
                refine (c_key C M N ws ((p + 1 : Nat) : Int) _ _ hC2 (by omega) (by omega)).mono ?_
                rintro e w' ⟨rfl, rfl⟩
                cases kall : keyAt ws ((p + 1 : Nat) : Int) [97, 108, 108] with
                | true =>
                  obtain ⟨hl1, hhow⟩ := HH0
                  have HH : Hid (isHow (tok ws[p + 1]) = true) := hhow
                  clear hhow
                  go_wp2_with fail
                  refine (c_round C M N ws m hI query (p + 2) j _ hC2 (by omega) (by omega) hj (by omega) (by omega)).mono ?_
                  rintro e w1 ⟨v1, rfl, hC1, hK1, hF1⟩
                  rcases hF1 with ⟨rfl, hno⟩ | ⟨b, t, rfl, hb, hp, o, a, c, e2, t1, t2, hd⟩
                  · have HN : Hid (¬ About (st (ws.map tok) p j)) := fun ha => by
                      rcases about_inv HL.out ha with ⟨e, _⟩ | ⟨e, e2⟩ | ⟨e, e1, e2⟩ | ⟨e, ⟨u, e1, e2, e3⟩ | ⟨e1, e2⟩⟩
                      · exact tok_ne HTK.out (by decide) e
                      · exact tok_ne HTK.out (by decide) e
                      · exact tok_ne HTK.out (by decide) e
                      · exact hno e3
                      · have := e1 (tok ws[p + 1]) (by rw [List.getElem?_map, List.getElem?_eq_getElem hl1]; rfl)
                        rw [HH.out] at this; cases this
                    clear hno
                    go_wp2_with fail
                    go_ret
                    exact ⟨_, rfl, hC1, (hK0.trans (hK2.trans hK1)), .inl ⟨rfl, HN.out⟩⟩
                  · have HE : Hid (sw ws (p + 2) j = o :: (a ++ [c])) := e2
                    clear e2
                    have hpj : p + 2 < j := by
                      by_cases hh : p + 2 < j
                      · exact hh
                      · have := HE.out; rw [sw_nil ws (by omega)] at this; cases this
                    have hpa1 := ((hpa.keep hK0).keep hK2).keep hK1
                    have q5 := ((HS0.out.keep hK2).keep hK1).2 k hkl'
                    obtain ⟨wa, cap, capm, c0, c1, c2, c3, cw⟩ := hC1.cells
                    obtain ⟨g, rfl, hg, q1, q2, q3⟩ := cw (p + 1) hl1
                    clear cw
                    have hSlt : S < w1.heap.size := World.block_lt_of_cell? _ _ q5
                    have hglt : g < w1.heap.size := World.block_lt_of_cell? _ _ q2
                    have hClt : C < w1.heap.size := World.block_lt_of_cell? _ _ c0
                    go_wp2_with fail
                    go_region
                    go_wp2_with fail
                    go_ret
                    refine ⟨_, rfl, ((hC1.alloc _).alloc _).drew 1, (((hK0.trans (hK2.trans hK1)).trans (Keep.alloc M _ _)).trans (Keep.alloc M _ _)).trans (Keep.drew M _ 1), .inr ⟨_, _, rfl, ?_, (mk_nd2 hC1.mlt hC1.nlt { kind := ws[p + 1].text, sign := cmpW[k] } hpa1 hp).keep (Keep.drew M _ 1), fun l hl => ?_⟩⟩
                    · have := hC1.nlt; simp; omega
                    · have e2 := HE.out
                      rw [sw_cons ws (i := p) (by omega) hj, sw_cons ws (i := p + 1) (by omega) hj, show p + 1 + 1 = p + 2 from rfl, e2, ← HTX.out]
                      exact .bHow HT.out HH.out t1 t2 hl hd
                | false =>
                  obtain ⟨hl1, hhow⟩ := HH0
                  have HH : Hid (isHow (tok ws[p + 1]) = true) := hhow
                  clear hhow
                  go_wp2_with fail
                  refine (c_round C M N ws m hI query (p + 2) j _ hC2 (by omega) (by omega) hj (by omega) (by omega)).mono ?_
                  rintro e w1 ⟨v1, rfl, hC1, hK1, hF1⟩
                  rcases hF1 with ⟨rfl, hno⟩ | ⟨b, t, rfl, hb, hp, o, a, c, e2, t1, t2, hd⟩
                  · have HN : Hid (¬ About (st (ws.map tok) p j)) := fun ha => by
                      rcases about_inv HL.out ha with ⟨e, _⟩ | ⟨e, e2⟩ | ⟨e, e1, e2⟩ | ⟨e, ⟨u, e1, e2, e3⟩ | ⟨e1, e2⟩⟩
                      · exact tok_ne HTK.out (by decide) e
                      · exact tok_ne HTK.out (by decide) e
                      · exact tok_ne HTK.out (by decide) e
                      · exact hno e3
                      · have := e1 (tok ws[p + 1]) (by rw [List.getElem?_map, List.getElem?_eq_getElem hl1]; rfl)
                        rw [HH.out] at this; cases this
                    clear hno
                    go_wp2_with fail
                    go_ret
                    exact ⟨_, rfl, hC1, (hK0.trans (hK2.trans hK1)), .inl ⟨rfl, HN.out⟩⟩
                  · have HE : Hid (sw ws (p + 2) j = o :: (a ++ [c])) := e2
                    clear e2
                    have hpj : p + 2 < j := by
                      by_cases hh : p + 2 < j
                      · exact hh
                      · have := HE.out; rw [sw_nil ws (by omega)] at this; cases this
                    have hpa1 := ((hpa.keep hK0).keep hK2).keep hK1
                    have q5 := ((HS0.out.keep hK2).keep hK1).2 k hkl'
                    obtain ⟨wa, cap, capm, c0, c1, c2, c3, cw⟩ := hC1.cells
                    obtain ⟨g, rfl, hg, q1, q2, q3⟩ := cw (p + 1) hl1
                    clear cw
                    have hSlt : S < w1.heap.size := World.block_lt_of_cell? _ _ q5
                    have hglt : g < w1.heap.size := World.block_lt_of_cell? _ _ q2
                    have hClt : C < w1.heap.size := World.block_lt_of_cell? _ _ c0
                    go_wp2_with fail
                    go_region
                    go_wp2_with fail
                    go_ret
                    refine ⟨_, rfl, ((hC1.alloc _).alloc _).drew 1, (((hK0.trans (hK2.trans hK1)).trans (Keep.alloc M _ _)).trans (Keep.alloc M _ _)).trans (Keep.drew M _ 1), .inr ⟨_, _, rfl, ?_, (mk_nd2 hC1.mlt hC1.nlt { kind := ws[p + 1].text, sign := cmpW[k] } hpa1 hp).keep (Keep.drew M _ 1), fun l hl => ?_⟩⟩
                    · have := hC1.nlt; simp; omega
                    · have e2 := HE.out
                      rw [sw_cons ws (i := p) (by omega) hj, sw_cons ws (i := p + 1) (by omega) hj, show p + 1 + 1 = p + 2 from rfl, e2, ← HTX.out]
                      exact .bHow HT.out HH.out t1 t2 hl hd
              | false =>
                go_wp2_with fail
                refine (c_key C M N ws ((p + 1 : Nat) : Int) _ _ hC2 (by omega) (by omega)).mono ?_
                rintro e w' ⟨rfl, rfl⟩
                cases kall : keyAt ws ((p + 1 : Nat) : Int) [97, 108, 108] with
                | true =>
                  have HH0 := HHOW.out (.inr kall)
                  obtain ⟨hl1, hhow⟩ := HH0
                  have HH : Hid (isHow (tok ws[p + 1]) = true) := hhow
                  clear hhow
                  go_wp2_with fail
                  refine (c_round C M N ws m hI query (p + 2) j _ hC2 (by omega) (by omega) hj (by omega) (by omega)).mono ?_
                  rintro e w1 ⟨v1, rfl, hC1, hK1, hF1⟩
                  rcases hF1 with ⟨rfl, hno⟩ | ⟨b, t, rfl, hb, hp, o, a, c, e2, t1, t2, hd⟩
                  · have HN : Hid (¬ About (st (ws.map tok) p j)) := fun ha => by
                      rcases about_inv HL.out ha with ⟨e, _⟩ | ⟨e, e2⟩ | ⟨e, e1, e2⟩ | ⟨e, ⟨u, e1, e2, e3⟩ | ⟨e1, e2⟩⟩
                      · exact tok_ne HTK.out (by decide) e
                      · exact tok_ne HTK.out (by decide) e
                      · exact tok_ne HTK.out (by decide) e
                      · exact hno e3
                      · have := e1 (tok ws[p + 1]) (by rw [List.getElem?_map, List.getElem?_eq_getElem hl1]; rfl)
                        rw [HH.out] at this; cases this
                    clear hno
                    go_wp2_with fail
                    go_ret
                    exact ⟨_, rfl, hC1, (hK0.trans (hK2.trans hK1)), .inl ⟨rfl, HN.out⟩⟩
                  · have HE : Hid (sw ws (p + 2) j = o :: (a ++ [c])) := e2
                    clear e2
                    have hpj : p + 2 < j := by
                      by_cases hh : p + 2 < j
                      · exact hh
                      · have := HE.out; rw [sw_nil ws (by omega)] at this; cases this
                    have hpa1 := ((hpa.keep hK0).keep hK2).keep hK1
                    have q5 := ((HS0.out.keep hK2).keep hK1).2 k hkl'
                    obtain ⟨wa, cap, capm, c0, c1, c2, c3, cw⟩ := hC1.cells
                    obtain ⟨g, rfl, hg, q1, q2, q3⟩ := cw (p + 1) hl1
                    clear cw
                    have hSlt : S < w1.heap.size := World.block_lt_of_cell? _ _ q5
                    have hglt : g < w1.heap.size := World.block_lt_of_cell? _ _ q2
                    have hClt : C < w1.heap.size := World.block_lt_of_cell? _ _ c0
                    go_wp2_with fail
                    go_region
                    go_wp2_with fail
                    go_ret
                    refine ⟨_, rfl, ((hC1.alloc _).alloc _).drew 1, (((hK0.trans (hK2.trans hK1)).trans (Keep.alloc M _ _)).trans (Keep.alloc M _ _)).trans (Keep.drew M _ 1), .inr ⟨_, _, rfl, ?_, (mk_nd2 hC1.mlt hC1.nlt { kind := ws[p + 1].text, sign := cmpW[k] } hpa1 hp).keep (Keep.drew M _ 1), fun l hl => ?_⟩⟩
                    · have := hC1.nlt; simp; omega
                    · have e2 := HE.out
                      rw [sw_cons ws (i := p) (by omega) hj, sw_cons ws (i := p + 1) (by omega) hj, show p + 1 + 1 = p + 2 from rfl, e2, ← HTX.out]
                      exact .bHow HT.out HH.out t1 t2 hl hd
                | false =>
                  have HH : Hid (∀ u, (ws.map tok)[p + 1]? = some u → isHow u = false) := fun u hu => by
                    cases hh : isHow u with
                    | false => rfl
                    | true =>
                      have : u = T.any_ ∨ u = T.all_ := by revert hh; cases u <;> simp [isHow]
                      rcases this with rfl | rfl
                      · exact absurd hu (key_no h.ok ([97, 110, 121], T.any_) (by decide) (by decide) kany)
                      · exact absurd hu (key_no h.ok ([97, 108, 108], T.all_) (by decide) (by decide) kall)
                  go_wp2_with fail
                  refine (hI expr (p + 1) j _ hC2 (by omega) (by omega) (by omega) (by simp [rk]; omega)).mono ?_
                  rintro e w3 ⟨v3, rfl, hC3, hK3, hF3⟩
                  rw [Int.toNat_natCast] at hF3
                  rcases hF3 with ⟨rfl, hn3⟩ | ⟨b3, t3, rfl, hb3, hp3, hd3⟩
                  · have HN : Hid (¬ About (st (ws.map tok) p j)) := fun ha => by
                      rcases about_inv HL.out ha with ⟨e, _⟩ | ⟨e, e2⟩ | ⟨e, e1, e2⟩ | ⟨e, ⟨u, e1, e2, e3⟩ | ⟨e1, e2⟩⟩
                      · exact tok_ne HTK.out (by decide) e
                      · exact tok_ne HTK.out (by decide) e
                      · exact tok_ne HTK.out (by decide) e
                      · rw [HH.out u e1] at e2; cases e2
                      · exact hn3 e2
                    clear hn3
                    go_wp2_with fail
                    go_roundg (6 - (k + 1) + 1)
                    case measure => omega
                    case rel => exact ⟨k + 1, by omega, rfl, by exact vint (by omega), hC3, hK2.trans hK3, fun _ _ _ _ => HN.out⟩
                  · have hpa1 := ((hpa.keep hK0).keep hK2).keep hK3
                    have q5 := ((HS0.out.keep hK2).keep hK3).2 k hkl'
                    go_wp2_with fail
                    go_ret
                    refine ⟨_, rfl, (hC3.alloc _).alloc _, ((hK0.trans (hK2.trans hK3)).trans (Keep.alloc M _ _)).trans (Keep.alloc M _ _), .inr ⟨_, _, rfl, ?_, mk_nd2 hC3.mlt hC3.nlt { kind := [99, 111, 109, 112, 97, 114, 101], sign := cmpW[k] } hpa1 hp3, fun l hl => ?_⟩⟩
                    · have := hC3.nlt; simp; omega
                    · rw [sw_cons ws (i := p) (by omega) hj, ← HTX.out]
                      exact .bCmp HT.out hl hd3
          · have HN : Hid (¬ About (st (ws.map tok) p j)) := fun ha => by
              rcases about_inv HL.out ha with ⟨e, _⟩ | ⟨e, e2⟩ | ⟨e, e1, e2⟩ | ⟨e, _⟩
              · exact HIS.out e
              · exact HIN.out e
              · exact HNOT.out e
              · obtain ⟨k', hk', e'⟩ := cmp_sign h.ok e
                have h6 : k' < 6 := hk'
                exact HNO.out k' (by omega) hk' e' ha
            go_wp2_with fail
            go_ret
            exact ⟨_, rfl, hC2, (hK0.trans hK2), .inl ⟨rfl, HN.out⟩⟩
end Gr
end Go.Proofs.YtfkdfplnhlnnoaaGreatDoor
