import Derived.Test.YtfkdfplnhlnnoaaGreatDoorBgJa12
section
namespace Go.Proofs.YtfkdfplnhlnnoaaGreatDoor
open Go.RowKit
namespace Gr
set_option linter.unusedSimpArgs false
set_option linter.unusedVariables false
open NT
set_option maxRecDepth 10000 in
set_option maxHeartbeats 1000000 in
theorem c_is (C M N : Nat) (ws : List RW) (k : NT) (i : Nat) (j : Int) (W : World) (h : Cut C M N ws W) (hi : i ≤ 900) (hj0 : -10 ≤ j) (hj : j ≤ ws.length)
    (hL : (i : Int) < j → ∀ W, Cut C M N ws W → Calls Tryz.prog 63 #[.pointer (some ⟨C, 0, none⟩), .int .i64 (num k), .int .i64 i, .int .i64 j] W (Post C M N ws W (¬ G k (st (ws.map tok) i j.toNat)) (D k (sw ws i j.toNat)))) :
    Calls Tryz.prog 41 #[.pointer (some ⟨C, 0, none⟩), .int .i64 (num k), .int .i64 i, .int .i64 j] W (Post C M N ws W (¬ G k (st (ws.map tok) i j.toNat)) (D k (sw ws i j.toNat))) := by
  have hlen := h.len
  obtain ⟨wa, cap, capm, c0, c1, c2, c3, cw⟩ := h.cells
  clear cw
  by_cases hlt : (i : Int) < j
  · obtain ⟨j, rfl⟩ : ∃ j' : Nat, j = j' := ⟨j.toNat, by omega⟩
    have hL' := hL hlt
    clear hL
    have hnk := num_lt k
    generalize hn : ws.length = n at *
    have h1 : num k * (n + 1) ≤ 17 * 401 := Nat.mul_le_mul (by omega) (by omega)
    have h2 : (num k * (n + 1) + i) * (n + 1) ≤ (17 * 401 + 400) * 401 := Nat.mul_le_mul (by omega) (by omega)
    have E1 : Hid (((num k : Nat) : Int) * ((n : Int) + 1) = ((num k * (n + 1) : Nat) : Int)) := by show _ = _; simp
    have E2 : Hid ((((num k : Nat) : Int) * ((n : Int) + 1) + (i : Int)) * ((n : Int) + 1) = (((num k * (n + 1) + i) * (n + 1) : Nat) : Int)) := by show _ = _; simp
    have b1 : 0 ≤ ((num k : Nat) : Int) * ((n : Int) + 1) := by rw [E1.out]; omega
    have b2 : ((num k : Nat) : Int) * ((n : Int) + 1) ≤ 6817 := by rw [E1.out]; omega
    have b3 : 0 ≤ (((num k : Nat) : Int) * ((n : Int) + 1) + (i : Int)) * ((n : Int) + 1) := by rw [E2.out]; omega
    have b4 : (((num k : Nat) : Int) * ((n : Int) + 1) + (i : Int)) * ((n : Int) + 1) ≤ 2894017 := by rw [E2.out]; omega
    go_enter Tryz.func41, Tryz.ntmps41
    go_wp2_with fail
    go_quiet (fail)
    have EQ : (((num k : Nat) : Int) * ((n : Int) + 1) + (i : Int)) * ((n : Int) + 1) + (j : Int) = ((spot n k i j : Nat) : Int) := by rw [E2.out]; unfold spot; omega
    rw [EQ]
    have hsp := spot_lt (n := n) (i := i) (j := j) k (by omega) (by omega)
    obtain ⟨v0, cm, hm0⟩ := h.memo k i j (by omega) (by omega)
    rw [hn] at cm
    have hL1 : 18 * (n + 1) * (n + 1) ≤ 18 * 401 * 401 := Nat.mul_le_mul (by omega) (by omega)
    have hfr := h.frozen
    have HSP : Hid (spot ws.length k i j = spot n k i j) := by show _ = _; rw [hn]
    clear EQ b1 b2 b3 b4 E1 E2 h1 h2
    generalize spot n k i j = sp at hsp cm HSP ⊢
    generalize hLe : 18 * (n + 1) * (n + 1) = L at hsp hL1 c2 ⊢
    have HLE : Hid (18 * (n + 1) * (n + 1) = L) := hLe
    clear hLe
    have hset : ∀ (w : World) (q : Nat) (u : Value) (o : Nat), (w.setCell ⟨M, q, none⟩ u).cell? ⟨C, o, none⟩ = w.cell? ⟨C, o, none⟩ := fun w q u o => World.cell?_setCell_far w ⟨M, q, none⟩ ⟨C, o, none⟩ u (fun e => h.cm e.symm)
    have heq := eql_mark N
    have heq0 := eql_none N
    rcases hm0 with rfl | ⟨rfl, hno⟩ | ⟨b, t, rfl, hb, hp, hd⟩
    · go_wp2_with fail
      refine (hL' _ (h.drew _)).mono ?_
      rintro e w1 ⟨v1, rfl, hC1, hK1, hF1⟩
      rw [Int.toNat_natCast] at hF1
      clear c0 c1 c2 c3 cm hfr
      obtain ⟨wa, cap, capm, c0, c1, c2, c3, cw⟩ := hC1.cells
      clear cw
      rw [hn] at c0 c1 c2
      rw [HLE.out] at c2
      obtain ⟨v0, cm, hm0⟩ := hC1.memo k i j (by omega) (by omega)
      rw [HSP.out] at cm
      clear hm0
      have hfr := hC1.frozen
      have HL : Hid (Cut C M N ws w1) := hC1
      rcases hF1 with ⟨rfl, hno⟩ | ⟨b, t, rfl, hb, hp, hd⟩
      · have HNO : Hid (¬ G k (st (ws.map tok) i j)) := hno
        clear hno
        go_wp2_with fail
        go_region
        go_wp2_with fail
        go_ret
        have s1 : Cut C M N ws (w1.setCell ⟨M, sp, none⟩ (.pointer none)) := by
          have := HL.out.set (k := k) (i := i) (j := j) (by omega) (by omega) (v := .pointer none) (.inl rfl)
          rwa [HSP.out] at this
        have s2 : Cut C M N ws ((w1.setCell ⟨M, sp, none⟩ (.pointer none)).setCell ⟨M, sp, none⟩ (.pointer (some ⟨N, 0, none⟩))) := by
          have := s1.set (k := k) (i := i) (j := j) (by omega) (by omega) (v := .pointer (some ⟨N, 0, none⟩)) (.inr (.inl ⟨rfl, HNO.out⟩))
          rwa [HSP.out] at this
        exact ⟨_, rfl, s2.drew 1, ((((Keep.drew M W nq).trans hK1).trans (Keep.set M _ _ _)).trans (Keep.set M _ _ _)).trans (Keep.drew M _ 1), .inl ⟨rfl, HNO.out⟩⟩
      · have hne : (binOp .eql 30 (.pointer (some ⟨b, 0, none⟩)) (.pointer (some ⟨N, 0, none⟩))).run Tryz.prog (w1.setCell ⟨M, sp, none⟩ (.pointer (some ⟨b, 0, none⟩))) = .ok (.bool false) (w1.setCell ⟨M, sp, none⟩ (.pointer (some ⟨b, 0, none⟩))) :=
          eql_part hb ((hp.keep (Keep.set M _ _ _)).obj) (HL.out.nobj.imp fun cs hc => (Keep.set M w1 _ _).obj h.nm hc)
        go_wp2_with fail
        go_ret
        have s1 : Cut C M N ws (w1.setCell ⟨M, sp, none⟩ (.pointer (some ⟨b, 0, none⟩))) := by
          have := HL.out.set (k := k) (i := i) (j := j) (by omega) (by omega) (v := .pointer (some ⟨b, 0, none⟩)) (.inr (.inr ⟨b, t, rfl, hb, hp, hd⟩))
          rwa [HSP.out] at this
        exact ⟨_, rfl, s1, ((Keep.drew M W nq).trans hK1).trans (Keep.set M _ _ _), .inr ⟨b, t, rfl, hb, hp.keep (Keep.set M _ _ _), hd⟩⟩
    · have HNO : Hid (¬ G k (st (ws.map tok) i j)) := hno
      clear hno
      go_wp2_with fail
      go_ret
      exact ⟨_, rfl, h.drew _, Keep.drew M _ _, .inl ⟨rfl, HNO.out⟩⟩
    · have hne : ∀ q, (binOp .eql 30 (.pointer (some ⟨b, 0, none⟩)) (.pointer (some ⟨N, 0, none⟩))).run Tryz.prog (W.drewN q) = .ok (.bool false) (W.drewN q) := fun q => eql_part hb (hp.obj) h.nobj
      go_wp2_with fail
      go_ret
      exact ⟨_, rfl, h.drew _, Keep.drew M _ _, .inr ⟨b, t, rfl, hb, hp.keep (Keep.drew M _ _), hd⟩⟩
  · go_enter Tryz.func41, Tryz.ntmps41
    go_wp2_with fail
    go_ret
    refine ⟨_, rfl, h, Keep.refl _ _, .inl ⟨rfl, fun hg => ?_⟩⟩
    exact g_nil hg (st_nil _ (by omega))
end Gr
end Go.Proofs.YtfkdfplnhlnnoaaGreatDoor
end
section
namespace Go.Proofs.YtfkdfplnhlnnoaaGreatDoor
open Go.RowKit
namespace Gr
set_option linter.unusedSimpArgs false
set_option linter.unusedVariables false
open NT
theorem at_end2 {w : List T} {i j : Nat} {a : List T} {t u : T} (hj : j ≤ w.length) (h : st w i j = a ++ [t, u]) : i + 2 ≤ j ∧ a = st w i (j - 2) ∧ w[j - 2]? = some t ∧ w[j - 1]? = some u := by
  have hl := congrArg List.length h
  rw [st_len w hj] at hl
  simp at hl
  obtain ⟨p, p1, p2, p3, p4, p5⟩ := st_of (a := a) (u := t) (b := [u]) hj h
  have hl2 := congrArg List.length p5
  rw [st_len w hj] at hl2
  simp at hl2
  obtain rfl : p = j - 2 := by omega
  refine ⟨by omega, p3, p4, ?_⟩
  rw [st_cons w (by omega) hj] at p5
  have e : j - 2 + 1 = j - 1 := by omega
  rw [← e, List.getElem?_eq_getElem (by omega), ← (List.cons.inj p5).1]
theorem sw_end2 {ws : List RW} {i j : Nat} (hi : i + 2 ≤ j) (hj : j ≤ ws.length) : sw ws i j = sw ws i (j - 2) ++ [ws[j - 2]'(by omega), ws[j - 1]'(by omega)] := by
  rw [sw_app ws (i := i) (p := j - 2) (by omega) (by omega), sw_cons ws (i := j - 2) (by omega) hj]
  have e : j - 2 + 1 = j - 1 := by omega
  rw [sw_cons ws (i := j - 2 + 1) (by omega) hj, sw_nil ws (i := j - 2 + 1 + 1) (by omega)]
  simp only [e]
theorem named_no {w : List T} {i j : Nat} (hj : j ≤ w.length) (h1 : ¬ G expr (st w i j)) (h2 : i + 2 ≤ j → w[j - 2]? = some T.as_ → w[j - 1]? = some T.name → ¬ G expr (st w i (j - 2))) : ¬ G NT.item (st w i j) := by
  intro hg
  rcases (inv_item _).1 hg with hg | ⟨a, e, ha⟩
  · exact h1 hg
  · obtain ⟨q1, rfl, q2, q3⟩ := at_end2 hj e
    exact h2 q1 q2 q3 ha
set_option maxRecDepth 10000 in
set_option maxHeartbeats 1000000 in
theorem c_named (C M N : Nat) (ws : List RW) (m : Nat) (hI : Is C M N ws m) (i j : Nat) (W : World) (h : Cut C M N ws W) (hi : i < j) (hj : j ≤ ws.length) (hm : (j - i) * 20 + 3 < m) :
    Calls Tryz.prog 84 #[.pointer (some ⟨C, 0, none⟩), .int .i64 15, .int .i64 i, .int .i64 j] W (Post C M N ws W (¬ G NT.item (st (ws.map tok) i j)) (D NT.item (sw ws i j))) := by
  have hlen := h.len
  have HL : Hid (j ≤ (ws.map tok).length) := by show j ≤ _; simpa using hj
  go_enter Tryz.func84, Tryz.ntmps84
  go_wp2_with fail
  refine (hI expr i j _ h (by omega) (by omega) (by omega) (by simpa [rk] using hm)).mono ?_
  rintro e w1 ⟨v1, rfl, hC1, hK1, hF1⟩
  rw [Int.toNat_natCast] at hF1
  rcases hF1 with ⟨rfl, hno⟩ | ⟨b, t, rfl, hb, hp, hd⟩
  · have HNO : Hid (¬ G expr (st (ws.map tok) i j)) := hno
    clear hno
    by_cases hj2 : 2 ≤ j
    · have e2 : (j : Int) - 2 = ((j - 2 : Nat) : Int) := by omega
      have e1 : (j : Int) - 1 = ((j - 1 : Nat) : Int) := by omega
      go_wp2_with fail
      refine (c_key C M N ws ((j - 2 : Nat) : Int) _ _ hC1 (by omega) (by omega)).mono ?_
      rintro e w' ⟨rfl, rfl⟩
      cases hk : keyAt ws ((j - 2 : Nat) : Int) [97, 115] with
      | false =>
        have HNK : Hid ((ws.map tok)[j - 2]? ≠ some T.as_) := fun e => by rw [(key_at h.ok ([97, 115], T.as_) (by decide) (by decide) (j - 2)).2 e] at hk; cases hk
        clear hk
        go_wp2_with fail
        refine (hI expr i ((j - 2 : Nat) : Int) _ hC1 (by omega) (by omega) (by omega) (by simp [rk]; omega)).mono ?_
        rintro e w2 ⟨v2, rfl, hC2, hK2, hF2⟩
        have HF : Hid (¬ G NT.item (st (ws.map tok) i j)) := named_no HL.out HNO.out (fun _ e => absurd e HNK.out)
        rcases hF2 with ⟨rfl, hno⟩ | ⟨b, t, rfl, hb, hp, hd⟩
        · clear hno
          go_wp2_with fail
          go_ret
          exact ⟨_, rfl, hC2, hK1.trans hK2, .inl ⟨rfl, HF.out⟩⟩
        · go_wp2_with fail
          go_ret
          exact ⟨_, rfl, hC2, hK1.trans hK2, .inl ⟨rfl, HF.out⟩⟩
      | true =>
        have HYK : Hid ((ws.map tok)[j - 2]? = some T.as_) := (key_at h.ok ([97, 115], T.as_) (by decide) (by decide) (j - 2)).1 hk
        clear hk
        go_wp2_with fail
        refine (c_name C M N ws ((j - 1 : Nat) : Int) _ hC1 (by omega) (by omega)).mono ?_
        rintro e w' ⟨rfl, rfl⟩
        cases hk : nameAt ws ((j - 1 : Nat) : Int) with
        | false =>
          have HNK : Hid ((ws.map tok)[j - 1]? ≠ some T.name) := fun e => by rw [(name_at h.ok (j - 1)).2 e] at hk; cases hk
          clear hk
          go_wp2_with fail
          refine (hI expr i ((j - 2 : Nat) : Int) _ hC1 (by omega) (by omega) (by omega) (by simp [rk]; omega)).mono ?_
          rintro e w2 ⟨v2, rfl, hC2, hK2, hF2⟩
          have HF : Hid (¬ G NT.item (st (ws.map tok) i j)) := named_no HL.out HNO.out (fun _ _ e => absurd e HNK.out)
          rcases hF2 with ⟨rfl, hno⟩ | ⟨b, t, rfl, hb, hp, hd⟩
          · clear hno
            go_wp2_with fail
            go_ret
            exact ⟨_, rfl, hC2, hK1.trans hK2, .inl ⟨rfl, HF.out⟩⟩
          · go_wp2_with fail
            go_ret
            exact ⟨_, rfl, hC2, hK1.trans hK2, .inl ⟨rfl, HF.out⟩⟩
        | true =>
          have HYN : Hid ((ws.map tok)[j - 1]? = some T.name) := (name_at h.ok (j - 1)).1 hk
          clear hk
          go_wp2_with fail
          refine (hI expr i ((j - 2 : Nat) : Int) _ hC1 (by omega) (by omega) (by omega) (by simp [rk]; omega)).mono ?_
          rintro e w2 ⟨v2, rfl, hC2, hK2, hF2⟩
          rw [Int.toNat_natCast] at hF2
          rcases hF2 with ⟨rfl, hno⟩ | ⟨b, t, rfl, hb, hp, hd⟩
          · have HF : Hid (¬ G NT.item (st (ws.map tok) i j)) := named_no HL.out HNO.out (fun _ _ _ => hno)
            clear hno
            go_wp2_with fail
            go_ret
            exact ⟨_, rfl, hC2, hK1.trans hK2, .inl ⟨rfl, HF.out⟩⟩
          · obtain ⟨wa, cap, capm, c0, c1, c2, c3, cw⟩ := hC2.cells
            obtain ⟨g, rfl, hg, q1, q2, q3⟩ := cw (j - 1) (by omega)
            clear cw
            have hne := g_nil hd.g
            have hij : i + 2 < j := by
              by_cases hh : i + 2 < j
              · exact hh
              · rw [sw_nil ws (by omega)] at hne; exact absurd rfl hne
            go_wp2_with fail
            go_ret
            refine ⟨_, rfl, (hC2.alloc _).alloc _, ((hK1.trans hK2).trans (Keep.alloc M _ _)).trans (Keep.alloc M _ _), .inr ⟨_, _, rfl, ?_, mk_nd1 hC2.mlt hC2.nlt { kind := [105, 116, 101, 109], as_ := ws[j - 1].text } hp, ?_⟩⟩
            · have := hC2.nlt; simp; omega
            · rw [sw_end2 (by omega) hj]
              obtain ⟨_, t1⟩ := tok_get HYK.out
              obtain ⟨_, t2⟩ := tok_get HYN.out
              exact .itemAs t1 t2 hd
    · obtain rfl : j = 1 := by omega
      have hk : keyAt ws (-1) [97, 115] = false := by unfold keyAt; rw [wordAt_neg (by omega)]
      have HF : Hid (¬ G NT.item (st (ws.map tok) i 1)) := named_no HL.out HNO.out (fun e => by omega)
      go_wp2_with fail
      refine (c_key C M N ws (-1) _ _ hC1 (by omega) (by omega)).mono ?_
      rintro e w' ⟨rfl, rfl⟩
      go_wp2_with fail
      refine (hI expr i (-1) _ hC1 (by omega) (by omega) (by omega) (by simp [rk]; omega)).mono ?_
      rintro e w2 ⟨v2, rfl, hC2, hK2, hF2⟩
      rcases hF2 with ⟨rfl, hno⟩ | ⟨b, t, rfl, hb, hp, hd⟩
      · clear hno
        go_wp2_with fail
        go_ret
        exact ⟨_, rfl, hC2, hK1.trans hK2, .inl ⟨rfl, HF.out⟩⟩
      · go_wp2_with fail
        go_ret
        exact ⟨_, rfl, hC2, hK1.trans hK2, .inl ⟨rfl, HF.out⟩⟩
  · go_wp2_with fail
    go_ret
    refine ⟨_, rfl, (hC1.alloc _).alloc _, (hK1.trans (Keep.alloc M _ _)).trans (Keep.alloc M _ _), .inr ⟨_, _, rfl, ?_, mk_nd1 hC1.mlt hC1.nlt { kind := [105, 116, 101, 109] } hp, .item hd⟩⟩
    have := hC1.nlt; simp; omega
end Gr
end Go.Proofs.YtfkdfplnhlnnoaaGreatDoor
end
section
namespace Go.Proofs.YtfkdfplnhlnnoaaGreatDoor
open Go.RowKit
namespace Gr
set_option linter.unusedSimpArgs false
set_option linter.unusedVariables false
open NT
theorem st_one {w : List T} {i : Nat} (h : i < w.length) : st w i (i + 1) = [w[i]] := by rw [st_cons w (by omega) (by omega), st_nil w (by omega)]
theorem st_three {w : List T} {i : Nat} (h : i + 2 < w.length) : st w i (i + 3) = [w[i], w[i + 1], w[i + 2]] := by rw [st_cons w (by omega) (by omega), st_cons w (by omega) (by omega), st_cons w (by omega) (by omega), st_nil w (by omega)]
theorem sw_one {w : List RW} {i : Nat} (h : i < w.length) : sw w i (i + 1) = [w[i]] := by rw [sw_cons w (by omega) (by omega), sw_nil w (by omega)]
theorem sw_three {w : List RW} {i : Nat} (h : i + 2 < w.length) : sw w i (i + 3) = [w[i], w[i + 1], w[i + 2]] := by rw [sw_cons w (by omega) (by omega), sw_cons w (by omega) (by omega), sw_cons w (by omega) (by omega), sw_nil w (by omega)]
theorem at_one {w : List T} {i j : Nat} {t : T} (hj : j ≤ w.length) (h : st w i j = [t]) : j = i + 1 ∧ w[i]? = some t := by
  have hl := congrArg List.length h
  rw [st_len w hj] at hl
  simp at hl
  obtain rfl : j = i + 1 := by omega
  rw [st_one (by omega)] at h
  exact ⟨rfl, by rw [List.getElem?_eq_getElem (by omega)]; rw [(List.cons.inj h).1]⟩
theorem at_three {w : List T} {i j : Nat} {t u v : T} (hj : j ≤ w.length) (h : st w i j = [t, u, v]) : j = i + 3 ∧ w[i]? = some t ∧ w[i + 1]? = some u ∧ w[i + 2]? = some v := by
  have hl := congrArg List.length h
  rw [st_len w hj] at hl
  simp at hl
  obtain rfl : j = i + 3 := by omega
  rw [st_three (by omega)] at h
  simp only [List.cons.injEq] at h
  refine ⟨rfl, ?_, ?_, ?_⟩
  · rw [List.getElem?_eq_getElem (by omega), h.1]
  · rw [List.getElem?_eq_getElem (by omega), h.2.1]
  · rw [List.getElem?_eq_getElem (by omega), h.2.2.1]
set_option maxRecDepth 10000 in
set_option maxHeartbeats 1000000 in
theorem c_source (C M N : Nat) (ws : List RW) (i j : Nat) (W : World) (h : Cut C M N ws W) (hi : i < j) (hj : j ≤ ws.length) :
    Calls Tryz.prog 85 #[.pointer (some ⟨C, 0, none⟩), .int .i64 i, .int .i64 j] W (Post C M N ws W (¬ G source (st (ws.map tok) i j)) (D source (sw ws i j))) := by
  have hlen := h.len
  have HL : Hid (j ≤ (ws.map tok).length) := by show j ≤ _; simpa using hj
  obtain ⟨wa, cap, capm, c0, c1, c2, c3, cw⟩ := h.cells
  obtain ⟨g, rfl, hg, q1, q2, q3⟩ := cw i (by omega)
  go_enter Tryz.func85, Tryz.ntmps85
  go_wp2_with fail
  refine (c_name C M N ws _ _ h (by omega) (by omega)).mono ?_
  rintro e w' ⟨rfl, rfl⟩
  cases hn : nameAt ws i with
  | false =>
    go_wp2_with fail
    go_ret
    refine ⟨_, rfl, h, Keep.refl _ _, .inl ⟨rfl, fun hg => ?_⟩⟩
    have hx : nameAt ws i = true := (name_at h.ok i).2 (by rcases (inv_source _).1 hg with e | e; exact (at_one HL.out e).2; exact (at_three HL.out e).2.1)
    rw [hn] at hx; cases hx
  | true =>
    have HN := (name_at h.ok i).1 hn
    by_cases hj1 : j = i + 1
    · subst hj1
      go_wp2_with fail
      go_ret
      obtain ⟨hl, ht⟩ := tok_get HN
      refine ⟨_, rfl, h.alloc _, Keep.alloc M _ _, .inr ⟨_, _, rfl, ?_, mk_nd0 h.mlt h.nlt { kind := [115, 111, 117, 114, 99, 101], text := ws[i].text }, ?_⟩⟩
      · have := h.nlt; omega
      · rw [sw_one (by omega)]; exact .src ht
    · by_cases hj3 : j = i + 3
      · subst hj3
        go_wp2_with fail
        refine (c_key C M N ws ((i + 1 : Nat) : Int) [97, 115] _ h (by omega) (by omega)).mono ?_
        rintro e w' ⟨rfl, rfl⟩
        cases hk : keyAt ws ((i + 1 : Nat) : Int) [97, 115] with
        | false =>
          go_wp2_with fail
          go_ret
          refine ⟨_, rfl, h, Keep.refl _ _, .inl ⟨rfl, fun hg => ?_⟩⟩
          rcases (inv_source _).1 hg with e | e
          · have := (at_one HL.out e).1; omega
          · have hx := (key_at h.ok ([97, 115], T.as_) (by decide) (by decide) (i + 1)).2 (at_three HL.out e).2.2.1
            rw [hk] at hx; cases hx
        | true =>
          go_wp2_with fail
          refine (c_name C M N ws ((i + 2 : Nat) : Int) _ h (by omega) (by omega)).mono ?_
          rintro e w' ⟨rfl, rfl⟩
          cases hn2 : nameAt ws ((i + 2 : Nat) : Int) with
          | false =>
            go_wp2_with fail
            go_ret
            refine ⟨_, rfl, h, Keep.refl _ _, .inl ⟨rfl, fun hg => ?_⟩⟩
            rcases (inv_source _).1 hg with e | e
            · have := (at_one HL.out e).1; omega
            · have hx := (name_at h.ok (i + 2)).2 (at_three HL.out e).2.2.2
              rw [hn2] at hx; cases hx
          | true =>
            obtain ⟨g', eg, hg', q1', q2', q3'⟩ := cw (i + 2) (by omega)
            cases eg
            clear cw
            go_wp2_with fail
            go_region
            go_wp2_with fail
            go_ret
            obtain ⟨hl, ht⟩ := tok_get HN
            obtain ⟨hl1, ht1⟩ := tok_get ((key_at h.ok ([97, 115], T.as_) (by decide) (by decide) (i + 1)).1 hk)
            obtain ⟨hl2, ht2⟩ := tok_get ((name_at h.ok (i + 2)).1 hn2)
            refine ⟨_, rfl, (h.alloc _).drew 1, (Keep.alloc M _ _).trans (Keep.drew M _ 1), .inr ⟨_, _, rfl, ?_, (mk_nd0 h.mlt h.nlt { kind := [115, 111, 117, 114, 99, 101], text := ws[i].text, as_ := ws[i + 2].text }).keep (Keep.drew M _ 1), ?_⟩⟩
            · have := h.nlt; omega
            · rw [sw_three (by omega)]; exact .srcAs ht ht1 ht2
      · go_wp2_with fail
        go_ret
        refine ⟨_, rfl, h, Keep.refl _ _, .inl ⟨rfl, fun hg => ?_⟩⟩
        rcases (inv_source _).1 hg with e | e
        · have := (at_one HL.out e).1; omega
        · have := (at_three HL.out e).1; omega
set_option maxRecDepth 10000 in
set_option maxHeartbeats 1000000 in
theorem c_column (C M N : Nat) (ws : List RW) (i j : Nat) (W : World) (h : Cut C M N ws W) (hi : i < j) (hj : j ≤ ws.length) :
    Calls Tryz.prog 86 #[.pointer (some ⟨C, 0, none⟩), .int .i64 i, .int .i64 j] W (Post C M N ws W (¬ G column (st (ws.map tok) i j)) (D column (sw ws i j))) := by
  have hlen := h.len
  have HL : Hid (j ≤ (ws.map tok).length) := by show j ≤ _; simpa using hj
  obtain ⟨wa, cap, capm, c0, c1, c2, c3, cw⟩ := h.cells
  obtain ⟨g, rfl, hg, q1, q2, q3⟩ := cw i (by omega)
  go_enter Tryz.func86, Tryz.ntmps86
  go_wp2_with fail
  refine (c_name C M N ws _ _ h (by omega) (by omega)).mono ?_
  rintro e w' ⟨rfl, rfl⟩
  cases hn : nameAt ws i with
  | false =>
    go_wp2_with fail
    go_ret
    refine ⟨_, rfl, h, Keep.refl _ _, .inl ⟨rfl, fun hg => ?_⟩⟩
    have hx : nameAt ws i = true := (name_at h.ok i).2 (by rcases (inv_column _).1 hg with e | e; exact (at_one HL.out e).2; exact (at_three HL.out e).2.1)
    rw [hn] at hx; cases hx
  | true =>
    have HN := (name_at h.ok i).1 hn
    by_cases hj1 : j = i + 1
    · subst hj1
      go_wp2_with fail
      go_ret
      obtain ⟨hl, ht⟩ := tok_get HN
      refine ⟨_, rfl, h.alloc _, Keep.alloc M _ _, .inr ⟨_, _, rfl, ?_, mk_nd0 h.mlt h.nlt { kind := [99, 111, 108, 117, 109, 110], text := ws[i].text }, ?_⟩⟩
      · have := h.nlt; omega
      · rw [sw_one (by omega)]; exact .col ht
    · by_cases hj3 : j = i + 3
      · subst hj3
        go_wp2_with fail
        refine (c_sign C M N ws ((i + 1 : Nat) : Int) [46] _ h (by omega) (by omega)).mono ?_
        rintro e w' ⟨rfl, rfl⟩
        cases hk : signAt ws ((i + 1 : Nat) : Int) [46] with
        | false =>
          go_wp2_with fail
          go_ret
          refine ⟨_, rfl, h, Keep.refl _ _, .inl ⟨rfl, fun hg => ?_⟩⟩
          rcases (inv_column _).1 hg with e | e
          · have := (at_one HL.out e).1; omega
          · have hx := (sign_at h.ok ([46], T.dot) (by decide) (by decide) (i + 1)).2 (at_three HL.out e).2.2.1
            rw [hk] at hx; cases hx
        | true =>
          go_wp2_with fail
          refine (c_name C M N ws ((i + 2 : Nat) : Int) _ h (by omega) (by omega)).mono ?_
          rintro e w' ⟨rfl, rfl⟩
          cases hn2 : nameAt ws ((i + 2 : Nat) : Int) with
          | false =>
            go_wp2_with fail
            go_ret
            refine ⟨_, rfl, h, Keep.refl _ _, .inl ⟨rfl, fun hg => ?_⟩⟩
            rcases (inv_column _).1 hg with e | e
            · have := (at_one HL.out e).1; omega
            · have hx := (name_at h.ok (i + 2)).2 (at_three HL.out e).2.2.2
              rw [hn2] at hx; cases hx
          | true =>
            obtain ⟨g', eg, hg', q1', q2', q3'⟩ := cw (i + 2) (by omega)
            cases eg
            clear cw
            go_wp2_with fail
            go_region
            go_wp2_with fail
            go_ret
            obtain ⟨hl, ht⟩ := tok_get HN
            obtain ⟨hl1, ht1⟩ := tok_get ((sign_at h.ok ([46], T.dot) (by decide) (by decide) (i + 1)).1 hk)
            obtain ⟨hl2, ht2⟩ := tok_get ((name_at h.ok (i + 2)).1 hn2)
            refine ⟨_, rfl, (h.alloc _).drew 1, (Keep.alloc M _ _).trans (Keep.drew M _ 1), .inr ⟨_, _, rfl, ?_, (mk_nd0 h.mlt h.nlt { kind := [99, 111, 108, 117, 109, 110], of_ := ws[i].text, text := ws[i + 2].text }).keep (Keep.drew M _ 1), ?_⟩⟩
            · have := h.nlt; omega
            · rw [sw_three (by omega)]; exact .colOf ht ht1 ht2
      · go_wp2_with fail
        go_ret
        refine ⟨_, rfl, h, Keep.refl _ _, .inl ⟨rfl, fun hg => ?_⟩⟩
        rcases (inv_column _).1 hg with e | e
        · have := (at_one HL.out e).1; omega
        · have := (at_three HL.out e).1; omega
end Gr
end Go.Proofs.YtfkdfplnhlnnoaaGreatDoor
end
