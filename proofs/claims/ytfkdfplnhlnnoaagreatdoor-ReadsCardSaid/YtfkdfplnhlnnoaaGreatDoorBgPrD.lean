import Derived.Test.YtfkdfplnhlnnoaaGreatDoorBgJa31
namespace Go.Proofs.YtfkdfplnhlnnoaaGreatDoor
open Go.RowKit
namespace Gr
set_option linter.unusedSimpArgs false
set_option linter.unusedVariables false
theorem own_get {w : World} {B n : Nat} {v : Value} {l : List Bg.Str} (h : w.ownsRow B 9 1 v n (l.map strV)) (hl : l.length = n) (h0 : 0 < n) : ∃ g cap, v = .slice (some ⟨g, 0, none⟩) n cap ∧ ∀ j (hj : j < n), w.cell? ⟨g, j, none⟩ = some (.string ⟨(l.getD j []).toArray⟩) := by
  have hc := fun g => h.cells (g := g)
  rcases h.2 with ⟨_, e⟩ | ⟨g, cap, cur, rfl, _⟩
  · omega
  · refine ⟨g, cap, rfl, fun j hj => ?_⟩
    have := hc g rfl j (strV (l.getD j [])) (by rw [List.getElem?_map, List.getElem?_eq_getElem (by omega), List.getD_eq_getElem?_getD, List.getElem?_eq_getElem (by omega)]; rfl)
    rw [Addr.add_lit, Nat.zero_add] at this
    exact this
theorem blw_dr {B : Nat} {a w : World} (h : Below B a w) (n : Nat) : Below B a (w.drewN n) := h.trans ⟨rfl, rfl, rfl, Nat.le_refl _, fun _ _ => rfl⟩
set_option maxRecDepth 10000 in
set_option maxHeartbeats 8000000 in
theorem ref_Print1 (M N : Nat) (f : Fl) (k i fr g w h : Tr) (W : World) (b : Nat) (hp : PtrAt M N W (.node f k i fr g w h) (.pointer (some ⟨b, 0, none⟩))) (hg : Good (.node f k i fr g w h))
    (hKd : ∀ x ∈ elems k, PrintOK M N x) (hSel : ∀ w', Below W.heap.size W w' → Calls Tryz.prog 26 #[.pointer (some ⟨b, 0, none⟩)] w' fun e w2 => e = .returned (.string ⟨(selP f (prs i) (prs fr) (prs g) (if w.isNode then some (pr w) else none) (if h.isNode then some (pr h) else none)).toArray⟩) ∧ Below w'.heap.size w' w2) :
    Calls Tryz.prog 10 #[.pointer (some ⟨b, 0, none⟩)] W fun e w' => e = .returned (.string ⟨(pr (.node f k i fr g w h)).toArray⟩) ∧ Below W.heap.size W w' := by
  have happ := Bg.app_mk
  obtain ⟨i0, hi0, hz0, hz1, hz2⟩ := info_parts Tryz.infoStr
  rw [ptr_node] at hp
  obtain ⟨b', vk, vi, vf, vg, vw, vh, e, hbM, hbN, hob, s1, s2, s3, s4, p1, p2⟩ := hp
  cases e
  rw [Good] at hg
  obtain ⟨hn, gk, gi, gf, gg, gw, gh, gw2, gh2⟩ := hg
  obtain ⟨z0, z1, z2, z3, z4, z5, z6, z7, z8, z9, z10, z11, z12, z13, z14, z15⟩ := cellT hob
  have hbl : b < W.heap.size := World.block_lt_of_cell? _ _ z0
  have HC : Hid (∀ w', Below W.heap.size W w' → w'.heap[b]? = some (.cells (cellsT f vk vi vf vg vw vh) NTree (0, 0))) := fun w' hB => (hB.block b hbl).trans hob
  have HSel := (show Hid _ from hSel)
  clear hSel
  obtain ⟨ak, ck, rfl, hcell⟩ := sl_cells s1
  have HCELL : Hid (∀ w', Below W.heap.size W w' → ∀ j (hj : j < (elems k).length), ∃ g u, ak = some ⟨g, 0, none⟩ ∧ w'.cell? ⟨g, j, none⟩ = some u ∧ PtrAt M N w' (elems k)[j] u) := fun w' hB j hj => by
    obtain ⟨g, u, e, hc, hp⟩ := hcell j hj
    exact ⟨g, u, e, (hB.cell (p := ⟨g, j, none⟩) (World.block_lt_of_cell? _ _ hc)).trans hc, hp.keep (Keep.of_below hB)⟩
  have hge := good_elems k gk
  have hel := elems_len k
  have hlk := hn.lk
  have HAR : Hid (arity f ≤ k.len) := hn.ar
  have HFL : Hid (FlOk f) := hn.fl
  have HPR : Hid (pr (.node f k i fr g w h) = prN f (prs k) (prs i) (prs fr) (prs g) (if w.isNode then some (pr w) else none) (if h.isNode then some (pr h) else none)) := by show _ = _; rw [pr]
  generalize pr (.node f k i fr g w h) = R at HPR ⊢
  have hlk0 : ((prs k).getD 0 []).length ≤ 400000 ∧ ((prs k).getD 1 []).length ≤ 400000 := by
    rw [prs_elems]
    have key : ∀ j, (((elems k).map pr).getD j []).length ≤ 400000 := fun j => by
      rw [List.getD_eq_getElem?_getD, List.getElem?_map]
      by_cases hj : j < (elems k).length
      · rw [List.getElem?_eq_getElem hj]
        exact good_pr (hge _ (List.getElem_mem hj))
      · rw [List.getElem?_eq_none (by omega)]; simp
    exact ⟨key 0, key 1⟩
  have HKS : Hid ((prs k).length = k.len) := prs_len k gk
  have HPE : Hid (prs k = (elems k).map pr) := prs_elems k
  clear s1 s2 s3 s4 p1 p2 hob hn gk gi gf gg gw gh gw2 gh2 z11 z12 z13 z14 z15 hcell
  generalize hnk : k.len = nk at *
  clear hnk
  go_enter Tryz.func10, Tryz.ntmps10
  go_wp2_with fail
  go_loopg [3, 4] (nk + 1) (fun gk kv iv wr => ∃ j : Nat, j ≤ nk ∧ gk = nk - j + 1 ∧ iv = .int .i64 j ∧ wr.ownsRow W.heap.size 9 1 kv j (((elems k).take j).map fun x => strV (pr x)) ∧ Below W.heap.size W wr)
  case atStart => exact ⟨0, by omega, by omega, rfl, World.ownsRow_nil _ _ _ _, Below.refl _ _⟩
  case round =>
    obtain ⟨j, hj, rfl, rfl, hown, hB⟩ := hrel
    clear z0 z1 z2 z3 z4 z5 z6 z7 z8 z9 z10
    obtain ⟨z0, z1, z2, z3, z4, z5, z6, z7, z8, z9, z10, z11, z12, z13, z14, z15⟩ := cellT (HC.out wr hB)
    clear z11 z12 z13 z14 z15
    by_cases hlt : j < nk
    · obtain ⟨g', u, rfl, hc1, hp1⟩ := HCELL.out wr hB j (by omega)
      have hxm : (elems k)[j]'(by omega) ∈ elems k := List.getElem_mem _
      have hcall := hKd _ hxm wr u hp1 (hge _ hxm)
      obtain ⟨o, rfl⟩ := ptr_is2 hp1
      have HTK : Hid ((((elems k).take (j + 1)).map fun x => strV (pr x)) = (((elems k).take j).map fun x => strV (pr x)) ++ [strV (pr ((elems k)[j]'(by omega)))]) := by
        show _ = _
        rw [List.take_succ_eq_append_getElem (by omega), List.map_append]; rfl
      clear hp1
      generalize pr ((elems k)[j]'(by omega)) = x at hcall HTK
      go_wp2_with fail
      refine hcall.mono ?_
      rintro e w1 ⟨rfl, hB1⟩
      have hown1 := own_below hown hB1
      have hB2 := hB.trans (hB1.mono hB.size)
      have hsz1 := hB2.size
      go_wp2_with (at_builtin; go_must (refine wpList_append_own _ rfl _ _ 40 rfl W.heap.size 9 i0 (.string ⟨#[]⟩) 1 16 Tryz.underlying40 hi0 hz0 hz1 hz2 rfl (by decide) _ _ _ rfl (hown1.alloc _) ⟨w1.heap.size, 0, none⟩ 1 1 [strV x] rfl rfl (cell_one_new _ _ _) (by simp [Value.oneCell', strV]) (by unfold maxLen; omega) (by omega) (by simp; omega) ?_); intro v' w5 hown' hgrow _)
      go_roundg (nk - (j + 1) + 1)
      case measure => omega
      case rel => exact ⟨j + 1, by omega, rfl, by exact vint (by omega), by rw [HTK.out]; exact hown', below_append hB2 hB2.size hown1 hgrow⟩
    · obtain rfl : j = nk := by omega
      have hown2 : wr.ownsRow W.heap.size 9 1 u3 j ((prs k).map strV) := by
        rw [HPE.out, List.map_map]
        rw [List.take_of_length_le (by omega)] at hown
        exact hown
      clear hown
      go_wp2_with fail
      refine (ref_not f.not_ _).mono ?_
      rintro e w' ⟨rfl, rfl⟩
      have hnl : (notP f.not_).length ≤ 4 := by unfold notP; split <;> decide
      have hl0 := hlk0.1
      have hl1 := hlk0.2
      have f1 := HFL.out.kind
      have f2 := HFL.out.sign
      have f3 := HFL.out.text
      have f4 := HFL.out.of_
      have f5 := HFL.out.as_
      clear hlk0 HCELL HPE HC hge hKd
      by_cases nk0 : f.kind = [110, 117, 109]
      · have hk := nk0
        clear nk0
        have HX : Hid (R = dec f.num) := by show _ = _; rw [HPR.out]; unfold prN; rw [hk]; rfl
        rw [hk] at z0
        go_wp2_with fail
        refine (ref_decimal f.num _ HFL.out.lo HFL.out.hi).mono ?_
        rintro e w' ⟨rfl, rfl⟩
        first | (go_wp2_with fail; go_ret) | (go_wp2_with fail; go_quiet (fail); go_wp2_with fail; go_ret)
        exact ⟨by rw [HX.out]; first | done | rfl | simp, by first | exact hB | exact blw_dr hB _⟩
      · skip
        by_cases nk1 : f.kind = [116, 101, 120, 116]
        · have hk := nk1
          clear nk1
          have HX : Hid (R = quote f.text) := by show _ = _; rw [HPR.out]; unfold prN; rw [hk]; rfl
          rw [hk] at z0
          go_wp2_with fail
          refine (ref_quote f.text _ (by omega)).mono ?_
          rintro e w' ⟨rfl, rfl⟩
          first | (go_wp2_with fail; go_ret) | (go_wp2_with fail; go_quiet (fail); go_wp2_with fail; go_ret)
          exact ⟨by rw [HX.out]; first | done | rfl | simp, by first | exact hB | exact blw_dr hB _⟩
        · skip
          by_cases nk2 : f.kind = [110, 117, 108, 108]
          · have hk := nk2
            clear nk2
            have HX : Hid (R = [110, 117, 108, 108]) := by show _ = _; rw [HPR.out]; unfold prN; rw [hk]; rfl
            rw [hk] at z0
            first | (go_wp2_with fail; go_ret) | (go_wp2_with fail; go_quiet (fail); go_wp2_with fail; go_ret)
            exact ⟨by rw [HX.out]; first | done | rfl | simp, by first | exact hB | exact blw_dr hB _⟩
          · skip
            by_cases nk3 : f.kind = [99, 111, 108, 117, 109, 110]
            · have hk := nk3
              clear nk3
              by_cases ho : f.of_ = []
              · have HX : Hid (R = f.text) := by show _ = _; rw [HPR.out]; unfold prN; rw [hk, if_neg (by decide), if_neg (by decide), if_neg (by decide), if_pos rfl, if_pos ho]
                rw [hk] at z0
                rw [ho] at z3
                clear ho hk
                first | (go_wp2_with fail; go_ret) | (go_wp2_with fail; go_quiet (fail); go_wp2_with fail; go_ret)
                exact ⟨by rw [HX.out]; first | done | rfl | simp, by first | exact hB | exact blw_dr hB _⟩
              · have HX : Hid (R = f.of_ ++ [46] ++ f.text) := by show _ = _; rw [HPR.out]; unfold prN; rw [hk, if_neg (by decide), if_neg (by decide), if_neg (by decide), if_pos rfl, if_neg ho]
                have ho' : (f.of_ == []) = false := by simpa using ho
                rw [hk] at z0
                clear ho hk
                first | (go_wp2_with fail; go_ret) | (go_wp2_with fail; go_quiet (fail); go_wp2_with fail; go_ret)
                exact ⟨by rw [HX.out]; first | done | rfl | simp, by first | exact hB | exact blw_dr hB _⟩
            · skip
              by_cases nk4 : f.kind = [110, 101, 103]
              · have hk := nk4
                clear nk4
                have HX : Hid (R = [40, 45] ++ (prs k).getD 0 [] ++ [41]) := by show _ = _; rw [HPR.out]; unfold prN; rw [hk]; rfl
                have ha : 1 ≤ j := by
                  have := HAR.out
                  unfold arity at this
                  rw [hk] at this
                  simpa [fns4] using this
                obtain ⟨gk, capk, rfl, hkc⟩ := own_get hown2 HKS.out (by omega)
                have y0 := hkc 0 (by omega)
                clear hkc hown2
                generalize (prs k).getD 0 [] = x0 at y0 HX hl0
                rw [hk] at z0
                clear hk
                first | (go_wp2_with fail; go_ret) | (go_wp2_with fail; go_quiet (fail); go_wp2_with fail; go_ret)
                exact ⟨by rw [HX.out]; first | done | rfl | simp, by first | exact hB | exact blw_dr hB _⟩
              · skip
                by_cases nk5 : f.kind = [99, 111, 117, 110, 116]
                · have hk := nk5
                  clear nk5
                  cases hst : f.star with
                  | true =>
                    have HX : Hid (R = [99, 111, 117, 110, 116, 40, 42, 41]) := by show _ = _; rw [HPR.out]; unfold prN; rw [hk, hst]; rfl
                    rw [hk] at z0
                    rw [hst] at z6
                    first | (go_wp2_with fail; go_ret) | (go_wp2_with fail; go_quiet (fail); go_wp2_with fail; go_ret)
                    exact ⟨by rw [HX.out]; first | done | rfl | simp, by first | exact hB | exact blw_dr hB _⟩
                  | false =>
                    have HX : Hid (R = [99, 111, 117, 110, 116] ++ [40] ++ (prs k).getD 0 [] ++ [41]) := by show _ = _; rw [HPR.out]; unfold prN; rw [hk, hst]; rfl
                    have ha : 1 ≤ j := by
                      have := HAR.out
                      unfold arity at this
                      rw [hk, hst] at this
                      simpa [fns4] using this
                    obtain ⟨gk, capk, rfl, hkc⟩ := own_get hown2 HKS.out (by omega)
                    have y0 := hkc 0 (by omega)
                    clear hkc hown2
                    generalize (prs k).getD 0 [] = x0 at y0 HX hl0
                    rw [hk] at z0
                    rw [hst] at z6
                    first | (go_wp2_with fail; go_ret) | (go_wp2_with fail; go_quiet (fail); go_wp2_with fail; go_ret)
                    exact ⟨by rw [HX.out]; first | done | rfl | simp, by first | exact hB | exact blw_dr hB _⟩
                · skip
                  by_cases nk6 : f.kind = [115, 117, 109]
                  · have hk := nk6
                    clear nk6
                    cases hst : f.star with
                    | true =>
                      have HX : Hid (R = [99, 111, 117, 110, 116, 40, 42, 41]) := by show _ = _; rw [HPR.out]; unfold prN; rw [hk, hst]; rfl
                      rw [hk] at z0
                      rw [hst] at z6
                      first | (go_wp2_with fail; go_ret) | (go_wp2_with fail; go_quiet (fail); go_wp2_with fail; go_ret)
                      exact ⟨by rw [HX.out]; first | done | rfl | simp, by first | exact hB | exact blw_dr hB _⟩
                    | false =>
                      have HX : Hid (R = [115, 117, 109] ++ [40] ++ (prs k).getD 0 [] ++ [41]) := by show _ = _; rw [HPR.out]; unfold prN; rw [hk, hst]; rfl
                      have ha : 1 ≤ j := by
                        have := HAR.out
                        unfold arity at this
                        rw [hk, hst] at this
                        simpa [fns4] using this
                      obtain ⟨gk, capk, rfl, hkc⟩ := own_get hown2 HKS.out (by omega)
                      have y0 := hkc 0 (by omega)
                      clear hkc hown2
                      generalize (prs k).getD 0 [] = x0 at y0 HX hl0
                      rw [hk] at z0
                      rw [hst] at z6
                      first | (go_wp2_with fail; go_ret) | (go_wp2_with fail; go_quiet (fail); go_wp2_with fail; go_ret)
                      exact ⟨by rw [HX.out]; first | done | rfl | simp, by first | exact hB | exact blw_dr hB _⟩
                  · skip
                    by_cases nk7 : f.kind = [109, 105, 110]
                    · have hk := nk7
                      clear nk7
                      cases hst : f.star with
                      | true =>
                        have HX : Hid (R = [99, 111, 117, 110, 116, 40, 42, 41]) := by show _ = _; rw [HPR.out]; unfold prN; rw [hk, hst]; rfl
                        rw [hk] at z0
                        rw [hst] at z6
                        first | (go_wp2_with fail; go_ret) | (go_wp2_with fail; go_quiet (fail); go_wp2_with fail; go_ret)
                        exact ⟨by rw [HX.out]; first | done | rfl | simp, by first | exact hB | exact blw_dr hB _⟩
                      | false =>
                        have HX : Hid (R = [109, 105, 110] ++ [40] ++ (prs k).getD 0 [] ++ [41]) := by show _ = _; rw [HPR.out]; unfold prN; rw [hk, hst]; rfl
                        have ha : 1 ≤ j := by
                          have := HAR.out
                          unfold arity at this
                          rw [hk, hst] at this
                          simpa [fns4] using this
                        obtain ⟨gk, capk, rfl, hkc⟩ := own_get hown2 HKS.out (by omega)
                        have y0 := hkc 0 (by omega)
                        clear hkc hown2
                        generalize (prs k).getD 0 [] = x0 at y0 HX hl0
                        rw [hk] at z0
                        rw [hst] at z6
                        first | (go_wp2_with fail; go_ret) | (go_wp2_with fail; go_quiet (fail); go_wp2_with fail; go_ret)
                        exact ⟨by rw [HX.out]; first | done | rfl | simp, by first | exact hB | exact blw_dr hB _⟩
                    · skip
                      by_cases nk8 : f.kind = [109, 97, 120]
                      · have hk := nk8
                        clear nk8
                        cases hst : f.star with
                        | true =>
                          have HX : Hid (R = [99, 111, 117, 110, 116, 40, 42, 41]) := by show _ = _; rw [HPR.out]; unfold prN; rw [hk, hst]; rfl
                          rw [hk] at z0
                          rw [hst] at z6
                          first | (go_wp2_with fail; go_ret) | (go_wp2_with fail; go_quiet (fail); go_wp2_with fail; go_ret)
                          exact ⟨by rw [HX.out]; first | done | rfl | simp, by first | exact hB | exact blw_dr hB _⟩
                        | false =>
                          have HX : Hid (R = [109, 97, 120] ++ [40] ++ (prs k).getD 0 [] ++ [41]) := by show _ = _; rw [HPR.out]; unfold prN; rw [hk, hst]; rfl
                          have ha : 1 ≤ j := by
                            have := HAR.out
                            unfold arity at this
                            rw [hk, hst] at this
                            simpa [fns4] using this
                          obtain ⟨gk, capk, rfl, hkc⟩ := own_get hown2 HKS.out (by omega)
                          have y0 := hkc 0 (by omega)
                          clear hkc hown2
                          generalize (prs k).getD 0 [] = x0 at y0 HX hl0
                          rw [hk] at z0
                          rw [hst] at z6
                          first | (go_wp2_with fail; go_ret) | (go_wp2_with fail; go_quiet (fail); go_wp2_with fail; go_ret)
                          exact ⟨by rw [HX.out]; first | done | rfl | simp, by first | exact hB | exact blw_dr hB _⟩
                      · skip
                        by_cases nk9 : f.kind = [110, 111, 116]
                        · have hk := nk9
                          clear nk9
                          have HX : Hid (R = [40, 110, 111, 116, 32] ++ (prs k).getD 0 [] ++ [41]) := by show _ = _; rw [HPR.out]; unfold prN; rw [hk]; rfl
                          have ha : 1 ≤ j := by
                            have := HAR.out
                            unfold arity at this
                            rw [hk] at this
                            simpa [fns4] using this
                          obtain ⟨gk, capk, rfl, hkc⟩ := own_get hown2 HKS.out (by omega)
                          have y0 := hkc 0 (by omega)
                          clear hkc hown2
                          generalize (prs k).getD 0 [] = x0 at y0 HX hl0
                          rw [hk] at z0
                          clear hk
                          first | (go_wp2_with fail; go_ret) | (go_wp2_with fail; go_quiet (fail); go_wp2_with fail; go_ret)
                          exact ⟨by rw [HX.out]; first | done | rfl | simp, by first | exact hB | exact blw_dr hB _⟩
                        · skip
                          by_cases nk10 : f.kind = [101, 120, 105, 115, 116, 115]
                          · have hk := nk10
                            clear nk10
                            have HX : Hid (R = [101, 120, 105, 115, 116, 115, 32, 40] ++ (prs k).getD 0 [] ++ [41]) := by show _ = _; rw [HPR.out]; unfold prN; rw [hk]; rfl
                            have ha : 1 ≤ j := by
                              have := HAR.out
                              unfold arity at this
                              rw [hk] at this
                              simpa [fns4] using this
                            obtain ⟨gk, capk, rfl, hkc⟩ := own_get hown2 HKS.out (by omega)
                            have y0 := hkc 0 (by omega)
                            clear hkc hown2
                            generalize (prs k).getD 0 [] = x0 at y0 HX hl0
                            rw [hk] at z0
                            clear hk
                            first | (go_wp2_with fail; go_ret) | (go_wp2_with fail; go_quiet (fail); go_wp2_with fail; go_ret)
                            exact ⟨by rw [HX.out]; first | done | rfl | simp, by first | exact hB | exact blw_dr hB _⟩
                          · skip
                            by_cases nk11 : f.kind = [105, 115, 110, 117, 108, 108]
                            · have hk := nk11
                              clear nk11
                              have HX : Hid (R = (prs k).getD 0 [] ++ [32, 105, 115, 32] ++ notP f.not_ ++ [110, 117, 108, 108]) := by show _ = _; rw [HPR.out]; unfold prN; rw [hk]; rfl
                              have ha : 1 ≤ j := by
                                have := HAR.out
                                unfold arity at this
                                rw [hk] at this
                                simpa [fns4] using this
                              obtain ⟨gk, capk, rfl, hkc⟩ := own_get hown2 HKS.out (by omega)
                              have y0 := hkc 0 (by omega)
                              clear hkc hown2
                              generalize (prs k).getD 0 [] = x0 at y0 HX hl0
                              rw [hk] at z0
                              clear hk
                              first | (go_wp2_with fail; go_ret) | (go_wp2_with fail; go_quiet (fail); go_wp2_with fail; go_ret)
                              exact ⟨by rw [HX.out]; first | done | rfl | simp, by first | exact hB | exact blw_dr hB _⟩
                            · skip
                              by_cases nk12 : f.kind = [105, 110]
                              · have hk := nk12
                                clear nk12
                                have HX : Hid (R = (prs k).getD 0 [] ++ [32] ++ notP f.not_ ++ [105, 110, 32, 40] ++ (prs k).getD 1 [] ++ [41]) := by show _ = _; rw [HPR.out]; unfold prN; rw [hk]; rfl
                                have ha : 2 ≤ j := by
                                  have := HAR.out
                                  unfold arity at this
                                  rw [hk] at this
                                  simpa [fns4] using this
                                obtain ⟨gk, capk, rfl, hkc⟩ := own_get hown2 HKS.out (by omega)
                                have y0 := hkc 0 (by omega)
                                have y1 := hkc 1 (by omega)
                                clear hkc hown2
                                generalize (prs k).getD 0 [] = x0 at y0 HX hl0
                                generalize (prs k).getD 1 [] = x1 at y1 HX hl1
                                rw [hk] at z0
                                clear hk
                                first | (go_wp2_with fail; go_ret) | (go_wp2_with fail; go_quiet (fail); go_wp2_with fail; go_ret)
                                exact ⟨by rw [HX.out]; first | done | rfl | simp, by first | exact hB | exact blw_dr hB _⟩
                              · skip
                                by_cases nk13 : f.kind = [97, 110, 121]
                                · have hk := nk13
                                  clear nk13
                                  have HX : Hid (R = (prs k).getD 0 [] ++ [32] ++ f.sign ++ [32] ++ [97, 110, 121] ++ [32, 40] ++ (prs k).getD 1 [] ++ [41]) := by show _ = _; rw [HPR.out]; unfold prN; rw [hk]; rfl
                                  have ha : 2 ≤ j := by
                                    have := HAR.out
                                    unfold arity at this
                                    rw [hk] at this
                                    simpa [fns4] using this
                                  obtain ⟨gk, capk, rfl, hkc⟩ := own_get hown2 HKS.out (by omega)
                                  have y0 := hkc 0 (by omega)
                                  have y1 := hkc 1 (by omega)
                                  clear hkc hown2
                                  generalize (prs k).getD 0 [] = x0 at y0 HX hl0
                                  generalize (prs k).getD 1 [] = x1 at y1 HX hl1
                                  rw [hk] at z0
                                  clear hk
                                  first | (go_wp2_with fail; go_ret) | (go_wp2_with fail; go_quiet (fail); go_wp2_with fail; go_ret)
                                  exact ⟨by rw [HX.out]; first | done | rfl | simp, by first | exact hB | exact blw_dr hB _⟩
                                · skip
                                  by_cases nk14 : f.kind = [97, 108, 108]
                                  · have hk := nk14
                                    clear nk14
                                    have HX : Hid (R = (prs k).getD 0 [] ++ [32] ++ f.sign ++ [32] ++ [97, 108, 108] ++ [32, 40] ++ (prs k).getD 1 [] ++ [41]) := by show _ = _; rw [HPR.out]; unfold prN; rw [hk]; rfl
                                    have ha : 2 ≤ j := by
                                      have := HAR.out
                                      unfold arity at this
                                      rw [hk] at this
                                      simpa [fns4] using this
                                    obtain ⟨gk, capk, rfl, hkc⟩ := own_get hown2 HKS.out (by omega)
                                    have y0 := hkc 0 (by omega)
                                    have y1 := hkc 1 (by omega)
                                    clear hkc hown2
                                    generalize (prs k).getD 0 [] = x0 at y0 HX hl0
                                    generalize (prs k).getD 1 [] = x1 at y1 HX hl1
                                    rw [hk] at z0
                                    clear hk
                                    first | (go_wp2_with fail; go_ret) | (go_wp2_with fail; go_quiet (fail); go_wp2_with fail; go_ret)
                                    exact ⟨by rw [HX.out]; first | done | rfl | simp, by first | exact hB | exact blw_dr hB _⟩
                                  · skip
                                    by_cases nk15 : f.kind = [99, 111, 109, 112, 97, 114, 101]
                                    · have hk := nk15
                                      clear nk15
                                      have HX : Hid (R = (prs k).getD 0 [] ++ [32] ++ f.sign ++ [32] ++ (prs k).getD 1 []) := by show _ = _; rw [HPR.out]; unfold prN; rw [hk]; rfl
                                      have ha : 2 ≤ j := by
                                        have := HAR.out
                                        unfold arity at this
                                        rw [hk] at this
                                        simpa [fns4] using this
                                      obtain ⟨gk, capk, rfl, hkc⟩ := own_get hown2 HKS.out (by omega)
                                      have y0 := hkc 0 (by omega)
                                      have y1 := hkc 1 (by omega)
                                      clear hkc hown2
                                      generalize (prs k).getD 0 [] = x0 at y0 HX hl0
                                      generalize (prs k).getD 1 [] = x1 at y1 HX hl1
                                      rw [hk] at z0
                                      clear hk
                                      first | (go_wp2_with fail; go_ret) | (go_wp2_with fail; go_quiet (fail); go_wp2_with fail; go_ret)
                                      exact ⟨by rw [HX.out]; first | done | rfl | simp, by first | exact hB | exact blw_dr hB _⟩
                                    · skip
                                      by_cases nk16 : f.kind = [105, 116, 101, 109]
                                      · have hk := nk16
                                        clear nk16
                                        have HX : Hid (R = asP ((prs k).getD 0 []) f.as_) := by show _ = _; rw [HPR.out]; unfold prN; rw [hk]; rfl
                                        have ha : 1 ≤ j := by
                                          have := HAR.out
                                          unfold arity at this
                                          rw [hk] at this
                                          simpa [fns4] using this
                                        obtain ⟨gk, capk, rfl, hkc⟩ := own_get hown2 HKS.out (by omega)
                                        have y0 := hkc 0 (by omega)
                                        clear hkc hown2
                                        generalize (prs k).getD 0 [] = x0 at y0 HX hl0
                                        rw [hk] at z0
                                        go_wp2_with fail
                                        go_region_with (go_at_call 25; refine (ref_as x0 f.as_ _ (by omega) (by omega)).mono ?_; rintro e w' ⟨rfl, rfl⟩)
                                        all_goals
                                          go_wp2_with fail
                                          go_ret
                                          exact ⟨by rw [HX.out]; first | done | rfl | simp, by first | exact hB | exact blw_dr hB _ | exact blw_dr hB 1⟩
                                      · skip
                                        by_cases nk17 : f.kind = [115, 111, 117, 114, 99, 101]
                                        · have hk := nk17
                                          clear nk17
                                          have HX : Hid (R = asP f.text f.as_) := by show _ = _; rw [HPR.out]; unfold prN; rw [hk]; rfl
                                          rw [hk] at z0
                                          go_wp2_with fail
                                          go_region_with (go_at_call 25; refine (ref_as f.text f.as_ _ (by omega) (by omega)).mono ?_; rintro e w' ⟨rfl, rfl⟩)
                                          all_goals
                                            go_wp2_with fail
                                            go_ret
                                            exact ⟨by rw [HX.out]; first | done | rfl | simp, by first | exact hB | exact blw_dr hB _ | exact blw_dr hB 1⟩
                                        · skip
                                          by_cases nk18 : f.kind = [115, 101, 108, 101, 99, 116]
                                          · have hk := nk18
                                            clear nk18
                                            have HX : Hid (R = selP f (prs i) (prs fr) (prs g) (if w.isNode then some (pr w) else none) (if h.isNode then some (pr h) else none)) := by show _ = _; rw [HPR.out]; unfold prN; rw [hk]; rfl
                                            have hsc := HSel.out wr hB
                                            generalize selP f (prs i) (prs fr) (prs g) (if w.isNode then some (pr w) else none) (if h.isNode then some (pr h) else none) = Q at HX hsc
                                            rw [hk] at z0
                                            go_wp2_with fail
                                            refine hsc.mono ?_
                                            rintro e w3 ⟨rfl, hB3⟩
                                            have hB4 := hB.trans (hB3.mono hB.size)
                                            first | (go_wp2_with fail; go_ret) | (go_wp2_with fail; go_quiet (fail); go_wp2_with fail; go_ret)
                                            exact ⟨by rw [HX.out]; first | done | rfl | simp, by first | exact hB4 | exact blw_dr hB4 _⟩
                                          · skip
                                            by_cases nk19 : f.kind = [117, 110, 105, 111, 110]
                                            · have hk := nk19
                                              clear nk19
                                              cases hst : f.all with
                                              | true =>
                                                have HX : Hid (R = [40] ++ (prs k).getD 0 [] ++ [32] ++ [117, 110, 105, 111, 110] ++ [32, 97, 108, 108, 32] ++ (prs k).getD 1 [] ++ [41]) := by show _ = _; rw [HPR.out]; unfold prN; rw [hk, hst]; rfl
                                                have ha : 2 ≤ j := by
                                                  have := HAR.out
                                                  unfold arity at this
                                                  rw [hk] at this
                                                  simpa [fns4] using this
                                                obtain ⟨gk, capk, rfl, hkc⟩ := own_get hown2 HKS.out (by omega)
                                                have y0 := hkc 0 (by omega)
                                                have y1 := hkc 1 (by omega)
                                                clear hkc hown2
                                                generalize (prs k).getD 0 [] = x0 at y0 HX hl0
                                                generalize (prs k).getD 1 [] = x1 at y1 HX hl1
                                                rw [hk] at z0
                                                rw [hst] at z8
                                                first | (go_wp2_with fail; go_ret) | (go_wp2_with fail; go_quiet (fail); go_wp2_with fail; go_ret)
                                                exact ⟨by rw [HX.out]; first | done | rfl | simp, by first | exact hB | exact blw_dr hB _⟩
                                              | false =>
                                                have HX : Hid (R = [40] ++ (prs k).getD 0 [] ++ [32] ++ [117, 110, 105, 111, 110] ++ [32] ++ (prs k).getD 1 [] ++ [41]) := by show _ = _; rw [HPR.out]; unfold prN; rw [hk, hst]; rfl
                                                have ha : 2 ≤ j := by
                                                  have := HAR.out
                                                  unfold arity at this
                                                  rw [hk] at this
                                                  simpa [fns4] using this
                                                obtain ⟨gk, capk, rfl, hkc⟩ := own_get hown2 HKS.out (by omega)
                                                have y0 := hkc 0 (by omega)
                                                have y1 := hkc 1 (by omega)
                                                clear hkc hown2
                                                generalize (prs k).getD 0 [] = x0 at y0 HX hl0
                                                generalize (prs k).getD 1 [] = x1 at y1 HX hl1
                                                rw [hk] at z0
                                                rw [hst] at z8
                                                first | (go_wp2_with fail; go_ret) | (go_wp2_with fail; go_quiet (fail); go_wp2_with fail; go_ret)
                                                exact ⟨by rw [HX.out]; first | done | rfl | simp, by first | exact hB | exact blw_dr hB _⟩
                                            · skip
                                              by_cases nk20 : f.kind = [105, 110, 116, 101, 114, 115, 101, 99, 116]
                                              · have hk := nk20
                                                clear nk20
                                                cases hst : f.all with
                                                | true =>
                                                  have HX : Hid (R = [40] ++ (prs k).getD 0 [] ++ [32] ++ [105, 110, 116, 101, 114, 115, 101, 99, 116] ++ [32, 97, 108, 108, 32] ++ (prs k).getD 1 [] ++ [41]) := by show _ = _; rw [HPR.out]; unfold prN; rw [hk, hst]; rfl
                                                  have ha : 2 ≤ j := by
                                                    have := HAR.out
                                                    unfold arity at this
                                                    rw [hk] at this
                                                    simpa [fns4] using this
                                                  obtain ⟨gk, capk, rfl, hkc⟩ := own_get hown2 HKS.out (by omega)
                                                  have y0 := hkc 0 (by omega)
                                                  have y1 := hkc 1 (by omega)
                                                  clear hkc hown2
                                                  generalize (prs k).getD 0 [] = x0 at y0 HX hl0
                                                  generalize (prs k).getD 1 [] = x1 at y1 HX hl1
                                                  rw [hk] at z0
                                                  rw [hst] at z8
                                                  first | (go_wp2_with fail; go_ret) | (go_wp2_with fail; go_quiet (fail); go_wp2_with fail; go_ret)
                                                  exact ⟨by rw [HX.out]; first | done | rfl | simp, by first | exact hB | exact blw_dr hB _⟩
                                                | false =>
                                                  have HX : Hid (R = [40] ++ (prs k).getD 0 [] ++ [32] ++ [105, 110, 116, 101, 114, 115, 101, 99, 116] ++ [32] ++ (prs k).getD 1 [] ++ [41]) := by show _ = _; rw [HPR.out]; unfold prN; rw [hk, hst]; rfl
                                                  have ha : 2 ≤ j := by
                                                    have := HAR.out
                                                    unfold arity at this
                                                    rw [hk] at this
                                                    simpa [fns4] using this
                                                  obtain ⟨gk, capk, rfl, hkc⟩ := own_get hown2 HKS.out (by omega)
                                                  have y0 := hkc 0 (by omega)
                                                  have y1 := hkc 1 (by omega)
                                                  clear hkc hown2
                                                  generalize (prs k).getD 0 [] = x0 at y0 HX hl0
                                                  generalize (prs k).getD 1 [] = x1 at y1 HX hl1
                                                  rw [hk] at z0
                                                  rw [hst] at z8
                                                  first | (go_wp2_with fail; go_ret) | (go_wp2_with fail; go_quiet (fail); go_wp2_with fail; go_ret)
                                                  exact ⟨by rw [HX.out]; first | done | rfl | simp, by first | exact hB | exact blw_dr hB _⟩
                                              · skip
                                                by_cases nk21 : f.kind = [101, 120, 99, 101, 112, 116]
                                                · have hk := nk21
                                                  clear nk21
                                                  cases hst : f.all with
                                                  | true =>
                                                    have HX : Hid (R = [40] ++ (prs k).getD 0 [] ++ [32] ++ [101, 120, 99, 101, 112, 116] ++ [32, 97, 108, 108, 32] ++ (prs k).getD 1 [] ++ [41]) := by show _ = _; rw [HPR.out]; unfold prN; rw [hk, hst]; rfl
                                                    have ha : 2 ≤ j := by
                                                      have := HAR.out
                                                      unfold arity at this
                                                      rw [hk] at this
                                                      simpa [fns4] using this
                                                    obtain ⟨gk, capk, rfl, hkc⟩ := own_get hown2 HKS.out (by omega)
                                                    have y0 := hkc 0 (by omega)
                                                    have y1 := hkc 1 (by omega)
                                                    clear hkc hown2
                                                    generalize (prs k).getD 0 [] = x0 at y0 HX hl0
                                                    generalize (prs k).getD 1 [] = x1 at y1 HX hl1
                                                    rw [hk] at z0
                                                    rw [hst] at z8
                                                    first | (go_wp2_with fail; go_ret) | (go_wp2_with fail; go_quiet (fail); go_wp2_with fail; go_ret)
                                                    exact ⟨by rw [HX.out]; first | done | rfl | simp, by first | exact hB | exact blw_dr hB _⟩
                                                  | false =>
                                                    have HX : Hid (R = [40] ++ (prs k).getD 0 [] ++ [32] ++ [101, 120, 99, 101, 112, 116] ++ [32] ++ (prs k).getD 1 [] ++ [41]) := by show _ = _; rw [HPR.out]; unfold prN; rw [hk, hst]; rfl
                                                    have ha : 2 ≤ j := by
                                                      have := HAR.out
                                                      unfold arity at this
                                                      rw [hk] at this
                                                      simpa [fns4] using this
                                                    obtain ⟨gk, capk, rfl, hkc⟩ := own_get hown2 HKS.out (by omega)
                                                    have y0 := hkc 0 (by omega)
                                                    have y1 := hkc 1 (by omega)
                                                    clear hkc hown2
                                                    generalize (prs k).getD 0 [] = x0 at y0 HX hl0
                                                    generalize (prs k).getD 1 [] = x1 at y1 HX hl1
                                                    rw [hk] at z0
                                                    rw [hst] at z8
                                                    first | (go_wp2_with fail; go_ret) | (go_wp2_with fail; go_quiet (fail); go_wp2_with fail; go_ret)
                                                    exact ⟨by rw [HX.out]; first | done | rfl | simp, by first | exact hB | exact blw_dr hB _⟩
                                                · skip
                                                  have nb0 : (f.kind == [110, 117, 109]) = false := by simpa using nk0
                                                  have nb1 : (f.kind == [116, 101, 120, 116]) = false := by simpa using nk1
                                                  have nb2 : (f.kind == [110, 117, 108, 108]) = false := by simpa using nk2
                                                  have nb3 : (f.kind == [99, 111, 108, 117, 109, 110]) = false := by simpa using nk3
                                                  have nb4 : (f.kind == [110, 101, 103]) = false := by simpa using nk4
                                                  have nb5 : (f.kind == [99, 111, 117, 110, 116]) = false := by simpa using nk5
                                                  have nb6 : (f.kind == [115, 117, 109]) = false := by simpa using nk6
                                                  have nb7 : (f.kind == [109, 105, 110]) = false := by simpa using nk7
                                                  have nb8 : (f.kind == [109, 97, 120]) = false := by simpa using nk8
                                                  have nb9 : (f.kind == [110, 111, 116]) = false := by simpa using nk9
                                                  have nb10 : (f.kind == [101, 120, 105, 115, 116, 115]) = false := by simpa using nk10
                                                  have nb11 : (f.kind == [105, 115, 110, 117, 108, 108]) = false := by simpa using nk11
                                                  have nb12 : (f.kind == [105, 110]) = false := by simpa using nk12
                                                  have nb13 : (f.kind == [97, 110, 121]) = false := by simpa using nk13
                                                  have nb14 : (f.kind == [97, 108, 108]) = false := by simpa using nk14
                                                  have nb15 : (f.kind == [99, 111, 109, 112, 97, 114, 101]) = false := by simpa using nk15
                                                  have nb16 : (f.kind == [105, 116, 101, 109]) = false := by simpa using nk16
                                                  have nb17 : (f.kind == [115, 111, 117, 114, 99, 101]) = false := by simpa using nk17
                                                  have nb18 : (f.kind == [115, 101, 108, 101, 99, 116]) = false := by simpa using nk18
                                                  have nb19 : (f.kind == [117, 110, 105, 111, 110]) = false := by simpa using nk19
                                                  have nb20 : (f.kind == [105, 110, 116, 101, 114, 115, 101, 99, 116]) = false := by simpa using nk20
                                                  have nb21 : (f.kind == [101, 120, 99, 101, 112, 116]) = false := by simpa using nk21
                                                  have HX : Hid (R = [40] ++ (prs k).getD 0 [] ++ [32] ++ f.kind ++ [32] ++ (prs k).getD 1 [] ++ [41]) := by
                                                    show _ = _
                                                    rw [HPR.out]
                                                    unfold prN
                                                    simp [fns4, sets3, nk0, nk1, nk2, nk3, nk4, nk5, nk6, nk7, nk8, nk9, nk10, nk11, nk12, nk13, nk14, nk15, nk16, nk17, nk18, nk19, nk20, nk21]
                                                  have ha : 2 ≤ j := by
                                                    have := HAR.out
                                                    unfold arity at this
                                                    simpa [fns4, nk0, nk1, nk2, nk3, nk4, nk5, nk6, nk7, nk8, nk9, nk10, nk11, nk12, nk13, nk14, nk15, nk16, nk17, nk18, nk19, nk20, nk21] using this
                                                  obtain ⟨gk, capk, rfl, hkc⟩ := own_get hown2 HKS.out (by omega)
                                                  have y0 := hkc 0 (by omega)
                                                  have y1 := hkc 1 (by omega)
                                                  clear hkc hown2 nk0 nk1 nk2 nk3 nk4 nk5 nk6 nk7 nk8 nk9 nk10 nk11 nk12 nk13 nk14 nk15 nk16 nk17 nk18 nk19 nk20 nk21
                                                  generalize (prs k).getD 0 [] = x0 at y0 HX hl0
                                                  generalize (prs k).getD 1 [] = x1 at y1 HX hl1
                                                  first | (go_wp2_with fail; go_ret) | (go_wp2_with fail; go_quiet (fail); go_wp2_with fail; go_ret)
                                                  exact ⟨by rw [HX.out]; first | done | rfl | simp, by first | exact hB | exact blw_dr hB _⟩
end Gr
end Go.Proofs.YtfkdfplnhlnnoaaGreatDoor
