import Derived.Test.YtfkdfplnhlnnoaaGreatDoorBgJa40
section
namespace Go.Proofs.YtfkdfplnhlnnoaaGreatDoor
open Go.RowKit
namespace Gr
set_option linter.unusedSimpArgs false
set_option linter.unusedVariables false
open NT
set_option maxRecDepth 10000 in
set_option maxHeartbeats 8000000 in
theorem c_factor1 (C M N : Nat) (ws : List RW) (m : Nat) (hI : Is C M N ws m) (i : Nat) (W : World) (h : Cut C M N ws W) (hi : i < (i + 1)) (hj : (i + 1) ≤ ws.length) (hm : ((i + 1) - i) * 20 < m) :
    Calls Tryz.prog 90 #[.pointer (some ⟨C, 0, none⟩), .int .i64 i, .int .i64 ((i + 1 : Nat) : Int)] W (Post C M N ws W (¬ G factor (st (ws.map tok) i (i + 1))) (D factor (sw ws i (i + 1)))) := by
  have hlen := h.len
  have HL : Hid ((i + 1) ≤ (ws.map tok).length) := by show (i + 1) ≤ _; simpa using hj
  go_enter Tryz.func90, Tryz.ntmps90
  go_wp2_with fail
  refine (c_sign C M N ws (i : Int) _ _ h (by omega) (by omega)).mono ?_
  rintro e w' ⟨rfl, rfl⟩
  cases hmi : signAt ws (i : Int) [45] with
  | true =>
    have HY := (sign_at h.ok ([45], T.minus) (by decide) (by decide) i).1 hmi
    clear hmi
    go_wp2_with fail
    refine (hI factor (i + 1) ((i + 1 : Nat) : Int) _ h (by omega) (by omega) (by omega) (by simp [rk]; omega)).mono ?_
    rintro e w3 ⟨v3, rfl, hC3, hK3, hF3⟩
    rw [Int.toNat_natCast] at hF3
    rcases hF3 with ⟨rfl, hn3⟩ | ⟨b3, t3, rfl, hb3, hp3, hd3⟩
    · have HN : Hid (¬ G factor (st (ws.map tok) i (i + 1))) := fun hg => by
        rcases factor_inv HL.out hg with ⟨_, e⟩ | ⟨_, e | e⟩ | ⟨e, e1⟩ | ⟨u, e1, e2, _⟩ | ⟨e, _⟩ | ⟨e, _⟩
        · exact hn3 e
        · exact tok_ne HY (by decide) e
        · exact tok_ne HY (by decide) e
        · exact tok_ne HY (by decide) e
        · rw [HY] at e1; cases Option.some.inj e1; cases e2
        · exact tok_ne HY (by decide) e
        · exact tok_ne HY (by decide) e
      clear hn3
      go_wp2_with fail
      go_ret
      exact ⟨_, rfl, hC3, hK3, .inl ⟨rfl, HN.out⟩⟩
    · go_wp2_with fail
      go_ret
      refine ⟨_, rfl, (hC3.alloc _).alloc _, (hK3.trans (Keep.alloc M _ _)).trans (Keep.alloc M _ _), .inr ⟨_, _, rfl, ?_, mk_nd1 hC3.mlt hC3.nlt { kind := [110, 101, 103] } hp3, ?_⟩⟩
      · have := hC3.nlt; simp; omega
      · obtain ⟨_, t0⟩ := tok_get HY
        rw [sw_cons ws hi hj]
        exact .fNeg t0 hd3
  | false =>
    have HMIN : Hid ((ws.map tok)[i]? ≠ some T.minus) := sign_no h.ok ([45], T.minus) (by decide) (by decide) hmi
    clear hmi
    obtain ⟨wa, cap, capm, c0, c1, c2, c3, cw⟩ := h.cells
    obtain ⟨g, rfl, hg, q1, q2, q3⟩ := cw i (by omega)
    clear cw
    have hil : i < ws.length := by omega
    have HOK : Hid (Ok1 ws[i]) := h.ok _ (List.getElem_mem hil)
    have HSW : Hid (sw ws i (i + 1) = [ws[i]]) := by show _ = _; rw [sw_one hil]
    by_cases hnum : ws[i].sort = [110, 117, 109]
    · have HD : Hid (D factor (sw ws i (i + 1)) (nd { kind := [110, 117, 109], num := ws[i].num } .nil)) := by
        show D _ _ _; rw [HSW.out]; exact .fNum ((tok_lit HOK.out).2 (.inl hnum)) hnum
      rw [hnum] at q1
      clear hnum
      go_wp2_with fail
      have h1 := h.alloc (.cells #[.string ⟨#[110, 117, 109]⟩, .string ⟨ws[i].text.toArray⟩, .int .i64 ws[i].num] 94)
      have hK01 : Keep M W _ := Keep.alloc M W (.cells #[.string ⟨#[110, 117, 109]⟩, .string ⟨ws[i].text.toArray⟩, .int .i64 ws[i].num] 94)
      obtain ⟨z0, z1, z2⟩ := cell3s (heap_alloc_new W (.cells #[.string ⟨#[110, 117, 109]⟩, .string ⟨ws[i].text.toArray⟩, .int .i64 ws[i].num] 94))
      generalize W.alloc (.cells #[.string ⟨#[110, 117, 109]⟩, .string ⟨ws[i].text.toArray⟩, .int .i64 ws[i].num] 94) = W1 at h1 hK01 z0 z1 z2 ⊢
      generalize W.heap.size = S0 at z0 z1 z2 ⊢
      refine (c_key C M N ws (i : Int) _ _ h1 (by omega) (by omega)).mono ?_
      rintro e w' ⟨rfl, rfl⟩
      go_wp2_with fail
      go_ret
      refine ⟨_, rfl, h1.alloc _, hK01.trans (Keep.alloc M _ _), .inr ⟨_, _, rfl, ?_, mk_nd0 h1.mlt h1.nlt { kind := [110, 117, 109], num := ws[i].num }, HD.out⟩⟩
      have := h1.nlt; omega
    · have hnum' : (ws[i].sort == [110, 117, 109]) = false := by simpa using hnum
      by_cases htx : ws[i].sort = [116, 101, 120, 116]
      · have HD : Hid (D factor (sw ws i (i + 1)) (nd { kind := [116, 101, 120, 116], text := ws[i].text } .nil)) := by
          show D _ _ _; rw [HSW.out]; exact .fText ((tok_lit HOK.out).2 (.inr htx)) htx
        rw [htx] at q1
        clear hnum hnum' htx
        go_wp2_with fail
        have h1 := h.alloc (.cells #[.string ⟨#[116, 101, 120, 116]⟩, .string ⟨ws[i].text.toArray⟩, .int .i64 ws[i].num] 94)
        have hK01 : Keep M W _ := Keep.alloc M W (.cells #[.string ⟨#[116, 101, 120, 116]⟩, .string ⟨ws[i].text.toArray⟩, .int .i64 ws[i].num] 94)
        obtain ⟨z0, z1, z2⟩ := cell3s (heap_alloc_new W (.cells #[.string ⟨#[116, 101, 120, 116]⟩, .string ⟨ws[i].text.toArray⟩, .int .i64 ws[i].num] 94))
        generalize W.alloc (.cells #[.string ⟨#[116, 101, 120, 116]⟩, .string ⟨ws[i].text.toArray⟩, .int .i64 ws[i].num] 94) = W1 at h1 hK01 z0 z1 z2 ⊢
        generalize W.heap.size = S0 at z0 z1 z2 ⊢
        refine (c_key C M N ws (i : Int) _ _ h1 (by omega) (by omega)).mono ?_
        rintro e w' ⟨rfl, rfl⟩
        go_wp2_with fail
        go_ret
        refine ⟨_, rfl, h1.alloc _, hK01.trans (Keep.alloc M _ _), .inr ⟨_, _, rfl, ?_, mk_nd0 h1.mlt h1.nlt { kind := [116, 101, 120, 116], text := ws[i].text }, HD.out⟩⟩
        have := h1.nlt; omega
      · have htx' : (ws[i].sort == [116, 101, 120, 116]) = false := by simpa using htx
        have HNL : Hid ((ws.map tok)[i]? ≠ some T.lit) := fun e => by
          obtain ⟨_, e1⟩ := tok_get e
          rcases (tok_lit HOK.out).1 e1 with e2 | e2
          · exact hnum e2
          · exact htx e2
        clear hnum htx
        go_wp2_with fail
        have h1 := h.alloc (.cells #[.string ⟨ws[i].sort.toArray⟩, .string ⟨ws[i].text.toArray⟩, .int .i64 ws[i].num] 94)
        have hK01 : Keep M W _ := Keep.alloc M W (.cells #[.string ⟨ws[i].sort.toArray⟩, .string ⟨ws[i].text.toArray⟩, .int .i64 ws[i].num] 94)
        obtain ⟨z0, z1, z2⟩ := cell3s (heap_alloc_new W (.cells #[.string ⟨ws[i].sort.toArray⟩, .string ⟨ws[i].text.toArray⟩, .int .i64 ws[i].num] 94))
        generalize W.alloc (.cells #[.string ⟨ws[i].sort.toArray⟩, .string ⟨ws[i].text.toArray⟩, .int .i64 ws[i].num] 94) = W1 at h1 hK01 z0 z1 z2 ⊢
        generalize W.heap.size = S0 at z0 z1 z2 ⊢
        refine (c_key C M N ws (i : Int) _ _ h1 (by omega) (by omega)).mono ?_
        rintro e w' ⟨rfl, rfl⟩
        cases knull : keyAt ws (i : Int) [110, 117, 108, 108] with
        | true =>
          have HD : Hid (D factor (sw ws i (i + 1)) (nd { kind := [110, 117, 108, 108] } .nil)) := by
            show D _ _ _; rw [HSW.out]
            obtain ⟨_, e1⟩ := tok_get ((key_at h.ok ([110, 117, 108, 108], T.null) (by decide) (by decide) i).1 knull)
            exact .fNull e1
          go_wp2_with fail
          go_ret
          refine ⟨_, rfl, h1.alloc _, hK01.trans (Keep.alloc M _ _), .inr ⟨_, _, rfl, ?_, mk_nd0 h1.mlt h1.nlt { kind := [110, 117, 108, 108] }, HD.out⟩⟩
          have := h1.nlt; omega
        | false =>
          have HLIT : Hid ((i + 1) = i + 1 → ¬ ((ws.map tok)[i]? = some T.lit ∨ (ws.map tok)[i]? = some T.null)) := fun _ e => by
            rcases e with e | e
            · exact HNL.out e
            · exact key_no h.ok ([110, 117, 108, 108], T.null) (by decide) (by decide) knull e
          clear knull
          go_wp2_with fail
          have HS0 : Hid (Texts M W1.heap.size (W1.alloc (.cells #[.string ⟨#[99, 111, 117, 110, 116]⟩, .string ⟨#[115, 117, 109]⟩, .string ⟨#[109, 105, 110]⟩, .string ⟨#[109, 97, 120]⟩] 9)) fnW) := by
            refine ⟨by have := h1.mlt; omega, fun k hk => ?_⟩
            have h3 : k < 4 := hk
            obtain ⟨c0, c1, c2, c3⟩ := cell4t (heap_alloc_new W1 (.cells #[.string ⟨#[99, 111, 117, 110, 116]⟩, .string ⟨#[115, 117, 109]⟩, .string ⟨#[109, 105, 110]⟩, .string ⟨#[109, 97, 120]⟩] 9))
            rcases k with _ | _ | _ | _ | k
            · exact c0
            · exact c1
            · exact c2
            · exact c3
            · omega
          have hC0 := h1.alloc (.cells #[.string ⟨#[99, 111, 117, 110, 116]⟩, .string ⟨#[115, 117, 109]⟩, .string ⟨#[109, 105, 110]⟩, .string ⟨#[109, 97, 120]⟩] 9)
          have hK0 : Keep M W _ := hK01.trans (Keep.alloc M W1 (.cells #[.string ⟨#[99, 111, 117, 110, 116]⟩, .string ⟨#[115, 117, 109]⟩, .string ⟨#[109, 105, 110]⟩, .string ⟨#[109, 97, 120]⟩] 9))
          generalize hSe : W1.heap.size = S at HS0 ⊢
          generalize W1.alloc (.cells #[.string ⟨#[99, 111, 117, 110, 116]⟩, .string ⟨#[115, 117, 109]⟩, .string ⟨#[109, 105, 110]⟩, .string ⟨#[109, 97, 120]⟩] 9) = w0 at HS0 hC0 hK0 ⊢
          go_loopg [12] (4 + 1) (fun gk kv wr => ∃ k : Nat, k ≤ 4 ∧ gk = 4 - k + 1 ∧ kv = .int .i64 k ∧ Cut C M N ws wr ∧ Keep M w0 wr ∧ ∀ k', k' < k → ∀ (hk : k' < fnW.length), keyAt ws (i : Int) fnW[k'] = false)
          case atStart => exact ⟨0, by omega, by omega, rfl, hC0, Keep.refl _ _, fun k' h => by omega⟩
          case round =>
            obtain ⟨k, hk, rfl, rfl, hC2, hK2, hno⟩ := hrel
            have HNO : Hid (∀ k', k' < k → ∀ (hk : k' < fnW.length), keyAt ws (i : Int) fnW[k'] = false) := hno
            clear hno
            by_cases hkl : k < 4
            · have hkl' : k < fnW.length := hkl
              have q4 := (HS0.out.keep hK2).2 k hkl'
              go_wp2_with fail
              refine (c_key C M N ws (i : Int) fnW[k] _ hC2 (by omega) (by omega)).mono ?_
              rintro e w' ⟨rfl, rfl⟩
              cases hkey : keyAt ws (i : Int) fnW[k] with
              | false =>
                go_wp2_with fail
                go_roundg (4 - (k + 1) + 1)
                case measure => omega
                case rel =>
                  refine ⟨k + 1, by omega, rfl, by exact vint (by omega), hC2, hK2, fun k' hk' hk2 => ?_⟩
                  by_cases hkk : k' = k
                  · subst hkk; exact hkey
                  · exact HNO.out k' (by omega) hk2
              | true =>
                obtain ⟨hpw, hagg, htext, hcnt⟩ := key_agg h.ok hkl' hkey
                have HTX : Hid (ws[i].text = fnW[k]) := htext
                have HCN : Hid (tok ws[i] = T.count ↔ k = 0) := hcnt
                have HAG : Hid (isAgg (tok ws[i]) = true ∧ ∀ u, isAgg u = false → (ws.map tok)[i]? ≠ some u) := ⟨hagg, fun u hu e => by
                  rw [List.getElem?_map, List.getElem?_eq_getElem hpw] at e
                  rw [← Option.some.inj e, hagg] at hu; cases hu⟩
                clear hagg htext hcnt hkey
                by_cases hk0 : k = 0
                · subst hk0
                  have hj4' : ¬ ((i : Int) + 1 = (i : Int) + 4) := by omega
                  have HNS : Hid (¬ ((ws.map tok)[i]? = some T.count ∧ (i + 1) = i + 4 ∧ (ws.map tok)[i + 1]? = some T.lp ∧ (ws.map tok)[i + 2]? = some T.star ∧ (ws.map tok)[i + 3]? = some T.rp)) := fun ⟨e0, e1, e2, e3, e4⟩ => by omega
                  go_wp2_with fail
                  refine (c_round C M N ws m hI expr (i + 1) (i + 1) _ hC2 (by omega) (by omega) hj (by omega) (by omega)).mono ?_
                  rintro e w1 ⟨v1, rfl, hC1, hK1, hF1⟩
                  rcases hF1 with ⟨rfl, hno⟩ | ⟨b, t, rfl, hb, hp, o, a, c, e2, t1, t2, hd⟩
                  · have HN : Hid (¬ G factor (st (ws.map tok) i (i + 1))) := fun hg => by
                      rcases factor_inv HL.out hg with ⟨e, _⟩ | ⟨_, e | e⟩ | ⟨e, e1⟩ | ⟨u, _, _, e⟩ | ⟨e, _⟩ | ⟨e, _⟩
                      · exact HAG.out.2 _ rfl e
                      · exact HAG.out.2 _ rfl e
                      · exact HAG.out.2 _ rfl e
                      · exact HNS.out (by first | exact ⟨e, e1⟩ | exact ⟨e, trivial, e1.2⟩)
                      · exact hno e
                      · exact HAG.out.2 _ rfl e
                      · exact HAG.out.2 _ rfl e
                    clear hno
                    go_wp2_with fail
                    go_ret
                    exact ⟨_, rfl, hC1, (hK0.trans (hK2.trans hK1)), .inl ⟨rfl, HN.out⟩⟩
                  · have HE : Hid (sw ws (i + 1) (i + 1) = o :: (a ++ [c])) := e2
                    clear e2
                    have q5 := ((HS0.out.keep hK2).keep hK1).2 0 hkl'
                    go_wp2_with fail
                    go_ret
                    refine ⟨_, rfl, (hC1.alloc _).alloc _, ((hK0.trans (hK2.trans hK1)).trans (Keep.alloc M _ _)).trans (Keep.alloc M _ _), .inr ⟨_, _, rfl, ?_, mk_nd1 hC1.mlt hC1.nlt { kind := fnW[0] } hp, ?_⟩⟩
                    · have := hC1.nlt; simp; omega
                    · rw [sw_cons ws hi hj, HE.out, ← HTX.out]
                      exact .fAgg HAG.out.1 t1 t2 hd
                · have hk0' : ¬ ((k : Int) = 0) := by omega
                  have HNS : Hid (¬ ((ws.map tok)[i]? = some T.count ∧ (i + 1) = i + 4 ∧ (ws.map tok)[i + 1]? = some T.lp ∧ (ws.map tok)[i + 2]? = some T.star ∧ (ws.map tok)[i + 3]? = some T.rp)) := fun ⟨e0, e1, e2, e3, e4⟩ => by omega
                  go_wp2_with fail
                  refine (c_round C M N ws m hI expr (i + 1) (i + 1) _ hC2 (by omega) (by omega) hj (by omega) (by omega)).mono ?_
                  rintro e w1 ⟨v1, rfl, hC1, hK1, hF1⟩
                  rcases hF1 with ⟨rfl, hno⟩ | ⟨b, t, rfl, hb, hp, o, a, c, e2, t1, t2, hd⟩
                  · have HN : Hid (¬ G factor (st (ws.map tok) i (i + 1))) := fun hg => by
                      rcases factor_inv HL.out hg with ⟨e, _⟩ | ⟨_, e | e⟩ | ⟨e, e1⟩ | ⟨u, _, _, e⟩ | ⟨e, _⟩ | ⟨e, _⟩
                      · exact HAG.out.2 _ rfl e
                      · exact HAG.out.2 _ rfl e
                      · exact HAG.out.2 _ rfl e
                      · exact HNS.out (by first | exact ⟨e, e1⟩ | exact ⟨e, trivial, e1.2⟩)
                      · exact hno e
                      · exact HAG.out.2 _ rfl e
                      · exact HAG.out.2 _ rfl e
                    clear hno
                    go_wp2_with fail
                    go_ret
                    exact ⟨_, rfl, hC1, (hK0.trans (hK2.trans hK1)), .inl ⟨rfl, HN.out⟩⟩
                  · have HE : Hid (sw ws (i + 1) (i + 1) = o :: (a ++ [c])) := e2
                    clear e2
                    have q5 := ((HS0.out.keep hK2).keep hK1).2 k hkl'
                    go_wp2_with fail
                    go_ret
                    refine ⟨_, rfl, (hC1.alloc _).alloc _, ((hK0.trans (hK2.trans hK1)).trans (Keep.alloc M _ _)).trans (Keep.alloc M _ _), .inr ⟨_, _, rfl, ?_, mk_nd1 hC1.mlt hC1.nlt { kind := fnW[k] } hp, ?_⟩⟩
                    · have := hC1.nlt; simp; omega
                    · rw [sw_cons ws hi hj, HE.out, ← HTX.out]
                      exact .fAgg HAG.out.1 t1 t2 hd
            · have HX : Hid (¬ RoundG expr (st (ws.map tok) i (i + 1)) → ¬ G column (st (ws.map tok) i (i + 1)) → ¬ G factor (st (ws.map tok) i (i + 1))) := fun hr hcl hg => by
                have hagg : ∀ u, (ws.map tok)[i]? = some u → isAgg u = true → False := fun u hu ha => by
                  obtain ⟨k', hk', e'⟩ := agg_key h.ok hu ha
                  have h6 : k' < 4 := hk'
                  rw [HNO.out k' (by omega) hk'] at e'; cases e'
                rcases factor_inv HL.out hg with ⟨e, _⟩ | ⟨e1, e⟩ | ⟨e, e1⟩ | ⟨u, e1, e2, _⟩ | ⟨_, e⟩ | ⟨_, e⟩
                · exact HMIN.out e
                · exact HLIT.out (by first | exact e1 | trivial) e
                · exact hagg _ e rfl
                · exact hagg _ e1 e2
                · exact hr e
                · exact hcl e
              go_wp2_with fail
              refine (c_round C M N ws m hI expr i (i + 1) _ hC2 (by omega) (by omega) hj (by omega) (by omega)).mono ?_
              rintro e w1 ⟨v1, rfl, hC1, hK1, hF1⟩
              rcases hF1 with ⟨rfl, hno⟩ | ⟨b, t, rfl, hb, hp, o, a, c, e2, t1, t2, hd⟩
              · have HR : Hid (¬ RoundG expr (st (ws.map tok) i (i + 1))) := hno
                clear hno
                go_wp2_with fail
                refine (hI column i ((i + 1 : Nat) : Int) _ hC1 (by omega) (by omega) (by omega) (by simp [rk]; omega)).mono ?_
                rintro e w3 ⟨v3, rfl, hC3, hK3, hF3⟩
                rw [Int.toNat_natCast] at hF3
                go_wp2_with fail
                go_ret
                refine ⟨_, rfl, hC3, (hK0.trans (hK2.trans hK1)).trans hK3, ?_⟩
                rcases hF3 with ⟨e, hn3⟩ | ⟨b3, t3, e, hb3, hp3, hd3⟩
                · exact .inl ⟨e, HX.out HR.out hn3⟩
                · exact .inr ⟨b3, t3, e, hb3, hp3, .fCol hd3⟩
              · have HD : Hid (D factor (sw ws i (i + 1)) t) := by show D _ _ _; rw [e2]; exact .fRound t1 t2 hd
                clear e2
                go_wp2_with fail
                go_ret
                exact ⟨_, rfl, hC1, hK0.trans (hK2.trans hK1), .inr ⟨b, t, rfl, hb, hp, HD.out⟩⟩
end Gr
end Go.Proofs.YtfkdfplnhlnnoaaGreatDoor
end
section
namespace Go.Proofs.YtfkdfplnhlnnoaaGreatDoor
open Go.RowKit
namespace Gr
set_option linter.unusedSimpArgs false
set_option linter.unusedVariables false
open NT
set_option maxRecDepth 10000 in
set_option maxHeartbeats 8000000 in
theorem c_factor2 (C M N : Nat) (ws : List RW) (m : Nat) (hI : Is C M N ws m) (i j : Nat) (W : World) (h : Cut C M N ws W) (hi : i < j) (hj : j ≤ ws.length) (hm : (j - i) * 20 < m) (hje : ¬ j = i + 1) (hj4 : ¬ j = i + 4) :
    Calls Tryz.prog 90 #[.pointer (some ⟨C, 0, none⟩), .int .i64 i, .int .i64 j] W (Post C M N ws W (¬ G factor (st (ws.map tok) i j)) (D factor (sw ws i j))) := by
  have hlen := h.len
  have HL : Hid (j ≤ (ws.map tok).length) := by show j ≤ _; simpa using hj
  go_enter Tryz.func90, Tryz.ntmps90
  go_wp2_with fail
  refine (c_sign C M N ws (i : Int) _ _ h (by omega) (by omega)).mono ?_
  rintro e w' ⟨rfl, rfl⟩
  cases hmi : signAt ws (i : Int) [45] with
  | true =>
    have HY := (sign_at h.ok ([45], T.minus) (by decide) (by decide) i).1 hmi
    clear hmi
    go_wp2_with fail
    refine (hI factor (i + 1) j _ h (by omega) (by omega) (by omega) (by simp [rk]; omega)).mono ?_
    rintro e w3 ⟨v3, rfl, hC3, hK3, hF3⟩
    rw [Int.toNat_natCast] at hF3
    rcases hF3 with ⟨rfl, hn3⟩ | ⟨b3, t3, rfl, hb3, hp3, hd3⟩
    · have HN : Hid (¬ G factor (st (ws.map tok) i j)) := fun hg => by
        rcases factor_inv HL.out hg with ⟨_, e⟩ | ⟨_, e | e⟩ | ⟨e, e1⟩ | ⟨u, e1, e2, _⟩ | ⟨e, _⟩ | ⟨e, _⟩
        · exact hn3 e
        · exact tok_ne HY (by decide) e
        · exact tok_ne HY (by decide) e
        · exact tok_ne HY (by decide) e
        · rw [HY] at e1; cases Option.some.inj e1; cases e2
        · exact tok_ne HY (by decide) e
        · exact tok_ne HY (by decide) e
      clear hn3
      go_wp2_with fail
      go_ret
      exact ⟨_, rfl, hC3, hK3, .inl ⟨rfl, HN.out⟩⟩
    · go_wp2_with fail
      go_ret
      refine ⟨_, rfl, (hC3.alloc _).alloc _, (hK3.trans (Keep.alloc M _ _)).trans (Keep.alloc M _ _), .inr ⟨_, _, rfl, ?_, mk_nd1 hC3.mlt hC3.nlt { kind := [110, 101, 103] } hp3, ?_⟩⟩
      · have := hC3.nlt; simp; omega
      · obtain ⟨_, t0⟩ := tok_get HY
        rw [sw_cons ws hi hj]
        exact .fNeg t0 hd3
  | false =>
    have HMIN : Hid ((ws.map tok)[i]? ≠ some T.minus) := sign_no h.ok ([45], T.minus) (by decide) (by decide) hmi
    clear hmi
    have hj4' : ¬ ((j : Int) = (i : Int) + 4) := by omega
    have hj42 : ((j : Int) == (i : Int) + 4) = false := by simpa using hj4'
    have hje2 : ((j : Int) == (i : Int) + 1) = false := by simp; omega
    have hje' : ¬ ((j : Int) = (i : Int) + 1) := by omega
    have HLIT : Hid (j = i + 1 → ¬ ((ws.map tok)[i]? = some T.lit ∨ (ws.map tok)[i]? = some T.null)) := fun e => absurd e hje
    go_wp2_with fail
    have HS0 : Hid (Texts M W.heap.size (W.alloc (.cells #[.string ⟨#[99, 111, 117, 110, 116]⟩, .string ⟨#[115, 117, 109]⟩, .string ⟨#[109, 105, 110]⟩, .string ⟨#[109, 97, 120]⟩] 9)) fnW) := by
      refine ⟨by have := h.mlt; omega, fun k hk => ?_⟩
      have h3 : k < 4 := hk
      obtain ⟨c0, c1, c2, c3⟩ := cell4t (heap_alloc_new W (.cells #[.string ⟨#[99, 111, 117, 110, 116]⟩, .string ⟨#[115, 117, 109]⟩, .string ⟨#[109, 105, 110]⟩, .string ⟨#[109, 97, 120]⟩] 9))
      rcases k with _ | _ | _ | _ | k
      · exact c0
      · exact c1
      · exact c2
      · exact c3
      · omega
    have hC0 := h.alloc (.cells #[.string ⟨#[99, 111, 117, 110, 116]⟩, .string ⟨#[115, 117, 109]⟩, .string ⟨#[109, 105, 110]⟩, .string ⟨#[109, 97, 120]⟩] 9)
    have hK0 : Keep M W _ := (Keep.alloc M W (.cells #[.string ⟨#[99, 111, 117, 110, 116]⟩, .string ⟨#[115, 117, 109]⟩, .string ⟨#[109, 105, 110]⟩, .string ⟨#[109, 97, 120]⟩] 9))
    generalize hSe : W.heap.size = S at HS0 ⊢
    generalize W.alloc (.cells #[.string ⟨#[99, 111, 117, 110, 116]⟩, .string ⟨#[115, 117, 109]⟩, .string ⟨#[109, 105, 110]⟩, .string ⟨#[109, 97, 120]⟩] 9) = w0 at HS0 hC0 hK0 ⊢
    go_loopg [12] (4 + 1) (fun gk kv wr => ∃ k : Nat, k ≤ 4 ∧ gk = 4 - k + 1 ∧ kv = .int .i64 k ∧ Cut C M N ws wr ∧ Keep M w0 wr ∧ ∀ k', k' < k → ∀ (hk : k' < fnW.length), keyAt ws (i : Int) fnW[k'] = false)
    case atStart => exact ⟨0, by omega, by omega, rfl, hC0, Keep.refl _ _, fun k' h => by omega⟩
    case round =>
      obtain ⟨k, hk, rfl, rfl, hC2, hK2, hno⟩ := hrel
      have HNO : Hid (∀ k', k' < k → ∀ (hk : k' < fnW.length), keyAt ws (i : Int) fnW[k'] = false) := hno
      clear hno
      by_cases hkl : k < 4
      · have hkl' : k < fnW.length := hkl
        have q4 := (HS0.out.keep hK2).2 k hkl'
        go_wp2_with fail
        refine (c_key C M N ws (i : Int) fnW[k] _ hC2 (by omega) (by omega)).mono ?_
        rintro e w' ⟨rfl, rfl⟩
        cases hkey : keyAt ws (i : Int) fnW[k] with
        | false =>
          go_wp2_with fail
          go_roundg (4 - (k + 1) + 1)
          case measure => omega
          case rel =>
            refine ⟨k + 1, by omega, rfl, by exact vint (by omega), hC2, hK2, fun k' hk' hk2 => ?_⟩
            by_cases hkk : k' = k
            · subst hkk; exact hkey
            · exact HNO.out k' (by omega) hk2
        | true =>
          obtain ⟨hpw, hagg, htext, hcnt⟩ := key_agg h.ok hkl' hkey
          have HTX : Hid (ws[i].text = fnW[k]) := htext
          have HCN : Hid (tok ws[i] = T.count ↔ k = 0) := hcnt
          have HAG : Hid (isAgg (tok ws[i]) = true ∧ ∀ u, isAgg u = false → (ws.map tok)[i]? ≠ some u) := ⟨hagg, fun u hu e => by
            rw [List.getElem?_map, List.getElem?_eq_getElem hpw] at e
            rw [← Option.some.inj e, hagg] at hu; cases hu⟩
          clear hagg htext hcnt hkey
          by_cases hk0 : k = 0
          · subst hk0
            have HNS : Hid (¬ ((ws.map tok)[i]? = some T.count ∧ j = i + 4 ∧ (ws.map tok)[i + 1]? = some T.lp ∧ (ws.map tok)[i + 2]? = some T.star ∧ (ws.map tok)[i + 3]? = some T.rp)) := fun ⟨e0, e1, e2, e3, e4⟩ => hj4 e1
            go_wp2_with fail
            refine (c_round C M N ws m hI expr (i + 1) j _ hC2 (by omega) (by omega) hj (by omega) (by omega)).mono ?_
            rintro e w1 ⟨v1, rfl, hC1, hK1, hF1⟩
            rcases hF1 with ⟨rfl, hno⟩ | ⟨b, t, rfl, hb, hp, o, a, c, e2, t1, t2, hd⟩
            · have HN : Hid (¬ G factor (st (ws.map tok) i j)) := fun hg => by
                rcases factor_inv HL.out hg with ⟨e, _⟩ | ⟨_, e | e⟩ | ⟨e, e1⟩ | ⟨u, _, _, e⟩ | ⟨e, _⟩ | ⟨e, _⟩
                · exact HAG.out.2 _ rfl e
                · exact HAG.out.2 _ rfl e
                · exact HAG.out.2 _ rfl e
                · exact HNS.out (by first | exact ⟨e, e1⟩ | exact ⟨e, trivial, e1.2⟩)
                · exact hno e
                · exact HAG.out.2 _ rfl e
                · exact HAG.out.2 _ rfl e
              clear hno
              go_wp2_with fail
              go_ret
              exact ⟨_, rfl, hC1, (hK0.trans (hK2.trans hK1)), .inl ⟨rfl, HN.out⟩⟩
            · have HE : Hid (sw ws (i + 1) j = o :: (a ++ [c])) := e2
              clear e2
              have q5 := ((HS0.out.keep hK2).keep hK1).2 0 hkl'
              go_wp2_with fail
              go_ret
              refine ⟨_, rfl, (hC1.alloc _).alloc _, ((hK0.trans (hK2.trans hK1)).trans (Keep.alloc M _ _)).trans (Keep.alloc M _ _), .inr ⟨_, _, rfl, ?_, mk_nd1 hC1.mlt hC1.nlt { kind := fnW[0] } hp, ?_⟩⟩
              · have := hC1.nlt; simp; omega
              · rw [sw_cons ws hi hj, HE.out, ← HTX.out]
                exact .fAgg HAG.out.1 t1 t2 hd
          · have hk0' : ¬ ((k : Int) = 0) := by omega
            have HNS : Hid (¬ ((ws.map tok)[i]? = some T.count ∧ j = i + 4 ∧ (ws.map tok)[i + 1]? = some T.lp ∧ (ws.map tok)[i + 2]? = some T.star ∧ (ws.map tok)[i + 3]? = some T.rp)) := fun ⟨e0, e1, e2, e3, e4⟩ => hj4 e1
            go_wp2_with fail
            refine (c_round C M N ws m hI expr (i + 1) j _ hC2 (by omega) (by omega) hj (by omega) (by omega)).mono ?_
            rintro e w1 ⟨v1, rfl, hC1, hK1, hF1⟩
            rcases hF1 with ⟨rfl, hno⟩ | ⟨b, t, rfl, hb, hp, o, a, c, e2, t1, t2, hd⟩
            · have HN : Hid (¬ G factor (st (ws.map tok) i j)) := fun hg => by
                rcases factor_inv HL.out hg with ⟨e, _⟩ | ⟨_, e | e⟩ | ⟨e, e1⟩ | ⟨u, _, _, e⟩ | ⟨e, _⟩ | ⟨e, _⟩
                · exact HAG.out.2 _ rfl e
                · exact HAG.out.2 _ rfl e
                · exact HAG.out.2 _ rfl e
                · exact HNS.out (by first | exact ⟨e, e1⟩ | exact ⟨e, trivial, e1.2⟩)
                · exact hno e
                · exact HAG.out.2 _ rfl e
                · exact HAG.out.2 _ rfl e
              clear hno
              go_wp2_with fail
              go_ret
              exact ⟨_, rfl, hC1, (hK0.trans (hK2.trans hK1)), .inl ⟨rfl, HN.out⟩⟩
            · have HE : Hid (sw ws (i + 1) j = o :: (a ++ [c])) := e2
              clear e2
              have q5 := ((HS0.out.keep hK2).keep hK1).2 k hkl'
              go_wp2_with fail
              go_ret
              refine ⟨_, rfl, (hC1.alloc _).alloc _, ((hK0.trans (hK2.trans hK1)).trans (Keep.alloc M _ _)).trans (Keep.alloc M _ _), .inr ⟨_, _, rfl, ?_, mk_nd1 hC1.mlt hC1.nlt { kind := fnW[k] } hp, ?_⟩⟩
              · have := hC1.nlt; simp; omega
              · rw [sw_cons ws hi hj, HE.out, ← HTX.out]
                exact .fAgg HAG.out.1 t1 t2 hd
      · have HX : Hid (¬ RoundG expr (st (ws.map tok) i j) → ¬ G column (st (ws.map tok) i j) → ¬ G factor (st (ws.map tok) i j)) := fun hr hcl hg => by
          have hagg : ∀ u, (ws.map tok)[i]? = some u → isAgg u = true → False := fun u hu ha => by
            obtain ⟨k', hk', e'⟩ := agg_key h.ok hu ha
            have h6 : k' < 4 := hk'
            rw [HNO.out k' (by omega) hk'] at e'; cases e'
          rcases factor_inv HL.out hg with ⟨e, _⟩ | ⟨e1, e⟩ | ⟨e, e1⟩ | ⟨u, e1, e2, _⟩ | ⟨_, e⟩ | ⟨_, e⟩
          · exact HMIN.out e
          · exact HLIT.out (by first | exact e1 | trivial) e
          · exact hagg _ e rfl
          · exact hagg _ e1 e2
          · exact hr e
          · exact hcl e
        go_wp2_with fail
        refine (c_round C M N ws m hI expr i j _ hC2 (by omega) (by omega) hj (by omega) (by omega)).mono ?_
        rintro e w1 ⟨v1, rfl, hC1, hK1, hF1⟩
        rcases hF1 with ⟨rfl, hno⟩ | ⟨b, t, rfl, hb, hp, o, a, c, e2, t1, t2, hd⟩
        · have HR : Hid (¬ RoundG expr (st (ws.map tok) i j)) := hno
          clear hno
          go_wp2_with fail
          refine (hI column i j _ hC1 (by omega) (by omega) (by omega) (by simp [rk]; omega)).mono ?_
          rintro e w3 ⟨v3, rfl, hC3, hK3, hF3⟩
          rw [Int.toNat_natCast] at hF3
          go_wp2_with fail
          go_ret
          refine ⟨_, rfl, hC3, (hK0.trans (hK2.trans hK1)).trans hK3, ?_⟩
          rcases hF3 with ⟨e, hn3⟩ | ⟨b3, t3, e, hb3, hp3, hd3⟩
          · exact .inl ⟨e, HX.out HR.out hn3⟩
          · exact .inr ⟨b3, t3, e, hb3, hp3, .fCol hd3⟩
        · have HD : Hid (D factor (sw ws i j) t) := by show D _ _ _; rw [e2]; exact .fRound t1 t2 hd
          clear e2
          go_wp2_with fail
          go_ret
          exact ⟨_, rfl, hC1, hK0.trans (hK2.trans hK1), .inr ⟨b, t, rfl, hb, hp, HD.out⟩⟩
end Gr
end Go.Proofs.YtfkdfplnhlnnoaaGreatDoor
end
