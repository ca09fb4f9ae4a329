import Derived.Test.YtfkdfplnhlnnoaaGreatDoorBgJa41
section
namespace Go.Proofs.YtfkdfplnhlnnoaaGreatDoor
open Go.RowKit
namespace Gr
set_option linter.unusedSimpArgs false
set_option linter.unusedVariables false
open NT
set_option maxRecDepth 10000 in
set_option maxHeartbeats 8000000 in
theorem c_factor4 (C M N : Nat) (ws : List RW) (m : Nat) (hI : Is C M N ws m) (i : Nat) (W : World) (h : Cut C M N ws W) (hi : i < (i + 4)) (hj : (i + 4) ≤ ws.length) (hm : ((i + 4) - i) * 20 < m) :
    Calls Tryz.prog 90 #[.pointer (some ⟨C, 0, none⟩), .int .i64 i, .int .i64 ((i + 4 : Nat) : Int)] W (Post C M N ws W (¬ G factor (st (ws.map tok) i (i + 4))) (D factor (sw ws i (i + 4)))) := by
  have hlen := h.len
  have HL : Hid ((i + 4) ≤ (ws.map tok).length) := by show (i + 4) ≤ _; simpa using hj
  go_enter Tryz.func90, Tryz.ntmps90
  go_wp2_with fail
  refine (c_sign C M N ws (i : Int) _ _ h (by omega) (by omega)).mono ?_
  rintro e w' ⟨rfl, rfl⟩
  cases hmi : signAt ws (i : Int) [45] with
  | true =>
    have HY := (sign_at h.ok ([45], T.minus) (by decide) (by decide) i).1 hmi
    clear hmi
    go_wp2_with fail
    refine (hI factor (i + 1) ((i + 4 : Nat) : Int) _ h (by omega) (by omega) (by omega) (by simp [rk]; omega)).mono ?_
    rintro e w3 ⟨v3, rfl, hC3, hK3, hF3⟩
    rw [Int.toNat_natCast] at hF3
    rcases hF3 with ⟨rfl, hn3⟩ | ⟨b3, t3, rfl, hb3, hp3, hd3⟩
    · have HN : Hid (¬ G factor (st (ws.map tok) i (i + 4))) := fun hg => by
        rcases factor_inv HL.out hg with ⟨_, e⟩ | ⟨_, e | e⟩ | ⟨e, e1⟩ | ⟨u, e1, e2, _⟩ | ⟨e, _⟩ | ⟨e, _⟩
        · exact hn3 e
        · exact tok_ne HY (by decide) e
        · exact tok_ne HY (by decide) e
        · exact tok_ne HY (by decide) e
        · rw [HY] at e1; cases Option.some.inj e1; cases e2
        · exact tok_ne HY (by decide) e
        · exact tok_ne HY (by decide) e
      clear hn3
      go_wp2_with fail
      go_ret
      exact ⟨_, rfl, hC3, hK3, .inl ⟨rfl, HN.out⟩⟩
    · go_wp2_with fail
      go_ret
      refine ⟨_, rfl, (hC3.alloc _).alloc _, (hK3.trans (Keep.alloc M _ _)).trans (Keep.alloc M _ _), .inr ⟨_, _, rfl, ?_, mk_nd1 hC3.mlt hC3.nlt { kind := [110, 101, 103] } hp3, ?_⟩⟩
      · have := hC3.nlt; simp; omega
      · obtain ⟨_, t0⟩ := tok_get HY
        rw [sw_cons ws hi hj]
        exact .fNeg t0 hd3
  | false =>
    have HMIN : Hid ((ws.map tok)[i]? ≠ some T.minus) := sign_no h.ok ([45], T.minus) (by decide) (by decide) hmi
    clear hmi
    have hje2 : ((i : Int) + 4 == (i : Int) + 1) = false := by rw [beq_eq_false_iff_ne]; omega
    have HLIT : Hid ((i + 4) = i + 1 → ¬ ((ws.map tok)[i]? = some T.lit ∨ (ws.map tok)[i]? = some T.null)) := fun e => by omega
    go_wp2_with fail
    have HS0 : Hid (Texts M W.heap.size (W.alloc (.cells #[.string ⟨#[99, 111, 117, 110, 116]⟩, .string ⟨#[115, 117, 109]⟩, .string ⟨#[109, 105, 110]⟩, .string ⟨#[109, 97, 120]⟩] 9)) fnW) := by
      refine ⟨by have := h.mlt; omega, fun k hk => ?_⟩
      have h3 : k < 4 := hk
      obtain ⟨c0, c1, c2, c3⟩ := cell4t (heap_alloc_new W (.cells #[.string ⟨#[99, 111, 117, 110, 116]⟩, .string ⟨#[115, 117, 109]⟩, .string ⟨#[109, 105, 110]⟩, .string ⟨#[109, 97, 120]⟩] 9))
      rcases k with _ | _ | _ | _ | k
      · exact c0
      · exact c1
      · exact c2
      · exact c3
      · omega
    have hC0 := h.alloc (.cells #[.string ⟨#[99, 111, 117, 110, 116]⟩, .string ⟨#[115, 117, 109]⟩, .string ⟨#[109, 105, 110]⟩, .string ⟨#[109, 97, 120]⟩] 9)
    have hK0 : Keep M W _ := (Keep.alloc M W (.cells #[.string ⟨#[99, 111, 117, 110, 116]⟩, .string ⟨#[115, 117, 109]⟩, .string ⟨#[109, 105, 110]⟩, .string ⟨#[109, 97, 120]⟩] 9))
    generalize hSe : W.heap.size = S at HS0 ⊢
    generalize W.alloc (.cells #[.string ⟨#[99, 111, 117, 110, 116]⟩, .string ⟨#[115, 117, 109]⟩, .string ⟨#[109, 105, 110]⟩, .string ⟨#[109, 97, 120]⟩] 9) = w0 at HS0 hC0 hK0 ⊢
    go_loopg [12] (4 + 1) (fun gk kv wr => ∃ k : Nat, k ≤ 4 ∧ gk = 4 - k + 1 ∧ kv = .int .i64 k ∧ Cut C M N ws wr ∧ Keep M w0 wr ∧ ∀ k', k' < k → ∀ (hk : k' < fnW.length), keyAt ws (i : Int) fnW[k'] = false)
    case atStart => exact ⟨0, by omega, by omega, rfl, hC0, Keep.refl _ _, fun k' h => by omega⟩
    case round =>
      obtain ⟨k, hk, rfl, rfl, hC2, hK2, hno⟩ := hrel
      have HNO : Hid (∀ k', k' < k → ∀ (hk : k' < fnW.length), keyAt ws (i : Int) fnW[k'] = false) := hno
      clear hno
      by_cases hkl : k < 4
      · have hkl' : k < fnW.length := hkl
        have q4 := (HS0.out.keep hK2).2 k hkl'
        go_wp2_with fail
        refine (c_key C M N ws (i : Int) fnW[k] _ hC2 (by omega) (by omega)).mono ?_
        rintro e w' ⟨rfl, rfl⟩
        cases hkey : keyAt ws (i : Int) fnW[k] with
        | false =>
          go_wp2_with fail
          go_roundg (4 - (k + 1) + 1)
          case measure => omega
          case rel =>
            refine ⟨k + 1, by omega, rfl, by exact vint (by omega), hC2, hK2, fun k' hk' hk2 => ?_⟩
            by_cases hkk : k' = k
            · subst hkk; exact hkey
            · exact HNO.out k' (by omega) hk2
        | true =>
          obtain ⟨hpw, hagg, htext, hcnt⟩ := key_agg h.ok hkl' hkey
          have HTX : Hid (ws[i].text = fnW[k]) := htext
          have HCN : Hid (tok ws[i] = T.count ↔ k = 0) := hcnt
          have HAG : Hid (isAgg (tok ws[i]) = true ∧ ∀ u, isAgg u = false → (ws.map tok)[i]? ≠ some u) := ⟨hagg, fun u hu e => by
            rw [List.getElem?_map, List.getElem?_eq_getElem hpw] at e
            rw [← Option.some.inj e, hagg] at hu; cases hu⟩
          clear hagg htext hcnt hkey
          by_cases hk0 : k = 0
          · subst hk0
            go_wp2_with fail
            refine (c_sign C M N ws ((i + 1 : Nat) : Int) _ _ hC2 (by omega) (by omega)).mono ?_
            rintro e w' ⟨rfl, rfl⟩
            cases ks1 : signAt ws ((i + 1 : Nat) : Int) [40] with
            | false =>
              have HNS : Hid (¬ ((ws.map tok)[i]? = some T.count ∧ (i + 4) = i + 4 ∧ (ws.map tok)[i + 1]? = some T.lp ∧ (ws.map tok)[i + 2]? = some T.star ∧ (ws.map tok)[i + 3]? = some T.rp)) := fun ⟨e0, e1, e2, e3, e4⟩ => sign_no h.ok ([40], T.lp) (by decide) (by decide) ks1 e2
              go_wp2_with fail
              refine (c_round C M N ws m hI expr (i + 1) (i + 4) _ hC2 (by omega) (by omega) hj (by omega) (by omega)).mono ?_
              rintro e w1 ⟨v1, rfl, hC1, hK1, hF1⟩
              rcases hF1 with ⟨rfl, hno⟩ | ⟨b, t, rfl, hb, hp, o, a, c, e2, t1, t2, hd⟩
              · have HN : Hid (¬ G factor (st (ws.map tok) i (i + 4))) := fun hg => by
                  rcases factor_inv HL.out hg with ⟨e, _⟩ | ⟨_, e | e⟩ | ⟨e, e1⟩ | ⟨u, _, _, e⟩ | ⟨e, _⟩ | ⟨e, _⟩
                  · exact HAG.out.2 _ rfl e
                  · exact HAG.out.2 _ rfl e
                  · exact HAG.out.2 _ rfl e
                  · exact HNS.out (by first | exact ⟨e, e1⟩ | exact ⟨e, trivial, e1.2⟩)
                  · exact hno e
                  · exact HAG.out.2 _ rfl e
                  · exact HAG.out.2 _ rfl e
                clear hno
                go_wp2_with fail
                go_ret
                exact ⟨_, rfl, hC1, (hK0.trans (hK2.trans hK1)), .inl ⟨rfl, HN.out⟩⟩
              · have HE : Hid (sw ws (i + 1) (i + 4) = o :: (a ++ [c])) := e2
                clear e2
                have q5 := ((HS0.out.keep hK2).keep hK1).2 0 hkl'
                go_wp2_with fail
                go_ret
                refine ⟨_, rfl, (hC1.alloc _).alloc _, ((hK0.trans (hK2.trans hK1)).trans (Keep.alloc M _ _)).trans (Keep.alloc M _ _), .inr ⟨_, _, rfl, ?_, mk_nd1 hC1.mlt hC1.nlt { kind := fnW[0] } hp, ?_⟩⟩
                · have := hC1.nlt; simp; omega
                · rw [sw_cons ws hi hj, HE.out, ← HTX.out]
                  exact .fAgg HAG.out.1 t1 t2 hd
            | true =>
              go_wp2_with fail
              refine (c_sign C M N ws ((i + 2 : Nat) : Int) _ _ hC2 (by omega) (by omega)).mono ?_
              rintro e w' ⟨rfl, rfl⟩
              cases ks2 : signAt ws ((i + 2 : Nat) : Int) [42] with
              | false =>
                have HNS : Hid (¬ ((ws.map tok)[i]? = some T.count ∧ (i + 4) = i + 4 ∧ (ws.map tok)[i + 1]? = some T.lp ∧ (ws.map tok)[i + 2]? = some T.star ∧ (ws.map tok)[i + 3]? = some T.rp)) := fun ⟨e0, e1, e2, e3, e4⟩ => sign_no h.ok ([42], T.star) (by decide) (by decide) ks2 e3
                go_wp2_with fail
                refine (c_round C M N ws m hI expr (i + 1) (i + 4) _ hC2 (by omega) (by omega) hj (by omega) (by omega)).mono ?_
                rintro e w1 ⟨v1, rfl, hC1, hK1, hF1⟩
                rcases hF1 with ⟨rfl, hno⟩ | ⟨b, t, rfl, hb, hp, o, a, c, e2, t1, t2, hd⟩
                · have HN : Hid (¬ G factor (st (ws.map tok) i (i + 4))) := fun hg => by
                    rcases factor_inv HL.out hg with ⟨e, _⟩ | ⟨_, e | e⟩ | ⟨e, e1⟩ | ⟨u, _, _, e⟩ | ⟨e, _⟩ | ⟨e, _⟩
                    · exact HAG.out.2 _ rfl e
                    · exact HAG.out.2 _ rfl e
                    · exact HAG.out.2 _ rfl e
                    · exact HNS.out (by first | exact ⟨e, e1⟩ | exact ⟨e, trivial, e1.2⟩)
                    · exact hno e
                    · exact HAG.out.2 _ rfl e
                    · exact HAG.out.2 _ rfl e
                  clear hno
                  go_wp2_with fail
                  go_ret
                  exact ⟨_, rfl, hC1, (hK0.trans (hK2.trans hK1)), .inl ⟨rfl, HN.out⟩⟩
                · have HE : Hid (sw ws (i + 1) (i + 4) = o :: (a ++ [c])) := e2
                  clear e2
                  have q5 := ((HS0.out.keep hK2).keep hK1).2 0 hkl'
                  go_wp2_with fail
                  go_ret
                  refine ⟨_, rfl, (hC1.alloc _).alloc _, ((hK0.trans (hK2.trans hK1)).trans (Keep.alloc M _ _)).trans (Keep.alloc M _ _), .inr ⟨_, _, rfl, ?_, mk_nd1 hC1.mlt hC1.nlt { kind := fnW[0] } hp, ?_⟩⟩
                  · have := hC1.nlt; simp; omega
                  · rw [sw_cons ws hi hj, HE.out, ← HTX.out]
                    exact .fAgg HAG.out.1 t1 t2 hd
              | true =>
                go_wp2_with fail
                refine (c_sign C M N ws ((i + 3 : Nat) : Int) _ _ hC2 (by omega) (by omega)).mono ?_
                rintro e w' ⟨rfl, rfl⟩
                cases ks3 : signAt ws ((i + 3 : Nat) : Int) [41] with
                | false =>
                  have HNS : Hid (¬ ((ws.map tok)[i]? = some T.count ∧ (i + 4) = i + 4 ∧ (ws.map tok)[i + 1]? = some T.lp ∧ (ws.map tok)[i + 2]? = some T.star ∧ (ws.map tok)[i + 3]? = some T.rp)) := fun ⟨e0, e1, e2, e3, e4⟩ => sign_no h.ok ([41], T.rp) (by decide) (by decide) ks3 e4
                  go_wp2_with fail
                  refine (c_round C M N ws m hI expr (i + 1) (i + 4) _ hC2 (by omega) (by omega) hj (by omega) (by omega)).mono ?_
                  rintro e w1 ⟨v1, rfl, hC1, hK1, hF1⟩
                  rcases hF1 with ⟨rfl, hno⟩ | ⟨b, t, rfl, hb, hp, o, a, c, e2, t1, t2, hd⟩
                  · have HN : Hid (¬ G factor (st (ws.map tok) i (i + 4))) := fun hg => by
                      rcases factor_inv HL.out hg with ⟨e, _⟩ | ⟨_, e | e⟩ | ⟨e, e1⟩ | ⟨u, _, _, e⟩ | ⟨e, _⟩ | ⟨e, _⟩
                      · exact HAG.out.2 _ rfl e
                      · exact HAG.out.2 _ rfl e
                      · exact HAG.out.2 _ rfl e
                      · exact HNS.out (by first | exact ⟨e, e1⟩ | exact ⟨e, trivial, e1.2⟩)
                      · exact hno e
                      · exact HAG.out.2 _ rfl e
                      · exact HAG.out.2 _ rfl e
                    clear hno
                    go_wp2_with fail
                    go_ret
                    exact ⟨_, rfl, hC1, (hK0.trans (hK2.trans hK1)), .inl ⟨rfl, HN.out⟩⟩
                  · have HE : Hid (sw ws (i + 1) (i + 4) = o :: (a ++ [c])) := e2
                    clear e2
                    have q5 := ((HS0.out.keep hK2).keep hK1).2 0 hkl'
                    go_wp2_with fail
                    go_ret
                    refine ⟨_, rfl, (hC1.alloc _).alloc _, ((hK0.trans (hK2.trans hK1)).trans (Keep.alloc M _ _)).trans (Keep.alloc M _ _), .inr ⟨_, _, rfl, ?_, mk_nd1 hC1.mlt hC1.nlt { kind := fnW[0] } hp, ?_⟩⟩
                    · have := hC1.nlt; simp; omega
                    · rw [sw_cons ws hi hj, HE.out, ← HTX.out]
                      exact .fAgg HAG.out.1 t1 t2 hd
                | true =>
                  obtain ⟨hl1, t1⟩ := tok_get ((sign_at h.ok ([40], T.lp) (by decide) (by decide) (i + 1)).1 ks1)
                  obtain ⟨hl2, t2⟩ := tok_get ((sign_at h.ok ([42], T.star) (by decide) (by decide) (i + 2)).1 ks2)
                  obtain ⟨hl3, t3⟩ := tok_get ((sign_at h.ok ([41], T.rp) (by decide) (by decide) (i + 3)).1 ks3)
                  have HD : Hid (D factor (sw ws i (i + 4)) (nd { kind := [99, 111, 117, 110, 116], star := true } .nil)) := by
                    show D _ _ _
                    rw [sw_four (by omega)]
                    exact .fStar (HCN.out.2 (by first | rfl | trivial)) t1 t2 t3
                  clear t1 t2 t3
                  go_wp2_with fail
                  go_ret
                  refine ⟨_, rfl, hC2.alloc _, (hK0.trans hK2).trans (Keep.alloc M _ _), .inr ⟨_, _, rfl, ?_, mk_nd0 hC2.mlt hC2.nlt { kind := [99, 111, 117, 110, 116], star := true }, HD.out⟩⟩
                  have := hC2.nlt; omega
          · have hk0' : ¬ ((k : Int) = 0) := by omega
            have HNS : Hid (¬ ((ws.map tok)[i]? = some T.count ∧ (i + 4) = i + 4 ∧ (ws.map tok)[i + 1]? = some T.lp ∧ (ws.map tok)[i + 2]? = some T.star ∧ (ws.map tok)[i + 3]? = some T.rp)) := fun ⟨e0, e1, e2, e3, e4⟩ => hk0 (HCN.out.1 (by obtain ⟨_, e⟩ := tok_get e0; exact e))
            go_wp2_with fail
            refine (c_round C M N ws m hI expr (i + 1) (i + 4) _ hC2 (by omega) (by omega) hj (by omega) (by omega)).mono ?_
            rintro e w1 ⟨v1, rfl, hC1, hK1, hF1⟩
            rcases hF1 with ⟨rfl, hno⟩ | ⟨b, t, rfl, hb, hp, o, a, c, e2, t1, t2, hd⟩
            · have HN : Hid (¬ G factor (st (ws.map tok) i (i + 4))) := fun hg => by
                rcases factor_inv HL.out hg with ⟨e, _⟩ | ⟨_, e | e⟩ | ⟨e, e1⟩ | ⟨u, _, _, e⟩ | ⟨e, _⟩ | ⟨e, _⟩
                · exact HAG.out.2 _ rfl e
                · exact HAG.out.2 _ rfl e
                · exact HAG.out.2 _ rfl e
                · exact HNS.out (by first | exact ⟨e, e1⟩ | exact ⟨e, trivial, e1.2⟩)
                · exact hno e
                · exact HAG.out.2 _ rfl e
                · exact HAG.out.2 _ rfl e
              clear hno
              go_wp2_with fail
              go_ret
              exact ⟨_, rfl, hC1, (hK0.trans (hK2.trans hK1)), .inl ⟨rfl, HN.out⟩⟩
            · have HE : Hid (sw ws (i + 1) (i + 4) = o :: (a ++ [c])) := e2
              clear e2
              have q5 := ((HS0.out.keep hK2).keep hK1).2 k hkl'
              go_wp2_with fail
              go_ret
              refine ⟨_, rfl, (hC1.alloc _).alloc _, ((hK0.trans (hK2.trans hK1)).trans (Keep.alloc M _ _)).trans (Keep.alloc M _ _), .inr ⟨_, _, rfl, ?_, mk_nd1 hC1.mlt hC1.nlt { kind := fnW[k] } hp, ?_⟩⟩
              · have := hC1.nlt; simp; omega
              · rw [sw_cons ws hi hj, HE.out, ← HTX.out]
                exact .fAgg HAG.out.1 t1 t2 hd
      · have HX : Hid (¬ RoundG expr (st (ws.map tok) i (i + 4)) → ¬ G column (st (ws.map tok) i (i + 4)) → ¬ G factor (st (ws.map tok) i (i + 4))) := fun hr hcl hg => by
          have hagg : ∀ u, (ws.map tok)[i]? = some u → isAgg u = true → False := fun u hu ha => by
            obtain ⟨k', hk', e'⟩ := agg_key h.ok hu ha
            have h6 : k' < 4 := hk'
            rw [HNO.out k' (by omega) hk'] at e'; cases e'
          rcases factor_inv HL.out hg with ⟨e, _⟩ | ⟨e1, e⟩ | ⟨e, e1⟩ | ⟨u, e1, e2, _⟩ | ⟨_, e⟩ | ⟨_, e⟩
          · exact HMIN.out e
          · exact HLIT.out (by first | exact e1 | trivial) e
          · exact hagg _ e rfl
          · exact hagg _ e1 e2
          · exact hr e
          · exact hcl e
        go_wp2_with fail
        refine (c_round C M N ws m hI expr i (i + 4) _ hC2 (by omega) (by omega) hj (by omega) (by omega)).mono ?_
        rintro e w1 ⟨v1, rfl, hC1, hK1, hF1⟩
        rcases hF1 with ⟨rfl, hno⟩ | ⟨b, t, rfl, hb, hp, o, a, c, e2, t1, t2, hd⟩
        · have HR : Hid (¬ RoundG expr (st (ws.map tok) i (i + 4))) := hno
          clear hno
          go_wp2_with fail
          refine (hI column i ((i + 4 : Nat) : Int) _ hC1 (by omega) (by omega) (by omega) (by simp [rk]; omega)).mono ?_
          rintro e w3 ⟨v3, rfl, hC3, hK3, hF3⟩
          rw [Int.toNat_natCast] at hF3
          go_wp2_with fail
          go_ret
          refine ⟨_, rfl, hC3, (hK0.trans (hK2.trans hK1)).trans hK3, ?_⟩
          rcases hF3 with ⟨e, hn3⟩ | ⟨b3, t3, e, hb3, hp3, hd3⟩
          · exact .inl ⟨e, HX.out HR.out hn3⟩
          · exact .inr ⟨b3, t3, e, hb3, hp3, .fCol hd3⟩
        · have HD : Hid (D factor (sw ws i (i + 4)) t) := by show D _ _ _; rw [e2]; exact .fRound t1 t2 hd
          clear e2
          go_wp2_with fail
          go_ret
          exact ⟨_, rfl, hC1, hK0.trans (hK2.trans hK1), .inr ⟨b, t, rfl, hb, hp, HD.out⟩⟩
end Gr
end Go.Proofs.YtfkdfplnhlnnoaaGreatDoor
end
section
namespace Go.Proofs.YtfkdfplnhlnnoaaGreatDoor
open Go.RowKit
namespace Gr
set_option linter.unusedSimpArgs false
set_option linter.unusedVariables false
open NT
theorem c_factor (C M N : Nat) (ws : List RW) (m : Nat) (hI : Is C M N ws m) (i j : Nat) (W : World) (h : Cut C M N ws W) (hi : i < j) (hj : j ≤ ws.length) (hm : (j - i) * 20 < m) :
    Calls Tryz.prog 90 #[.pointer (some ⟨C, 0, none⟩), .int .i64 i, .int .i64 j] W (Post C M N ws W (¬ G factor (st (ws.map tok) i j)) (D factor (sw ws i j))) := by
  by_cases hje : j = i + 1
  · subst hje
    exact c_factor1 C M N ws m hI i W h hi hj hm
  · by_cases hj4 : j = i + 4
    · subst hj4
      exact c_factor4 C M N ws m hI i W h hi hj hm
    · exact c_factor2 C M N ws m hI i j W h hi hj hm hje hj4
end Gr
end Go.Proofs.YtfkdfplnhlnnoaaGreatDoor
end
