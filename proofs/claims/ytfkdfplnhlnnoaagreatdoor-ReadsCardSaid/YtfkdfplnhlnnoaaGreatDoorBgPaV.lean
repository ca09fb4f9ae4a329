import Derived.Test.YtfkdfplnhlnnoaaGreatDoorBgJa23
namespace Go.Proofs.YtfkdfplnhlnnoaaGreatDoor
open Go.RowKit
namespace Gr
set_option linter.unusedSimpArgs false
set_option linter.unusedVariables false
open T NT PK
theorem core_bad {ws : List RW} {k : Nat} (h1 : hd ws k ≠ some lp) (h2 : hd ws k ≠ some sel) : ans (P core) (tk ws k) = none := by
  cases e : tk ws k with
  | nil => exact ans_core_nil
  | cons u r => exact ans_core_none (fun h => h1 (by rw [tk_first e, h])) (fun h => h2 (by rw [tk_first e, h]))
/-- what is known when the items are read -/
def St3 (Pb : Nat) (ws : List RW) (k : Nat) (W : World) (b : Bool) (wx : World) : Prop := ∃ k3 c i ti, k < k3 ∧ Sel Pb ws W k3 wx b i (.slice none 0 0) .nilIface (.slice none 0 0) .nilIface ∧ ItOk Pb (W.heap.size + 1) wx c i ti ∧ Hid (ans (P core) (tk ws k) = (eat fr_ (tk ws k3)).bind (ans (P tail))) ∧
  Hid (∀ k' tt, hd ws k3 = some fr_ → k3 + 1 ≤ k' → D tail (sl ws (k3 + 1) k') tt → D core (sl ws k k') (selT c b ti tt))
/-- what is known when the condition is read, or there is none -/
def St6 (Pb : Nat) (ws : List RW) (k : Nat) (W : World) (b : Bool) (wx : World) : Prop := ∃ k6 c i f x ti tf tw, k < k6 ∧ Sel Pb ws W k6 wx b i f x (.slice none 0 0) .nilIface ∧ ItOk Pb (W.heap.size + 1) wx c i ti ∧ SrOk Pb (W.heap.size + 1) wx f tf ∧ WhOk Pb (W.heap.size + 1) wx x tw ∧ Hid (ans (P core) (tk ws k) = afterA (tk ws k6)) ∧
  Hid (∀ k' g h, Behind ws k6 k' g h → D core (sl ws k k') (selT c b ti (tailT tf g tw h)))
set_option maxRecDepth 10000 in
set_option maxHeartbeats 2000000 in
theorem p_selection (Pb : Nat) (ws : List RW) (k : Nat) (W : World) (hP : PS Pb ws k W) (hlp : hd ws k ≠ some lp) (he : RdsE Pb ws 158 expr (k + 1)) (hc : Rds Pb ws 141 cnd (k + 1)) :
    Calls Tryz.prog 114 #[.pointer (some ⟨Pb, 0, none⟩)] W (Got Pb ws k (ans (P core) (tk ws k)) (Part Pb ws core k W.heap.size) W) := by
  have hmf : ∀ (fn : Fn) (first cap : Array Value) (w : World), (Instr.makeFunc fn first cap).run Tryz.prog w = .ok (.func fn first cap) w := fun _ _ _ _ => rfl
  have hPb := hP.lt
  have Hlp : Hid (hd ws k ≠ some lp) := hlp
  clear hlp
  have hS0 : Sel Pb ws W k (W.alloc (.cells #[.bool false, .slice none 0 0, .slice none 0 0, .nilIface, .slice none 0 0, .nilIface] 237)) false (.slice none 0 0) (.slice none 0 0) .nilIface (.slice none 0 0) .nilIface := ⟨hP.keep (wsum _), Keep.alloc Pb _ _, heap_alloc_new W _⟩
  go_enter Tryz.func114, Tryz.ntmps114
  go_wp2_with fail
  generalize W.alloc (.cells #[.bool false, .slice none 0 0, .slice none 0 0, .nilIface, .slice none 0 0, .nilIface] 237) = w0 at hS0 ⊢
  refine (p_mustT Pb ws k [115, 101, 108, 101, 99, 116] sel _ hS0.ps (by decide)).mono ?_
  rintro e w1 (⟨hs, rfl, hP1, hK1⟩ | ⟨hs, bb, rfl, h1, h2, h3⟩)
  · have Hs : Hid (hd ws k = some sel) := hs
    clear hs
    have hS1 := hS0.keep hK1 hP1 hPb
    go_wp2_with fail
    refine (p_takeB Pb ws (k + 1) [100, 105, 115, 116, 105, 110, 99, 116] dist _ hP1 (by decide)).mono ?_
    rintro e w2 ⟨b, k1, rfl, Hb, hP2, hK2⟩
    have hS2 := hS1.keep hK2 hP2 hPb
    have hkk1 : k < k1 := by rcases Hb.out with ⟨_, _, h⟩ | ⟨_, _, h⟩ <;> omega
    obtain ⟨c0, c1, c2, c3, c4, c5, cf⟩ := hS2.cells
    have cf0 := cf 0
    have hS3 := hS2.set0 hPb b
    go_wp2_with fail
    generalize w2.setCell ⟨W.heap.size, 0, none⟩ (.bool b) = w3 at hS3 ⊢
    clear c0 c1 c2 c3 c4 c5 cf cf0
    refine (p_takeB Pb ws k1 [42] T.star _ hS3.ps (by decide)).mono ?_
    rintro e w4 ⟨b2, k2, rfl, Hb2, hP4, hK4⟩
    have hS4 := hS3.keep hK4 hP4 hPb
    go_upto_if 11 with fail
    go_cut [] (fun wx => St3 Pb ws k W b wx)
    case first =>
      rcases Hb2.out with ⟨rfl, hst, rfl⟩ | ⟨rfl, hst, rfl⟩
      · go_wp2_with fail
        go_meet
        case rel => exact ⟨k1 + 1, true, _, .nil, by omega, hS4, ⟨[], .inl ⟨rfl, rfl, rfl⟩, fun _ _ _ => .inil⟩, sel_star Hs.out Hb.out hst, fun k' tt hf hle hT => core_star Hs.out Hb.out hst hf hle hT⟩
      · have HA0 : Hid (ans (P core) (tk ws k) = (ans (P items) (tk ws k2)).bind fun r => (eat fr_ r).bind (ans (P tail))) := sel_items Hs.out Hb.out hst
        clear hst
        go_wp2_with fail
        refine (p_list_items Pb ws k2 _ hP4 (fun k' W' hk' hPS' => p_item Pb ws k' W' hPS' (he.mono (by omega)))).mono ?_
        rintro e w5 (⟨k3, x, hle, hA, rfl, ⟨l, t, hne, hL, hR, hD⟩, hP5, hK5⟩ | ⟨hA, bb, rfl, h1, h2, h3⟩)
        · have HA : Hid (ans (P core) (tk ws k) = (eat fr_ (tk ws k3)).bind (ans (P tail))) := by show _ = _; rw [HA0.out, hA, Option.bind_some]
          have HD : Hid (D items (sl ws k2 k3) (nd { kind := [114, 111, 119] } t)) := hD
          have hS5 := hS4.keep hK5 hP5 hPb
          have hsz : W.heap.size + 1 ≤ w4.heap.size := (Array.getElem?_eq_some_iff.1 hS4.ob).1
          have hL5 := hL.low hsz
          obtain ⟨c0, c1, c2, c3, c4, c5, cf⟩ := hS5.cells
          have cf1 := cf 1
          have hS6 := hS5.set1 hPb x
          have hL6 := hL5.setLo (Nat.lt_succ_self _) 1 x
          obtain ⟨g, cap, hx, _⟩ := hL
          subst hx
          clear hA HA0 hD
          go_wp2_with fail
          go_meet
          case rel => exact ⟨k3, false, _, t, by omega, hS6, ⟨l, .inr ⟨rfl, hne, hL6⟩, hR⟩, HA, fun k' tt hf hle' hT => core_items Hs.out Hb.out HD.out hle hf hle' hT⟩
        · have HA : Hid (ans (P core) (tk ws k) = none) := by show _ = _; rw [HA0.out, hA]; rfl
          clear hA HA0
          go_wp2
          exact ⟨rfl, .inr ⟨HA.out, bb, rfl, h1, h2, hS4.kp.trans h3⟩⟩
    case rest =>
      obtain ⟨k3, c, i, ti, hk3, hS5, hI, HA3, HD3⟩ := hcut
      clear hS4 hS3 hS2 hS1 hS0 hK4 hK2 hK1 hP4 hP2 hP1 Hb Hb2
      go_wp2_with fail
      refine (p_mustT Pb ws k3 [102, 114, 111, 109] fr_ _ hS5.ps (by decide)).mono ?_
      rintro e w6 (⟨hf, rfl, hP6, hK6⟩ | ⟨hf, bb, rfl, h1, h2, h3⟩)
      · have Hf : Hid (hd ws k3 = some fr_) := hf
        have HA4 : Hid (ans (P core) (tk ws k) = ans (P tail) (tk ws (k3 + 1))) := by show _ = _; rw [HA3.out, eat_yes hf, Option.bind_some]
        clear hf HA3
        have hS6 := hS5.keep hK6 hP6 hPb
        have hI6 := hI.same (fun x l h => h.keep hK6)
        go_wp2_with fail
        refine (p_list_sources Pb ws (k3 + 1) _ hP6 (fun k' W' hk' hPS' => p_source Pb ws k' W' hPS')).mono ?_
        rintro e w7 (⟨k5, x, hle, hA, rfl, ⟨l, tf, hne, hL, hR, hD⟩, hP7, hK7⟩ | ⟨hA, bb, rfl, h1, h2, h3⟩)
        · have HA5 : Hid (ans (P core) (tk ws k) = tailA (tk ws k5)) := by show _ = _; rw [HA4.out, ans_tail, hA, Option.bind_some]
          have HD5 : Hid (D sources (sl ws (k3 + 1) k5) (nd { kind := [114, 111, 119] } tf)) := hD
          have hS7 := hS6.keep hK7 hP7 hPb
          have hsz : W.heap.size + 1 ≤ w6.heap.size := (Array.getElem?_eq_some_iff.1 hS6.ob).1
          have hI7 := (hI6.same (fun x l h => h.keep hK7)).same (fun y l h => h.setLo (Nat.lt_succ_self _) 2 x)
          have hF7 : SrOk Pb (W.heap.size + 1) (w7.setCell ⟨W.heap.size, 2, none⟩ x) x tf := ⟨l, hne, (hL.low hsz).setLo (Nat.lt_succ_self _) 2 x, hR⟩
          obtain ⟨c0, c1, c2, c3, c4, c5, cf⟩ := hS7.cells
          have cf2 := cf 2
          have hS8 := hS7.set2 hPb x
          obtain ⟨g, cap, hx, _⟩ := hL
          subst hx
          clear hA HA4 hD hI hI6 hS5 hS6 hR
          go_wp2_with fail
          generalize w7.setCell ⟨W.heap.size, 2, none⟩ (.slice (some ⟨g, 0, none⟩) l.length cap) = w8 at hS8 hI7 hF7 ⊢
          generalize Value.slice (some ⟨g, 0, none⟩) l.length cap = fv at hS8 hF7
          clear c0 c1 c2 c3 c4 c5 cf cf2 hS7 hK7 hP7
          refine (p_takeB Pb ws k5 [119, 104, 101, 114, 101] where_ _ hS8.ps (by decide)).mono ?_
          rintro e w9 ⟨b3, k5', rfl, Hb3, hP9, hK9⟩
          have hS9 := hS8.keep hK9 hP9 hPb
          have hI9 := hI7.same (fun x l h => h.keep hK9)
          have hF9 := hF7.same (fun x l h => h.keep hK9)
          go_upto_if 25 with fail
          go_cut [] (fun wx => St6 Pb ws k W b wx)
          case first =>
            rcases Hb3.out with ⟨rfl, hw, rfl⟩ | ⟨rfl, hw, rfl⟩
            · have Hw : Hid (hd ws k5 = some where_) := hw
              have HA6 : Hid (ans (P core) (tk ws k) = (ans (P cnd) (tk ws (k5 + 1))).bind afterA) := by show _ = _; rw [HA5.out, tailA_where hw]
              clear hw HA5
              go_wp2_with fail
              refine (hc (k5 + 1) _ (by omega) hP9).mono ?_
              rintro e w10 (⟨k6, x, hle6, hA, rfl, ⟨tw, hD, hR⟩, hP10, hK10⟩ | ⟨hA, bb, rfl, h1, h2, h3⟩)
              · obtain ⟨n, y, rfl⟩ := hR.iface
                have HA7 : Hid (ans (P core) (tk ws k) = afterA (tk ws k6)) := by show _ = _; rw [HA6.out, hA, Option.bind_some]
                have HD7 : Hid (D cnd (sl ws (k5 + 1) k6) tw) := hD
                clear hA HA6 hD
                have hS10 := hS9.keep hK10 hP10 hPb
                have hsz9 : W.heap.size + 1 ≤ w9.heap.size := (Array.getElem?_eq_some_iff.1 hS9.ob).1
                have hI10 := (hI9.same (fun x l h => h.keep hK10)).same (fun x l h => h.setLo (Nat.lt_succ_self _) 3 (.iface n y))
                have hF10 := (hF9.same (fun x l h => h.keep hK10)).same (fun x l h => h.setLo (Nat.lt_succ_self _) 3 (.iface n y))
                have hW10 : WhOk Pb (W.heap.size + 1) (w10.setCell ⟨W.heap.size, 3, none⟩ (.iface n y)) (.iface n y) tw := .inr ((hR.low hsz9).setLo (Nat.lt_succ_self _) 3 _)
                obtain ⟨c0, c1, c2, c3, c4, c5, cf⟩ := hS10.cells
                have cf3 := cf 3
                have hS11 := hS10.set3 hPb (.iface n y)
                go_wp2_with fail
                go_meet
                case rel => exact ⟨k6, c, i, fv, _, ti, tf, tw, by omega, hS11, hI10, hF10, hW10, HA7, fun k' g h hB => HD3.out k' _ Hf.out (by rcases hB with ⟨rfl, _⟩ | ⟨_, _, h, _⟩ <;> omega) (tail_where HD5.out (by omega) Hw.out HD7.out hle6 hB)⟩
              · have HA : Hid (ans (P core) (tk ws k) = none) := by show _ = _; rw [HA6.out, hA]; rfl
                clear hA HA6
                go_wp2
                exact ⟨rfl, .inr ⟨HA.out, bb, rfl, h1, h2, hS9.kp.trans h3⟩⟩
            · have HA7 : Hid (ans (P core) (tk ws k) = afterA (tk ws k5')) := by show _ = _; rw [HA5.out, tailA_no hw]
              clear hw HA5
              go_wp2_with fail
              go_meet
              case rel => exact ⟨k5', c, i, fv, .nilIface, ti, tf, .nil, by omega, hS9, hI9, hF9, .inl ⟨rfl, rfl⟩, HA7, fun k' g h hB => HD3.out k' _ Hf.out (by rcases hB with ⟨rfl, _⟩ | ⟨_, _, h, _⟩ <;> omega) (tail_none HD5.out (by omega) hB)⟩
          case rest =>
            clear hS9 hI9 hF9 hS8 hI7 hF7 hK9 hP9 HA5 HD5 HD3 hK6 hP6
            obtain ⟨k6, c, i, f, x, ti, tf, tw, hk6, hS, hI, hF, hW, HA, HD⟩ := hcut
            go_wp2_with fail
            refine (p_takeB Pb ws k6 [103, 114, 111, 117, 112] group _ hS.ps (by decide)).mono ?_
            rintro e w9 ⟨b4, k6', rfl, Hb4, hP9, hK9⟩
            have hS9 := hS.keep hK9 hP9 hPb
            have hI9 := hI.same (fun x l h => h.keep hK9)
            have hF9 := hF.same (fun x l h => h.keep hK9)
            have hW9 := hW.keep hK9
            clear hS hI hF hW hK9
            rcases Hb4.out with ⟨rfl, hg, rfl⟩ | ⟨rfl, hg, rfl⟩
            · have Hg : Hid (hd ws k6 = some group) := hg
              have HA1 : Hid (ans (P core) (tk ws k) = (eat by_ (tk ws (k6 + 1))).bind fun r => (ans (P columns) r).bind groupedA) := by show _ = _; rw [HA.out, afterA_group hg]
              clear hg HA Hb4
              go_wp2_with fail
              refine (p_mustT Pb ws (k6 + 1) [98, 121] by_ _ hP9 (by decide)).mono ?_
              rintro e w10 (⟨hb, rfl, hP10, hK10⟩ | ⟨hb, bb, rfl, h1, h2, h3⟩)
              · have Hby : Hid (hd ws (k6 + 1) = some by_) := hb
                have HA2 : Hid (ans (P core) (tk ws k) = (ans (P columns) (tk ws (k6 + 2))).bind groupedA) := by show _ = _; rw [HA1.out, eat_yes hb, Option.bind_some]
                clear hb HA1
                have hS10 := hS9.keep hK10 hP10 hPb
                have hI10 := hI9.same (fun x l h => h.keep hK10)
                have hF10 := hF9.same (fun x l h => h.keep hK10)
                have hW10 := hW9.keep hK10
                clear hS9 hI9 hF9 hW9 hK10
                go_wp2_with fail
                refine (p_list_columns Pb ws (k6 + 2) _ hP10 (fun k' W' hk' hPS' => p_column Pb ws k' W' hPS')).mono ?_
                rintro e w11 (⟨k7, gv, hle7, hA, rfl, ⟨l, tg, hne, hL, hR, hD⟩, hP11, hK11⟩ | ⟨hA, bb, rfl, h1, h2, h3⟩)
                · have HA3 : Hid (ans (P core) (tk ws k) = groupedA (tk ws k7)) := by show _ = _; rw [HA2.out, hA, Option.bind_some]
                  have HD7 : Hid (D columns (sl ws (k6 + 2) k7) (nd { kind := [114, 111, 119] } tg)) := hD
                  have hsz : W.heap.size + 1 ≤ w10.heap.size := (Array.getElem?_eq_some_iff.1 hS10.ob).1
                  have hS11 := hS10.keep hK11 hP11 hPb
                  have hI11 := (hI10.same (fun x l h => h.keep hK11)).same (fun x l h => h.setLo (Nat.lt_succ_self _) 4 gv)
                  have hF11 := (hF10.same (fun x l h => h.keep hK11)).same (fun x l h => h.setLo (Nat.lt_succ_self _) 4 gv)
                  have hW11 := (hW10.keep hK11).setLo (Nat.lt_succ_self _) 4 gv
                  have hG11 : CoOk Pb (W.heap.size + 1) (w11.setCell ⟨W.heap.size, 4, none⟩ gv) gv tg := ⟨l, .inr ⟨hne, (hL.low hsz).setLo (Nat.lt_succ_self _) 4 gv⟩, hR⟩
                  obtain ⟨c0, c1, c2, c3, c4, c5, cf⟩ := hS11.cells
                  have cf4 := cf 4
                  have hS12 := hS11.set4 hPb gv
                  obtain ⟨gg, cap, hx, _⟩ := hL
                  subst hx
                  clear hA HA2 hD hR hS10 hI10 hF10 hW10
                  go_wp2_with fail
                  generalize w11.setCell ⟨W.heap.size, 4, none⟩ (.slice (some ⟨gg, 0, none⟩) l.length cap) = w12 at hS12 hI11 hF11 hW11 hG11 ⊢
                  generalize Value.slice (some ⟨gg, 0, none⟩) l.length cap = gv at hS12 hG11
                  clear c0 c1 c2 c3 c4 c5 cf cf4 hS11 hK11 hP11
                  refine (p_takeB Pb ws k7 [104, 97, 118, 105, 110, 103] having _ hS12.ps (by decide)).mono ?_
                  rintro e w13 ⟨b5, k7', rfl, Hb5, hP13, hK13⟩
                  have hS13 := hS12.keep hK13 hP13 hPb
                  have hI13 := hI11.same (fun x l h => h.keep hK13)
                  have hF13 := hF11.same (fun x l h => h.keep hK13)
                  have hW13 := hW11.keep hK13
                  have hG13 := hG11.same (fun x l h => h.keep hK13)
                  clear hS12 hI11 hF11 hW11 hG11 hK13
                  rcases Hb5.out with ⟨rfl, hh, rfl⟩ | ⟨rfl, hh, rfl⟩
                  · have Hh : Hid (hd ws k7 = some having) := hh
                    have HA4 : Hid (ans (P core) (tk ws k) = ans (P cnd) (tk ws (k7 + 1))) := by show _ = _; rw [HA3.out, groupedA_having hh]
                    clear hh HA3 Hb5
                    go_wp2_with fail
                    refine (hc (k7 + 1) _ (by omega) hP13).mono ?_
                    rintro e w14 (⟨k8, hv, hle8, hA, rfl, ⟨th, hD, hR⟩, hP14, hK14⟩ | ⟨hA, bb, rfl, h1, h2, h3⟩)
                    · obtain ⟨n, y, rfl⟩ := hR.iface
                      have HA5 : Hid (ans (P core) (tk ws k) = some (tk ws k8)) := HA4.out.trans hA
                      have hsz13 : W.heap.size + 1 ≤ w13.heap.size := (Array.getElem?_eq_some_iff.1 hS13.ob).1
                      have hS14 := hS13.keep hK14 hP14 hPb
                      have hI14 := (hI13.same (fun x l h => h.keep hK14)).same (fun x l h => h.setLo (Nat.lt_succ_self _) 5 (.iface n y))
                      have hF14 := (hF13.same (fun x l h => h.keep hK14)).same (fun x l h => h.setLo (Nat.lt_succ_self _) 5 (.iface n y))
                      have hW14 := (hW13.keep hK14).setLo (Nat.lt_succ_self _) 5 (.iface n y)
                      have hG14 := (hG13.same (fun x l h => h.keep hK14)).same (fun x l h => h.setLo (Nat.lt_succ_self _) 5 (.iface n y))
                      have hH14 : WhOk Pb (W.heap.size + 1) (w14.setCell ⟨W.heap.size, 5, none⟩ (.iface n y)) (.iface n y) th := .inr ((hR.low hsz13).setLo (Nat.lt_succ_self _) 5 _)
                      have HD8 : Hid (D core (sl ws k k8) (selT c b ti (tailT tf tg tw th))) := HD.out k8 tg th (.inr ⟨Hg.out, Hby.out, by omega, by
                        have l7 := hd_lt Hh.out
                        rw [sl_app ws (show k6 + 2 ≤ k7 by omega) (show k7 ≤ k8 by omega), sl_cons l7 (by omega)]
                        exact .gHaving (hd_tok Hh.out l7) HD7.out hD⟩)
                      obtain ⟨c0, c1, c2, c3, c4, c5, cf⟩ := hS14.cells
                      have cf5 := cf 5
                      have hS15 := hS14.set5 hPb (.iface n y)
                      clear hA HA4 hD hR hS13 hI13 hF13 hW13 hG13
                      go_wp2_with fail
                      go_ret
                      exact .inl ⟨k8, _, by omega, HA5.out, rfl, ⟨_, HD8.out, (sel_rep hI14 hF14 hG14 hW14 hH14).low (by omega)⟩, hS15.ps, hS15.kp⟩
                    · have HA5 : Hid (ans (P core) (tk ws k) = none) := HA4.out.trans hA
                      clear hA HA4
                      go_wp2
                      exact ⟨rfl, .inr ⟨HA5.out, bb, rfl, h1, h2, hS13.kp.trans h3⟩⟩
                  · have HA4 : Hid (ans (P core) (tk ws k) = some (tk ws k7')) := by show _ = _; rw [HA3.out, groupedA_no hh]
                    have HD8 : Hid (D core (sl ws k k7') (selT c b ti (tailT tf tg tw .nil))) := HD.out k7' tg .nil (.inr ⟨Hg.out, Hby.out, by omega, .gCols HD7.out⟩)
                    obtain ⟨c0, c1, c2, c3, c4, c5, cf⟩ := hS13.cells
                    clear hh HA3 Hb5
                    go_wp2_with fail
                    go_ret
                    exact .inl ⟨k7', _, by omega, HA4.out, rfl, ⟨_, HD8.out, (sel_rep hI13 hF13 hG13 hW13 (.inl ⟨rfl, rfl⟩)).low (by omega)⟩, hS13.ps, hS13.kp⟩
                · have HA5 : Hid (ans (P core) (tk ws k) = none) := by show _ = _; rw [HA2.out, hA]; rfl
                  clear hA HA2
                  go_wp2
                  exact ⟨rfl, .inr ⟨HA5.out, bb, rfl, h1, h2, hS10.kp.trans h3⟩⟩
              · have HA5 : Hid (ans (P core) (tk ws k) = none) := by show _ = _; rw [HA1.out, eat_no hb]; rfl
                clear hb HA1
                go_wp2
                exact ⟨rfl, .inr ⟨HA5.out, bb, rfl, h1, h2, hS9.kp.trans h3⟩⟩
            · have HA4 : Hid (ans (P core) (tk ws k) = some (tk ws k6')) := by show _ = _; rw [HA.out, afterA_no hg]
              have HD8 : Hid (D core (sl ws k k6') (selT c b ti (tailT tf .nil tw .nil))) := HD.out k6' .nil .nil (.inl ⟨rfl, hg, rfl, rfl⟩)
              obtain ⟨c0, c1, c2, c3, c4, c5, cf⟩ := hS9.cells
              clear hg HA Hb4
              go_wp2_with fail
              go_ret
              exact .inl ⟨k6', _, by omega, HA4.out, rfl, ⟨_, HD8.out, (sel_rep hI9 hF9 ⟨[], .inl ⟨rfl, rfl⟩, fun _ _ _ => .cnil⟩ hW9 (.inl ⟨rfl, rfl⟩)).low (by omega)⟩, hS9.ps, hS9.kp⟩
        · have HA : Hid (ans (P core) (tk ws k) = none) := by show _ = _; rw [HA4.out, ans_tail, hA]; rfl
          clear hA HA4
          go_wp2
          exact ⟨rfl, .inr ⟨HA.out, bb, rfl, h1, h2, hS6.kp.trans h3⟩⟩
      · have HA : Hid (ans (P core) (tk ws k) = none) := by show _ = _; rw [HA3.out, eat_no hf]; rfl
        clear hf HA3
        go_wp2
        exact ⟨rfl, .inr ⟨HA.out, bb, rfl, h1, h2, hS5.kp.trans h3⟩⟩
  · have HA : Hid (ans (P core) (tk ws k) = none) := core_bad Hlp.out hs
    clear hs
    go_wp2
    exact ⟨rfl, .inr ⟨HA.out, bb, rfl, h1, h2, hS0.kp.trans h3⟩⟩
set_option maxRecDepth 10000 in
set_option maxHeartbeats 1000000 in
theorem p_core (Pb : Nat) (ws : List RW) (k : Nat) (W : World) (hP : PS Pb ws k W) (hq : Rds Pb ws 59 query (k + 1)) (he : RdsE Pb ws 158 expr (k + 1)) (hc : Rds Pb ws 141 cnd (k + 1)) :
    Calls Tryz.prog 76 #[.pointer (some ⟨Pb, 0, none⟩)] W (Got Pb ws k (ans (P core) (tk ws k)) (Part Pb ws core k W.heap.size) W) := by
  have hmf : ∀ (fn : Fn) (first cap : Array Value) (w : World), (Instr.makeFunc fn first cap).run Tryz.prog w = .ok (.func fn first cap) w := fun _ _ _ _ => rfl
  have hok := hP.ok
  go_enter Tryz.func76, Tryz.ntmps76
  go_wp2_with fail
  refine (p_is Pb ws k W.heap.size 1 [[40]] _ (hP.keep (wsum _)) (txsL W [[40]]) (by simp)).mono ?_
  rintro e w4 ⟨rfl, hB4⟩
  have hP4 := (hP.keep (wsum _)).keep hB4
  have hK4 : Keep Pb W w4 := (Keep.alloc Pb _ _).trans (Keep.of Pb hB4)
  rw [fx1 (s := [40]) (t := lp) (by decide) hok]
  by_cases ho : hd ws k = some lp
  · have HA0 : Hid (ans (P core) (tk ws k) = ans (round query) (tk ws k)) := by show _ = _; rw [tk_hd ho, ans_core_lp]
    rw [decide_eq_true ho]
    clear ho
    go_wp2_with fail
    refine (p_roundQ Pb ws k _ hP4 hq).mono ?_
    rintro e w5 (⟨k', x, hle, hA, rfl, hQ, hP5, hK5⟩ | ⟨hA, b, rfl, h1, h2, h3⟩)
    · obtain ⟨o, c, a, t2, e1, e2, e3, e4, e5⟩ := hQ.split
      obtain ⟨n2, y2, rfl⟩ := e5.iface
      have HA : Hid (ans (P core) (tk ws k) = some (tk ws k')) := HA0.out.trans hA
      have HQ : Hid (Part Pb ws core k W.heap.size k' (.iface n2 y2) w5) := by
        refine ⟨_, ?_, e5.low hK4.size⟩
        rw [e3]; exact .cRound e1 e2 e4
      clear hA HA0 hQ e3
      go_wp2_with fail
      go_ret
      exact .inl ⟨k', _, by omega, HA.out, rfl, HQ.out, hP5, hK4.trans hK5⟩
    · have HA : Hid (ans (P core) (tk ws k) = none) := HA0.out.trans hA
      clear hA HA0
      go_wp2
      exact ⟨rfl, .inr ⟨HA.out, b, rfl, h1, h2, hK4.trans h3⟩⟩
  · have Ho : Hid (hd ws k ≠ some lp) := ho
    rw [decide_eq_false ho]
    clear ho
    go_wp2_with fail
    refine (p_selection Pb ws k _ hP4 Ho.out he hc).mono ?_
    rintro e w6 (⟨k', x, hle, hA, rfl, ⟨t, hD, hR⟩, hP6, hK6⟩ | ⟨hA, b, rfl, h1, h2, h3⟩)
    · obtain ⟨n2, y2, rfl⟩ := hR.iface
      have HA : Hid (ans (P core) (tk ws k) = some (tk ws k')) := hA
      clear hA
      go_wp2_with fail
      go_ret
      exact .inl ⟨k', _, hle, HA.out, rfl, ⟨t, hD, hR.low hK4.size⟩, hP6, hK4.trans hK6⟩
    · have HA : Hid (ans (P core) (tk ws k) = none) := hA
      clear hA
      go_wp2
      exact ⟨rfl, .inr ⟨HA.out, b, rfl, h1, h2, hK4.trans h3⟩⟩
/-- every function of the parser, from every place on -/
structure AllR (Pb : Nat) (ws : List RW) (k : Nat) : Prop where
  query : Rds Pb ws 59 NT.query k
  core : Rds Pb ws 76 NT.core k
  cond : Rds Pb ws 141 NT.cnd k
  conj : Rds Pb ws 162 NT.conj k
  neg : Rds Pb ws 178 NT.neg k
  basic : Rds Pb ws 187 NT.basic k
  expr : RdsE Pb ws 158 NT.expr k
  term : RdsE Pb ws 176 NT.term k
  factor : RdsE Pb ws 186 NT.factor k
theorem rds_step {Pb : Nat} {ws : List RW} {f : Nat} {nt : NT} {k : Nat} (h : Rds Pb ws f nt (k + 1)) (h0 : ∀ W, PS Pb ws k W → Calls Tryz.prog f #[.pointer (some ⟨Pb, 0, none⟩)] W (Got Pb ws k (ans (P nt) (tk ws k)) (Part Pb ws nt k W.heap.size) W)) : Rds Pb ws f nt k := fun j W hj hP => by
  by_cases e : j = k
  · subst e; exact h0 W hP
  · exact h j W (by omega) hP
theorem rdsE_step {Pb : Nat} {ws : List RW} {f : Nat} {nt : NT} {k : Nat} (h : RdsE Pb ws f nt (k + 1)) (h0 : ∀ W, PS Pb ws k W → Calls Tryz.prog f #[.pointer (some ⟨Pb, 0, none⟩)] W (Got Pb ws k (ans (P nt) (tk ws k)) (PartE ws nt k) W)) : RdsE Pb ws f nt k := fun j W hj hP => by
  by_cases e : j = k
  · subst e; exact h0 W hP
  · exact h j W (by omega) hP
theorem all_step {Pb : Nat} {ws : List RW} {k : Nat} (h : AllR Pb ws (k + 1)) : AllR Pb ws k := by
  have f := rdsE_step h.factor (fun W hP => p_factor Pb ws k W hP h.factor h.expr)
  have t := rdsE_step h.term (fun W hP => p_term Pb ws k W hP f)
  have e := rdsE_step h.expr (fun W hP => p_expr Pb ws k W hP t)
  have b := rds_step h.basic (fun W hP => p_basic Pb ws k W hP e.rds h.cond h.query)
  have n := rds_step h.neg (fun W hP => p_neg Pb ws k W hP h.neg b)
  have j := rds_step h.conj (fun W hP => p_conj Pb ws k W hP n)
  have c := rds_step h.cond (fun W hP => p_cnd Pb ws k W hP j)
  have o := rds_step h.core (fun W hP => p_core Pb ws k W hP h.query h.expr h.cond)
  have q := rds_step h.query (fun W hP => p_query Pb ws k W hP o)
  exact ⟨q, o, c, j, n, b, e, t, f⟩
theorem all_out {Pb : Nat} {ws : List RW} {k : Nat} (h : ws.length < k) : AllR Pb ws k := by
  have no : ∀ j W, k ≤ j → PS Pb ws j W → False := fun j W hj hP => by have := hP.le; omega
  exact ⟨fun j W hj hP => (no j W hj hP).elim, fun j W hj hP => (no j W hj hP).elim, fun j W hj hP => (no j W hj hP).elim, fun j W hj hP => (no j W hj hP).elim, fun j W hj hP => (no j W hj hP).elim, fun j W hj hP => (no j W hj hP).elim, fun j W hj hP => (no j W hj hP).elim, fun j W hj hP => (no j W hj hP).elim, fun j W hj hP => (no j W hj hP).elim⟩
/-- the parser reads what the grammar says -/
theorem all_read (Pb : Nat) (ws : List RW) : AllR Pb ws 0 := by
  have h : ∀ n, AllR Pb ws (ws.length + 1 - n) := by
    intro n
    induction n with
    | zero => exact all_out (by omega)
    | succ n ih =>
      by_cases hn : n < ws.length + 1
      · rw [show ws.length + 1 - n = (ws.length + 1 - (n + 1)) + 1 from by omega] at ih
        exact all_step ih
      · rw [show ws.length + 1 - (n + 1) = ws.length + 1 - n from by omega]; exact ih
  have := h (ws.length + 1)
  rwa [Nat.sub_self] at this
end Gr
end Go.Proofs.YtfkdfplnhlnnoaaGreatDoor
