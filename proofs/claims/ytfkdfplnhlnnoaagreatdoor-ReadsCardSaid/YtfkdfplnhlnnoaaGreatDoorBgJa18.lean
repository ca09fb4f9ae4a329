import Derived.Test.YtfkdfplnhlnnoaaGreatDoorBgJa17
section
namespace Go.Proofs.YtfkdfplnhlnnoaaGreatDoor
open Go.RowKit
namespace Gr
set_option linter.unusedSimpArgs false
set_option linter.unusedVariables false
open T NT PK
theorem chain_end_cnd {ws : List RW} {k1 : Nat} (h : ∀ t, hd ws k1 = some t → (t == or_) = false) : ans (R cnd) (tk ws k1) = some (tk ws k1) := by
  cases e : tk ws k1 with
  | nil => exact ans_R_nil cnd (by simp)
  | cons u r =>
    have := h u (tk_first e)
    rw [ans_Rcnd_cons, if_neg (by simpa using this)]
theorem chain_on_cnd {ws : List RW} {k1 : Nat} (hk : k1 < ws.length) (h : (tok ws[k1] == or_) = true) : ans (R cnd) (tk ws k1) = (ans (P conj) (tk ws (k1 + 1))).bind (ans (R cnd)) := by
  rw [tk_cons hk, ans_Rcnd_cons, if_pos (by simpa using h)]
set_option maxRecDepth 10000 in
set_option maxHeartbeats 1000000 in
theorem p_chain_cnd (Pb : Nat) (ws : List RW) (k b1 b2 S cap : Nat) (W : World) (hP : PS Pb ws k W) (hS : SignsAt Pb b1 b2 S cap [[111, 114]] W) (hq : Rds Pb ws 162 conj k) :
    Calls Tryz.prog 161 #[.func (.func 162) #[.pointer (some ⟨Pb, 0, none⟩)] #[], .func (.func 179) #[] #[.pointer (some ⟨b1, 0, none⟩), .pointer (some ⟨b2, 0, none⟩)], .func (.func 164) #[] #[]] W (Got Pb ws k (ans (P cnd) (tk ws k)) (Part Pb ws cnd k W.heap.size) W) := by
  have hok := hP.ok
  go_enter Tryz.func161, Tryz.ntmps161
  go_wp2_with fail
  refine (hq k W (Nat.le_refl _) hP).mono ?_
  rintro e w1 (⟨k1, x, hle, hA, rfl, ⟨t, hD, hR⟩, hP1, hK1⟩ | ⟨hA, hb⟩)
  · obtain ⟨n, y, rfl⟩ := hR.iface
    have hA1 : Hid (ans (P cnd) (tk ws k) = ans (R cnd) (tk ws k1)) := by show _ = _; rw [ans_cnd, hA, Option.bind_some]
    clear hA
    go_wp2_with fail
    refine (p_signs1 Pb ws k1 b1 b2 S cap _ _ hP1 (hS.keep hK1) (by simp)).mono ?_
    rintro e w2 hT
    obtain ⟨k2, s, rfl, hs, hP2, hK2⟩ := sg_of (· == or_) (by decide) (by decide) (by decide) (by decide) (by decide) hok hT
    clear hT
    have HS : Hid (Sg ws (· == or_) k1 k2 s) := hs
    clear hs
    have HD : Hid (D cnd (sl ws k k1) t) := .kConj hD
    clear hD
    have hlen2 := hP2.le
    go_wp2_with fail
    go_loopg [7, 8] (ws.length - k2 + 1) (fun gk lv sv wr => ∃ (k1 k2 : Nat) (t : Tr) (n : Nat) (y : Value) (s : Bg.Str), gk = ws.length - k2 + 1 ∧ k2 ≤ ws.length ∧ k ≤ k1 ∧ lv = .iface n y ∧ sv = .string ⟨s.toArray⟩ ∧ Hid (D cnd (sl ws k k1) t) ∧ Rep Pb W.heap.size wr (.v (.iface n y)) t ∧ Hid (ans (P cnd) (tk ws k) = ans (R cnd) (tk ws k1)) ∧ Hid (Sg ws (· == or_) k1 k2 s) ∧ PS Pb ws k2 wr ∧ Keep Pb W wr)
    case atStart => exact ⟨k1, k2, t, n, y, s, rfl, hlen2, hle, rfl, rfl, HD, hR.keep hK2, hA1, HS, hP2, hK1.trans hK2⟩
    case round =>
      obtain ⟨k1, k2, t, n, y, s, rfl, hl2, hle, rfl, rfl, HD, hR, hA1, HS, hP2, hK⟩ := hrel
      rcases HS.out with ⟨hk1, hp, rfl, hs, hne⟩ | ⟨hno, rfl, rfl⟩
      · have hne' : (s == []) = false := by simpa using hne
        have HX : Hid (s = (ws[k1]).text ∧ (tok ws[k1] == or_) = true) := ⟨hs, hp⟩
        have HN : Hid (s ≠ []) := hne
        clear HS hs hp hne
        go_wp2_with fail
        refine (hq (k1 + 1) wr (by omega) hP2).mono ?_
        rintro e w3 (⟨k3, x, hle3, hA3, rfl, ⟨t3, hD3, hR3⟩, hP3, hK3⟩ | ⟨hA3, hb⟩)
        · obtain ⟨n3, y3, rfl⟩ := hR3.iface
          have hfar := ans_far hA3
          go_wp2_with fail
          refine (p_logic n n3 y y3 s _).mono ?_
          rintro e w4 ⟨rfl, hB4⟩
          have hP4 := hP3.keep hB4
          have hK4 := (hK.trans hK3).trans (Keep.of Pb hB4)
          go_wp2_with fail
          refine (p_signs1 Pb ws k3 b1 b2 S cap _ _ hP4 (hS.keep hK4) (by simp)).mono ?_
          rintro e w5 hT
          obtain ⟨k5, s5, rfl, hs5, hP5, hK5⟩ := sg_of (· == or_) (by decide) (by decide) (by decide) (by decide) (by decide) hok hT
          clear hT
          have HS5 : Hid (Sg ws (· == or_) k3 k5 s5) := hs5
          have hk5 : k3 ≤ k5 := by rcases hs5 with ⟨_, _, h, _⟩ | ⟨_, h, _⟩ <;> omega
          clear hs5
          have hl5 := hP5.le
          have HR5 : Hid (Rep Pb W.heap.size w5 (.v (.iface 299 (.agg #[.iface n y, .string ⟨s.toArray⟩, .iface n3 y3]))) (nd { kind := s } (l2 t t3))) :=
            Rep.logic (by rw [HX.out.1]; exact text_in (p := (· == or_)) (hok _ (List.getElem_mem hk1)) HX.out.2 (by decide) (by decide) (by decide) (by decide)) (hR.keep ((hK3.trans (Keep.of Pb hB4)).trans hK5)) ((hR3.low hK.size).keep ((Keep.of Pb hB4).trans hK5))
          have HA5 : Hid (ans (P cnd) (tk ws k) = ans (R cnd) (tk ws k3)) := by
            show _ = _
            rw [hA1.out, chain_on_cnd hk1 HX.out.2, hA3, Option.bind_some]
          have HD5 : Hid (D cnd (sl ws k k3) (nd { kind := s } (l2 t t3))) := by
            show D _ _ _
            rw [sl_app ws (show k ≤ k1 by omega) (show k1 ≤ k3 by omega), sl_cons hk1 (by omega), HX.out.1]
            exact .kOr (by simpa using HX.out.2) HD.out hD3
          clear hA3 hD3 HD hA1 hR hR3
          go_wp2_with fail
          go_roundg (ws.length - k5 + 1)
          case measure => omega
          case rel => exact ⟨k3, k5, _, _, _, s5, rfl, hl5, by omega, rfl, rfl, HD5, HR5.out, HA5, HS5, hP5, hK4.trans hK5⟩
        · have hb' := BadP.of hK hb
          obtain ⟨b, rfl, h1, h2, h3⟩ := hb'
          have HA : Hid (ans (P cnd) (tk ws k) = none) := by show _ = _; rw [hA1.out, chain_on_cnd hk1 HX.out.2, hA3]; rfl
          clear hA1 hA3
          go_wp2
          exact ⟨rfl, .inr ⟨HA.out, b, rfl, h1, h2, h3⟩⟩
      · have HA : Hid (ans (P cnd) (tk ws k) = some (tk ws k2)) := by show _ = _; rw [hA1.out, chain_end_cnd hno]
        clear hA1 HS
        go_wp2_with fail
        go_ret
        exact .inl ⟨k2, _, hle, HA.out, rfl, ⟨t, HD.out, hR⟩, hP2, hK⟩
  · obtain ⟨b, rfl, h1, h2, h3⟩ := hb
    go_wp2
    exact ⟨rfl, .inr ⟨by rw [ans_cnd, hA]; rfl, b, rfl, h1, h2, h3⟩⟩
theorem chain_end_conj {ws : List RW} {k1 : Nat} (h : ∀ t, hd ws k1 = some t → (t == and_) = false) : ans (R conj) (tk ws k1) = some (tk ws k1) := by
  cases e : tk ws k1 with
  | nil => exact ans_R_nil conj (by simp)
  | cons u r =>
    have := h u (tk_first e)
    rw [ans_Rconj_cons, if_neg (by simpa using this)]
theorem chain_on_conj {ws : List RW} {k1 : Nat} (hk : k1 < ws.length) (h : (tok ws[k1] == and_) = true) : ans (R conj) (tk ws k1) = (ans (P neg) (tk ws (k1 + 1))).bind (ans (R conj)) := by
  rw [tk_cons hk, ans_Rconj_cons, if_pos (by simpa using h)]
set_option maxRecDepth 10000 in
set_option maxHeartbeats 1000000 in
theorem p_chain_conj (Pb : Nat) (ws : List RW) (k b1 b2 S cap : Nat) (W : World) (hP : PS Pb ws k W) (hS : SignsAt Pb b1 b2 S cap [[97, 110, 100]] W) (hq : Rds Pb ws 178 neg k) :
    Calls Tryz.prog 161 #[.func (.func 178) #[.pointer (some ⟨Pb, 0, none⟩)] #[], .func (.func 179) #[] #[.pointer (some ⟨b1, 0, none⟩), .pointer (some ⟨b2, 0, none⟩)], .func (.func 164) #[] #[]] W (Got Pb ws k (ans (P conj) (tk ws k)) (Part Pb ws conj k W.heap.size) W) := by
  have hok := hP.ok
  go_enter Tryz.func161, Tryz.ntmps161
  go_wp2_with fail
  refine (hq k W (Nat.le_refl _) hP).mono ?_
  rintro e w1 (⟨k1, x, hle, hA, rfl, ⟨t, hD, hR⟩, hP1, hK1⟩ | ⟨hA, hb⟩)
  · obtain ⟨n, y, rfl⟩ := hR.iface
    have hA1 : Hid (ans (P conj) (tk ws k) = ans (R conj) (tk ws k1)) := by show _ = _; rw [ans_conj, hA, Option.bind_some]
    clear hA
    go_wp2_with fail
    refine (p_signs1 Pb ws k1 b1 b2 S cap _ _ hP1 (hS.keep hK1) (by simp)).mono ?_
    rintro e w2 hT
    obtain ⟨k2, s, rfl, hs, hP2, hK2⟩ := sg_of (· == and_) (by decide) (by decide) (by decide) (by decide) (by decide) hok hT
    clear hT
    have HS : Hid (Sg ws (· == and_) k1 k2 s) := hs
    clear hs
    have HD : Hid (D conj (sl ws k k1) t) := .jNeg hD
    clear hD
    have hlen2 := hP2.le
    go_wp2_with fail
    go_loopg [7, 8] (ws.length - k2 + 1) (fun gk lv sv wr => ∃ (k1 k2 : Nat) (t : Tr) (n : Nat) (y : Value) (s : Bg.Str), gk = ws.length - k2 + 1 ∧ k2 ≤ ws.length ∧ k ≤ k1 ∧ lv = .iface n y ∧ sv = .string ⟨s.toArray⟩ ∧ Hid (D conj (sl ws k k1) t) ∧ Rep Pb W.heap.size wr (.v (.iface n y)) t ∧ Hid (ans (P conj) (tk ws k) = ans (R conj) (tk ws k1)) ∧ Hid (Sg ws (· == and_) k1 k2 s) ∧ PS Pb ws k2 wr ∧ Keep Pb W wr)
    case atStart => exact ⟨k1, k2, t, n, y, s, rfl, hlen2, hle, rfl, rfl, HD, hR.keep hK2, hA1, HS, hP2, hK1.trans hK2⟩
    case round =>
      obtain ⟨k1, k2, t, n, y, s, rfl, hl2, hle, rfl, rfl, HD, hR, hA1, HS, hP2, hK⟩ := hrel
      rcases HS.out with ⟨hk1, hp, rfl, hs, hne⟩ | ⟨hno, rfl, rfl⟩
      · have hne' : (s == []) = false := by simpa using hne
        have HX : Hid (s = (ws[k1]).text ∧ (tok ws[k1] == and_) = true) := ⟨hs, hp⟩
        have HN : Hid (s ≠ []) := hne
        clear HS hs hp hne
        go_wp2_with fail
        refine (hq (k1 + 1) wr (by omega) hP2).mono ?_
        rintro e w3 (⟨k3, x, hle3, hA3, rfl, ⟨t3, hD3, hR3⟩, hP3, hK3⟩ | ⟨hA3, hb⟩)
        · obtain ⟨n3, y3, rfl⟩ := hR3.iface
          have hfar := ans_far hA3
          go_wp2_with fail
          refine (p_logic n n3 y y3 s _).mono ?_
          rintro e w4 ⟨rfl, hB4⟩
          have hP4 := hP3.keep hB4
          have hK4 := (hK.trans hK3).trans (Keep.of Pb hB4)
          go_wp2_with fail
          refine (p_signs1 Pb ws k3 b1 b2 S cap _ _ hP4 (hS.keep hK4) (by simp)).mono ?_
          rintro e w5 hT
          obtain ⟨k5, s5, rfl, hs5, hP5, hK5⟩ := sg_of (· == and_) (by decide) (by decide) (by decide) (by decide) (by decide) hok hT
          clear hT
          have HS5 : Hid (Sg ws (· == and_) k3 k5 s5) := hs5
          have hk5 : k3 ≤ k5 := by rcases hs5 with ⟨_, _, h, _⟩ | ⟨_, h, _⟩ <;> omega
          clear hs5
          have hl5 := hP5.le
          have HR5 : Hid (Rep Pb W.heap.size w5 (.v (.iface 299 (.agg #[.iface n y, .string ⟨s.toArray⟩, .iface n3 y3]))) (nd { kind := s } (l2 t t3))) :=
            Rep.logic (by rw [HX.out.1]; exact text_in (p := (· == and_)) (hok _ (List.getElem_mem hk1)) HX.out.2 (by decide) (by decide) (by decide) (by decide)) (hR.keep ((hK3.trans (Keep.of Pb hB4)).trans hK5)) ((hR3.low hK.size).keep ((Keep.of Pb hB4).trans hK5))
          have HA5 : Hid (ans (P conj) (tk ws k) = ans (R conj) (tk ws k3)) := by
            show _ = _
            rw [hA1.out, chain_on_conj hk1 HX.out.2, hA3, Option.bind_some]
          have HD5 : Hid (D conj (sl ws k k3) (nd { kind := s } (l2 t t3))) := by
            show D _ _ _
            rw [sl_app ws (show k ≤ k1 by omega) (show k1 ≤ k3 by omega), sl_cons hk1 (by omega), HX.out.1]
            exact .jAnd (by simpa using HX.out.2) HD.out hD3
          clear hA3 hD3 HD hA1 hR hR3
          go_wp2_with fail
          go_roundg (ws.length - k5 + 1)
          case measure => omega
          case rel => exact ⟨k3, k5, _, _, _, s5, rfl, hl5, by omega, rfl, rfl, HD5, HR5.out, HA5, HS5, hP5, hK4.trans hK5⟩
        · have hb' := BadP.of hK hb
          obtain ⟨b, rfl, h1, h2, h3⟩ := hb'
          have HA : Hid (ans (P conj) (tk ws k) = none) := by show _ = _; rw [hA1.out, chain_on_conj hk1 HX.out.2, hA3]; rfl
          clear hA1 hA3
          go_wp2
          exact ⟨rfl, .inr ⟨HA.out, b, rfl, h1, h2, h3⟩⟩
      · have HA : Hid (ans (P conj) (tk ws k) = some (tk ws k2)) := by show _ = _; rw [hA1.out, chain_end_conj hno]
        clear hA1 HS
        go_wp2_with fail
        go_ret
        exact .inl ⟨k2, _, hle, HA.out, rfl, ⟨t, HD.out, hR⟩, hP2, hK⟩
  · obtain ⟨b, rfl, h1, h2, h3⟩ := hb
    go_wp2
    exact ⟨rfl, .inr ⟨by rw [ans_conj, hA]; rfl, b, rfl, h1, h2, h3⟩⟩
end Gr
end Go.Proofs.YtfkdfplnhlnnoaaGreatDoor
end
section
namespace Go.Proofs.YtfkdfplnhlnnoaaGreatDoor
open Go.RowKit
namespace Gr
set_option linter.unusedSimpArgs false
set_option linter.unusedVariables false
open T NT PK
theorem chain_end_expr {ws : List RW} {k1 : Nat} (h : ∀ t, hd ws k1 = some t → isAdd t = false) : ans (R expr) (tk ws k1) = some (tk ws k1) := by
  cases e : tk ws k1 with
  | nil => exact ans_R_nil expr (by simp)
  | cons u r =>
    have := h u (tk_first e)
    rw [ans_Rexpr_cons, if_neg (by simpa using this)]
theorem chain_on_expr {ws : List RW} {k1 : Nat} (hk : k1 < ws.length) (h : isAdd (tok ws[k1]) = true) : ans (R expr) (tk ws k1) = (ans (P term) (tk ws (k1 + 1))).bind (ans (R expr)) := by
  rw [tk_cons hk, ans_Rexpr_cons, if_pos (by simpa using h)]
set_option maxRecDepth 10000 in
set_option maxHeartbeats 1000000 in
theorem p_chain_expr (Pb : Nat) (ws : List RW) (k b1 b2 S cap : Nat) (W : World) (hP : PS Pb ws k W) (hS : SignsAt Pb b1 b2 S cap [[43], [45]] W) (hq : RdsE Pb ws 176 term k) :
    Calls Tryz.prog 175 #[.func (.func 176) #[.pointer (some ⟨Pb, 0, none⟩)] #[], .func (.func 179) #[] #[.pointer (some ⟨b1, 0, none⟩), .pointer (some ⟨b2, 0, none⟩)], .func (.func 177) #[] #[]] W (Got Pb ws k (ans (P expr) (tk ws k)) (PartE ws expr k) W) := by
  have hok := hP.ok
  go_enter Tryz.func175, Tryz.ntmps175
  go_wp2_with fail
  refine (hq k W (Nat.le_refl _) hP).mono ?_
  rintro e w1 (⟨k1, x, hle, hA, rfl, ⟨t, hD, hR⟩, hP1, hK1⟩ | ⟨hA, hb⟩)
  · obtain ⟨n, y, rfl⟩ := (hR 0 0 W).iface
    have hA1 : Hid (ans (P expr) (tk ws k) = ans (R expr) (tk ws k1)) := by show _ = _; rw [ans_expr, hA, Option.bind_some]
    clear hA
    go_wp2_with fail
    refine (p_signs1 Pb ws k1 b1 b2 S cap _ _ hP1 (hS.keep hK1) (by simp)).mono ?_
    rintro e w2 hT
    obtain ⟨k2, s, rfl, hs, hP2, hK2⟩ := sg_of isAdd (by decide) (by decide) (by decide) (by decide) (by decide) hok hT
    clear hT
    have HS : Hid (Sg ws isAdd k1 k2 s) := hs
    clear hs
    have HD : Hid (D expr (sl ws k k1) t) := .eTerm hD
    clear hD
    have hlen2 := hP2.le
    go_wp2_with fail
    go_loopg [7, 8] (ws.length - k2 + 1) (fun gk lv sv wr => ∃ (k1 k2 : Nat) (t : Tr) (n : Nat) (y : Value) (s : Bg.Str), gk = ws.length - k2 + 1 ∧ k2 ≤ ws.length ∧ k ≤ k1 ∧ lv = .iface n y ∧ sv = .string ⟨s.toArray⟩ ∧ Hid (D expr (sl ws k k1) t) ∧ RepE (.iface n y) t ∧ Hid (ans (P expr) (tk ws k) = ans (R expr) (tk ws k1)) ∧ Hid (Sg ws isAdd k1 k2 s) ∧ PS Pb ws k2 wr ∧ Keep Pb W wr)
    case atStart => exact ⟨k1, k2, t, n, y, s, rfl, hlen2, hle, rfl, rfl, HD, hR, hA1, HS, hP2, hK1.trans hK2⟩
    case round =>
      obtain ⟨k1, k2, t, n, y, s, rfl, hl2, hle, rfl, rfl, HD, hR, hA1, HS, hP2, hK⟩ := hrel
      rcases HS.out with ⟨hk1, hp, rfl, hs, hne⟩ | ⟨hno, rfl, rfl⟩
      · have hne' : (s == []) = false := by simpa using hne
        have HX : Hid (s = (ws[k1]).text ∧ isAdd (tok ws[k1]) = true) := ⟨hs, hp⟩
        have HN : Hid (s ≠ []) := hne
        clear HS hs hp hne
        go_wp2_with fail
        refine (hq (k1 + 1) wr (by omega) hP2).mono ?_
        rintro e w3 (⟨k3, x, hle3, hA3, rfl, ⟨t3, hD3, hR3⟩, hP3, hK3⟩ | ⟨hA3, hb⟩)
        · obtain ⟨n3, y3, rfl⟩ := (hR3 0 0 W).iface
          have hfar := ans_far hA3
          go_wp2_with fail
          refine (p_arith n n3 y y3 s _).mono ?_
          rintro e w4 ⟨rfl, hB4⟩
          have hP4 := hP3.keep hB4
          have hK4 := (hK.trans hK3).trans (Keep.of Pb hB4)
          go_wp2_with fail
          refine (p_signs1 Pb ws k3 b1 b2 S cap _ _ hP4 (hS.keep hK4) (by simp)).mono ?_
          rintro e w5 hT
          obtain ⟨k5, s5, rfl, hs5, hP5, hK5⟩ := sg_of isAdd (by decide) (by decide) (by decide) (by decide) (by decide) hok hT
          clear hT
          have HS5 : Hid (Sg ws isAdd k3 k5 s5) := hs5
          have hk5 : k3 ≤ k5 := by rcases hs5 with ⟨_, _, h, _⟩ | ⟨_, h, _⟩ <;> omega
          clear hs5
          have hl5 := hP5.le
          have HR5 : Hid (RepE (.iface 307 (.agg #[.iface n y, .string ⟨s.toArray⟩, .iface n3 y3])) (nd { kind := s } (l2 t t3))) :=
            fun _ _ _ => Rep.arith (by rw [HX.out.1]; exact text_in (p := isAdd) (hok _ (List.getElem_mem hk1)) HX.out.2 (by decide) (by decide) (by decide) (by decide)) (hR _ _ _) (hR3 _ _ _)
          have HA5 : Hid (ans (P expr) (tk ws k) = ans (R expr) (tk ws k3)) := by
            show _ = _
            rw [hA1.out, chain_on_expr hk1 HX.out.2, hA3, Option.bind_some]
          have HD5 : Hid (D expr (sl ws k k3) (nd { kind := s } (l2 t t3))) := by
            show D _ _ _
            rw [sl_app ws (show k ≤ k1 by omega) (show k1 ≤ k3 by omega), sl_cons hk1 (by omega), HX.out.1]
            exact .eMore (by simpa using HX.out.2) HD.out hD3
          clear hA3 hD3 HD hA1 hR hR3
          go_wp2_with fail
          go_roundg (ws.length - k5 + 1)
          case measure => omega
          case rel => exact ⟨k3, k5, _, _, _, s5, rfl, hl5, by omega, rfl, rfl, HD5, HR5.out, HA5, HS5, hP5, hK4.trans hK5⟩
        · have hb' := BadP.of hK hb
          obtain ⟨b, rfl, h1, h2, h3⟩ := hb'
          have HA : Hid (ans (P expr) (tk ws k) = none) := by show _ = _; rw [hA1.out, chain_on_expr hk1 HX.out.2, hA3]; rfl
          clear hA1 hA3
          go_wp2
          exact ⟨rfl, .inr ⟨HA.out, b, rfl, h1, h2, h3⟩⟩
      · have HA : Hid (ans (P expr) (tk ws k) = some (tk ws k2)) := by show _ = _; rw [hA1.out, chain_end_expr hno]
        clear hA1 HS
        go_wp2_with fail
        go_ret
        exact .inl ⟨k2, _, hle, HA.out, rfl, ⟨t, HD.out, hR⟩, hP2, hK⟩
  · obtain ⟨b, rfl, h1, h2, h3⟩ := hb
    go_wp2
    exact ⟨rfl, .inr ⟨by rw [ans_expr, hA]; rfl, b, rfl, h1, h2, h3⟩⟩
theorem chain_end_term {ws : List RW} {k1 : Nat} (h : ∀ t, hd ws k1 = some t → isMul t = false) : ans (R term) (tk ws k1) = some (tk ws k1) := by
  cases e : tk ws k1 with
  | nil => exact ans_R_nil term (by simp)
  | cons u r =>
    have := h u (tk_first e)
    rw [ans_Rterm_cons, if_neg (by simpa using this)]
theorem chain_on_term {ws : List RW} {k1 : Nat} (hk : k1 < ws.length) (h : isMul (tok ws[k1]) = true) : ans (R term) (tk ws k1) = (ans (P factor) (tk ws (k1 + 1))).bind (ans (R term)) := by
  rw [tk_cons hk, ans_Rterm_cons, if_pos (by simpa using h)]
set_option maxRecDepth 10000 in
set_option maxHeartbeats 1000000 in
theorem p_chain_term (Pb : Nat) (ws : List RW) (k b1 b2 S cap : Nat) (W : World) (hP : PS Pb ws k W) (hS : SignsAt Pb b1 b2 S cap [[42], [47], [37]] W) (hq : RdsE Pb ws 186 factor k) :
    Calls Tryz.prog 175 #[.func (.func 186) #[.pointer (some ⟨Pb, 0, none⟩)] #[], .func (.func 179) #[] #[.pointer (some ⟨b1, 0, none⟩), .pointer (some ⟨b2, 0, none⟩)], .func (.func 177) #[] #[]] W (Got Pb ws k (ans (P term) (tk ws k)) (PartE ws term k) W) := by
  have hok := hP.ok
  go_enter Tryz.func175, Tryz.ntmps175
  go_wp2_with fail
  refine (hq k W (Nat.le_refl _) hP).mono ?_
  rintro e w1 (⟨k1, x, hle, hA, rfl, ⟨t, hD, hR⟩, hP1, hK1⟩ | ⟨hA, hb⟩)
  · obtain ⟨n, y, rfl⟩ := (hR 0 0 W).iface
    have hA1 : Hid (ans (P term) (tk ws k) = ans (R term) (tk ws k1)) := by show _ = _; rw [ans_term, hA, Option.bind_some]
    clear hA
    go_wp2_with fail
    refine (p_signs1 Pb ws k1 b1 b2 S cap _ _ hP1 (hS.keep hK1) (by simp)).mono ?_
    rintro e w2 hT
    obtain ⟨k2, s, rfl, hs, hP2, hK2⟩ := sg_of isMul (by decide) (by decide) (by decide) (by decide) (by decide) hok hT
    clear hT
    have HS : Hid (Sg ws isMul k1 k2 s) := hs
    clear hs
    have HD : Hid (D term (sl ws k k1) t) := .mFac hD
    clear hD
    have hlen2 := hP2.le
    go_wp2_with fail
    go_loopg [7, 8] (ws.length - k2 + 1) (fun gk lv sv wr => ∃ (k1 k2 : Nat) (t : Tr) (n : Nat) (y : Value) (s : Bg.Str), gk = ws.length - k2 + 1 ∧ k2 ≤ ws.length ∧ k ≤ k1 ∧ lv = .iface n y ∧ sv = .string ⟨s.toArray⟩ ∧ Hid (D term (sl ws k k1) t) ∧ RepE (.iface n y) t ∧ Hid (ans (P term) (tk ws k) = ans (R term) (tk ws k1)) ∧ Hid (Sg ws isMul k1 k2 s) ∧ PS Pb ws k2 wr ∧ Keep Pb W wr)
    case atStart => exact ⟨k1, k2, t, n, y, s, rfl, hlen2, hle, rfl, rfl, HD, hR, hA1, HS, hP2, hK1.trans hK2⟩
    case round =>
      obtain ⟨k1, k2, t, n, y, s, rfl, hl2, hle, rfl, rfl, HD, hR, hA1, HS, hP2, hK⟩ := hrel
      rcases HS.out with ⟨hk1, hp, rfl, hs, hne⟩ | ⟨hno, rfl, rfl⟩
      · have hne' : (s == []) = false := by simpa using hne
        have HX : Hid (s = (ws[k1]).text ∧ isMul (tok ws[k1]) = true) := ⟨hs, hp⟩
        have HN : Hid (s ≠ []) := hne
        clear HS hs hp hne
        go_wp2_with fail
        refine (hq (k1 + 1) wr (by omega) hP2).mono ?_
        rintro e w3 (⟨k3, x, hle3, hA3, rfl, ⟨t3, hD3, hR3⟩, hP3, hK3⟩ | ⟨hA3, hb⟩)
        · obtain ⟨n3, y3, rfl⟩ := (hR3 0 0 W).iface
          have hfar := ans_far hA3
          go_wp2_with fail
          refine (p_arith n n3 y y3 s _).mono ?_
          rintro e w4 ⟨rfl, hB4⟩
          have hP4 := hP3.keep hB4
          have hK4 := (hK.trans hK3).trans (Keep.of Pb hB4)
          go_wp2_with fail
          refine (p_signs1 Pb ws k3 b1 b2 S cap _ _ hP4 (hS.keep hK4) (by simp)).mono ?_
          rintro e w5 hT
          obtain ⟨k5, s5, rfl, hs5, hP5, hK5⟩ := sg_of isMul (by decide) (by decide) (by decide) (by decide) (by decide) hok hT
          clear hT
          have HS5 : Hid (Sg ws isMul k3 k5 s5) := hs5
          have hk5 : k3 ≤ k5 := by rcases hs5 with ⟨_, _, h, _⟩ | ⟨_, h, _⟩ <;> omega
          clear hs5
          have hl5 := hP5.le
          have HR5 : Hid (RepE (.iface 307 (.agg #[.iface n y, .string ⟨s.toArray⟩, .iface n3 y3])) (nd { kind := s } (l2 t t3))) :=
            fun _ _ _ => Rep.arith (by rw [HX.out.1]; exact text_in (p := isMul) (hok _ (List.getElem_mem hk1)) HX.out.2 (by decide) (by decide) (by decide) (by decide)) (hR _ _ _) (hR3 _ _ _)
          have HA5 : Hid (ans (P term) (tk ws k) = ans (R term) (tk ws k3)) := by
            show _ = _
            rw [hA1.out, chain_on_term hk1 HX.out.2, hA3, Option.bind_some]
          have HD5 : Hid (D term (sl ws k k3) (nd { kind := s } (l2 t t3))) := by
            show D _ _ _
            rw [sl_app ws (show k ≤ k1 by omega) (show k1 ≤ k3 by omega), sl_cons hk1 (by omega), HX.out.1]
            exact .mMore (by simpa using HX.out.2) HD.out hD3
          clear hA3 hD3 HD hA1 hR hR3
          go_wp2_with fail
          go_roundg (ws.length - k5 + 1)
          case measure => omega
          case rel => exact ⟨k3, k5, _, _, _, s5, rfl, hl5, by omega, rfl, rfl, HD5, HR5.out, HA5, HS5, hP5, hK4.trans hK5⟩
        · have hb' := BadP.of hK hb
          obtain ⟨b, rfl, h1, h2, h3⟩ := hb'
          have HA : Hid (ans (P term) (tk ws k) = none) := by show _ = _; rw [hA1.out, chain_on_term hk1 HX.out.2, hA3]; rfl
          clear hA1 hA3
          go_wp2
          exact ⟨rfl, .inr ⟨HA.out, b, rfl, h1, h2, h3⟩⟩
      · have HA : Hid (ans (P term) (tk ws k) = some (tk ws k2)) := by show _ = _; rw [hA1.out, chain_end_term hno]
        clear hA1 HS
        go_wp2_with fail
        go_ret
        exact .inl ⟨k2, _, hle, HA.out, rfl, ⟨t, HD.out, hR⟩, hP2, hK⟩
  · obtain ⟨b, rfl, h1, h2, h3⟩ := hb
    go_wp2
    exact ⟨rfl, .inr ⟨by rw [ans_term, hA]; rfl, b, rfl, h1, h2, h3⟩⟩
end Gr
end Go.Proofs.YtfkdfplnhlnnoaaGreatDoor
end
