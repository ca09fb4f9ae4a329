import Derived.Test.YtfkdfplnhlnnoaaGreatDoorBgJa18
section
namespace Go.Proofs.YtfkdfplnhlnnoaaGreatDoor
open Go.RowKit
namespace Gr
set_option linter.unusedSimpArgs false
set_option linter.unusedVariables false
open T NT PK
theorem txsL (W : World) (ss : List Bg.Str) : Txs (W.alloc (.cells (ss.map strV).toArray 9)) W.heap.size ss := fun k hk => by
  have h3 := heap_alloc_new W (.cells (ss.map strV).toArray 9)
  simp only [World.cell?, h3]
  simp [strV, hk]
theorem Got.after {Pb : Nat} {ws : List RW} {k : Nat} {A : Option (List T)} {Q : Nat → Value → World → Prop} {W w e w'} (hK : Keep Pb W w) (h : Got Pb ws k A Q w e w') : Got Pb ws k A Q W e w' := by
  rcases h with ⟨k', x, h1, h2, h3, h4, h5, h6⟩ | ⟨h1, h2⟩
  · exact .inl ⟨k', x, h1, h2, h3, h4, h5, hK.trans h6⟩
  · exact .inr ⟨h1, BadP.of hK h2⟩
set_option maxRecDepth 10000 in
set_option maxHeartbeats 1000000 in
theorem p_cnd (Pb : Nat) (ws : List RW) (k : Nat) (W : World) (hP : PS Pb ws k W) (hq : Rds Pb ws 162 conj k) :
    Calls Tryz.prog 141 #[.pointer (some ⟨Pb, 0, none⟩)] W (Got Pb ws k (ans (P cnd) (tk ws k)) (Part Pb ws cnd k W.heap.size) W) := by
  have hlt : Pb < W.heap.size := by obtain ⟨_, _, h1, _⟩ := hP.obj; exact (Array.getElem?_eq_some_iff.1 h1).1
  go_enter Tryz.func141, Tryz.ntmps141
  go_wp2_with fail
  refine (p_signs Pb W.heap.size 1 [[111, 114]] _ (txsL W [[111, 114]]) (by simp; omega) (by omega)).mono ?_
  rintro e w1 ⟨b1, b2, rfl, hS, hB⟩
  have hP1 := (hP.keep (wsum _)).keep hB
  have hK1 : Keep Pb W w1 := (Keep.alloc Pb _ _).trans (Keep.of Pb hB)
  go_wp2_with fail
  refine (p_chain_cnd Pb ws k b1 b2 W.heap.size 1 _ hP1 hS hq).mono ?_
  intro e w2 h
  rcases h.after hK1 with ⟨k', x, hle, hA, rfl, ⟨t, hD, hR⟩, hP2, hK2⟩ | ⟨hA, b, rfl, h1, h2, h3⟩
  · obtain ⟨n, y, rfl⟩ := hR.iface
    have HA : Hid (ans (P cnd) (tk ws k) = some (tk ws k')) := hA
    clear h hA
    go_wp2_with fail
    go_ret
    exact .inl ⟨k', _, hle, HA.out, rfl, ⟨t, hD, hR.low hK1.size⟩, hP2, hK2⟩
  · have HA : Hid (ans (P cnd) (tk ws k) = none) := hA
    clear h hA
    go_wp2
    exact ⟨rfl, .inr ⟨HA.out, b, rfl, h1, h2, h3⟩⟩
set_option maxRecDepth 10000 in
set_option maxHeartbeats 1000000 in
theorem p_conj (Pb : Nat) (ws : List RW) (k : Nat) (W : World) (hP : PS Pb ws k W) (hq : Rds Pb ws 178 neg k) :
    Calls Tryz.prog 162 #[.pointer (some ⟨Pb, 0, none⟩)] W (Got Pb ws k (ans (P conj) (tk ws k)) (Part Pb ws conj k W.heap.size) W) := by
  have hlt : Pb < W.heap.size := by obtain ⟨_, _, h1, _⟩ := hP.obj; exact (Array.getElem?_eq_some_iff.1 h1).1
  go_enter Tryz.func162, Tryz.ntmps162
  go_wp2_with fail
  refine (p_signs Pb W.heap.size 1 [[97, 110, 100]] _ (txsL W [[97, 110, 100]]) (by simp; omega) (by omega)).mono ?_
  rintro e w1 ⟨b1, b2, rfl, hS, hB⟩
  have hP1 := (hP.keep (wsum _)).keep hB
  have hK1 : Keep Pb W w1 := (Keep.alloc Pb _ _).trans (Keep.of Pb hB)
  go_wp2_with fail
  refine (p_chain_conj Pb ws k b1 b2 W.heap.size 1 _ hP1 hS hq).mono ?_
  intro e w2 h
  rcases h.after hK1 with ⟨k', x, hle, hA, rfl, ⟨t, hD, hR⟩, hP2, hK2⟩ | ⟨hA, b, rfl, h1, h2, h3⟩
  · obtain ⟨n, y, rfl⟩ := hR.iface
    have HA : Hid (ans (P conj) (tk ws k) = some (tk ws k')) := hA
    clear h hA
    go_wp2_with fail
    go_ret
    exact .inl ⟨k', _, hle, HA.out, rfl, ⟨t, hD, hR.low hK1.size⟩, hP2, hK2⟩
  · have HA : Hid (ans (P conj) (tk ws k) = none) := hA
    clear h hA
    go_wp2
    exact ⟨rfl, .inr ⟨HA.out, b, rfl, h1, h2, h3⟩⟩
set_option maxRecDepth 10000 in
set_option maxHeartbeats 1000000 in
theorem p_expr (Pb : Nat) (ws : List RW) (k : Nat) (W : World) (hP : PS Pb ws k W) (hq : RdsE Pb ws 176 term k) :
    Calls Tryz.prog 158 #[.pointer (some ⟨Pb, 0, none⟩)] W (Got Pb ws k (ans (P expr) (tk ws k)) (PartE ws expr k) W) := by
  have hlt : Pb < W.heap.size := by obtain ⟨_, _, h1, _⟩ := hP.obj; exact (Array.getElem?_eq_some_iff.1 h1).1
  go_enter Tryz.func158, Tryz.ntmps158
  go_wp2_with fail
  refine (p_signs Pb W.heap.size 2 [[43], [45]] _ (txsL W [[43], [45]]) (by simp; omega) (by omega)).mono ?_
  rintro e w1 ⟨b1, b2, rfl, hS, hB⟩
  have hP1 := (hP.keep (wsum _)).keep hB
  have hK1 : Keep Pb W w1 := (Keep.alloc Pb _ _).trans (Keep.of Pb hB)
  go_wp2_with fail
  refine (p_chain_expr Pb ws k b1 b2 W.heap.size 2 _ hP1 hS hq).mono ?_
  intro e w2 h
  rcases h.after hK1 with ⟨k', x, hle, hA, rfl, ⟨t, hD, hR⟩, hP2, hK2⟩ | ⟨hA, b, rfl, h1, h2, h3⟩
  · obtain ⟨n, y, rfl⟩ := (hR 0 0 W).iface
    have HA : Hid (ans (P expr) (tk ws k) = some (tk ws k')) := hA
    clear h hA
    go_wp2_with fail
    go_ret
    exact .inl ⟨k', _, hle, HA.out, rfl, ⟨t, hD, hR⟩, hP2, hK2⟩
  · have HA : Hid (ans (P expr) (tk ws k) = none) := hA
    clear h hA
    go_wp2
    exact ⟨rfl, .inr ⟨HA.out, b, rfl, h1, h2, h3⟩⟩
set_option maxRecDepth 10000 in
set_option maxHeartbeats 1000000 in
theorem p_term (Pb : Nat) (ws : List RW) (k : Nat) (W : World) (hP : PS Pb ws k W) (hq : RdsE Pb ws 186 factor k) :
    Calls Tryz.prog 176 #[.pointer (some ⟨Pb, 0, none⟩)] W (Got Pb ws k (ans (P term) (tk ws k)) (PartE ws term k) W) := by
  have hlt : Pb < W.heap.size := by obtain ⟨_, _, h1, _⟩ := hP.obj; exact (Array.getElem?_eq_some_iff.1 h1).1
  go_enter Tryz.func176, Tryz.ntmps176
  go_wp2_with fail
  refine (p_signs Pb W.heap.size 3 [[42], [47], [37]] _ (txsL W [[42], [47], [37]]) (by simp; omega) (by omega)).mono ?_
  rintro e w1 ⟨b1, b2, rfl, hS, hB⟩
  have hP1 := (hP.keep (wsum _)).keep hB
  have hK1 : Keep Pb W w1 := (Keep.alloc Pb _ _).trans (Keep.of Pb hB)
  go_wp2_with fail
  refine (p_chain_term Pb ws k b1 b2 W.heap.size 3 _ hP1 hS hq).mono ?_
  intro e w2 h
  rcases h.after hK1 with ⟨k', x, hle, hA, rfl, ⟨t, hD, hR⟩, hP2, hK2⟩ | ⟨hA, b, rfl, h1, h2, h3⟩
  · obtain ⟨n, y, rfl⟩ := (hR 0 0 W).iface
    have HA : Hid (ans (P term) (tk ws k) = some (tk ws k')) := hA
    clear h hA
    go_wp2_with fail
    go_ret
    exact .inl ⟨k', _, hle, HA.out, rfl, ⟨t, hD, hR⟩, hP2, hK2⟩
  · have HA : Hid (ans (P term) (tk ws k) = none) := hA
    clear h hA
    go_wp2
    exact ⟨rfl, .inr ⟨HA.out, b, rfl, h1, h2, h3⟩⟩
end Gr
end Go.Proofs.YtfkdfplnhlnnoaaGreatDoor
end
section
namespace Go.Proofs.YtfkdfplnhlnnoaaGreatDoor
open Go.RowKit
namespace Gr
set_option linter.unusedSimpArgs false
set_option linter.unusedVariables false
open T NT PK
/-- how two queries are put together, if there are two -/
def SgQ (ws : List RW) (k1 k2 : Nat) (s : Bg.Str) : Prop :=
  (∃ (h : k1 < ws.length) (b : Bool), isSet (tok ws[k1]) = true ∧ s = (ws[k1]).text ++ allP b ∧ s ≠ [] ∧ (ws[k1]).text ∈ sets3 ∧ (b = true ∧ hd ws (k1 + 1) = some all_ ∧ k2 = k1 + 2 ∨ b = false ∧ hd ws (k1 + 1) ≠ some all_ ∧ k2 = k1 + 1)) ∨ ((∀ t, hd ws k1 = some t → isSet t = false) ∧ k2 = k1 ∧ s = [])
set_option maxRecDepth 10000 in
set_option maxHeartbeats 1000000 in
theorem p_howJoined (Pb : Nat) (ws : List RW) (k : Nat) (W : World) (hP : PS Pb ws k W) :
    Calls Tryz.prog 77 #[.pointer (some ⟨Pb, 0, none⟩)] W fun e w' => ∃ k2 s, e = .returned (.string ⟨s.toArray⟩) ∧ SgQ ws k k2 s ∧ PS Pb ws k2 w' ∧ Keep Pb W w' := by
  have hok := hP.ok
  go_enter Tryz.func77, Tryz.ntmps77
  go_wp2_with fail
  refine (p_takeOne Pb ws k W.heap.size 3 sets3 _ (hP.keep (wsum _)) (txsL W sets3) (by decide)).mono ?_
  intro e w1 hT
  obtain ⟨k2, s, rfl, hs, hP1, hK1⟩ := sg_of isSet (by decide) (by decide) (by decide) (by decide) (by decide) hok hT
  clear hT
  have hK1 : Keep Pb W w1 := (Keep.alloc Pb _ _).trans hK1
  rcases hs with ⟨hk, hp, rfl, hs, hne⟩ | ⟨hno, rfl, rfl⟩
  · have hin : (ws[k]).text ∈ sets3 := text_in (p := isSet) (hok _ (List.getElem_mem hk)) hp (by decide) (by decide) (by decide) (by decide)
    have HX : Hid (isSet (tok ws[k]) = true ∧ s = (ws[k]).text ∧ (ws[k]).text ∈ sets3) := ⟨hp, hs, hin⟩
    rw [← hs] at hin
    clear hs hp hne
    simp only [sets3, List.mem_cons, List.not_mem_nil, or_false] at hin
    rcases hin with rfl | rfl | rfl <;>
     (go_wp2_with fail
      refine (p_take Pb ws (k + 1) [97, 108, 108] _ hP1 (by decide)).mono ?_
      rintro e w2 ⟨hK2, ⟨hf, hk2, rfl, hP2⟩ | ⟨hf, rfl, hP2⟩⟩
      · rw [fx1 (t := all_) (by decide) hok, decide_eq_true_eq] at hf
        go_wp2_with fail
        go_ret
        exact ⟨k + 2, _, rfl, .inl ⟨hk, true, HX.out.1, by rw [← HX.out.2.1]; rfl, by simp, HX.out.2.2, .inl ⟨rfl, hf, rfl⟩⟩, hP2, hK1.trans hK2⟩
      · rw [fx1 (t := all_) (by decide) hok, decide_eq_false_iff_not] at hf
        go_wp2_with fail
        go_ret
        exact ⟨k + 1, _, rfl, .inl ⟨hk, false, HX.out.1, by rw [← HX.out.2.1]; rfl, by simp, HX.out.2.2, .inr ⟨rfl, hf, rfl⟩⟩, hP2, hK1.trans hK2⟩)
  · go_wp2_with fail
    go_ret
    exact ⟨k2, [], rfl, .inr ⟨hno, rfl, rfl⟩, hP1, hK1⟩
set_option maxRecDepth 10000 in
set_option maxHeartbeats 1000000 in
theorem p_query1 (n1 n2 : Nat) (y1 y2 : Value) (s : Bg.Str) (W : World) :
    Calls Tryz.prog 78 #[.agg #[.iface n1 y1, .string ⟨s.toArray⟩, .iface n2 y2]] W fun e w' => e = .returned (.iface 171 (.agg #[.iface n1 y1, .string ⟨s.toArray⟩, .iface n2 y2])) ∧ Below W.heap.size W w' := by
  go_enter Tryz.func78, Tryz.ntmps78
  go_wp2_with fail
  go_ret
  exact ⟨rfl, wsum _⟩
theorem chain_end_query {ws : List RW} {k1 : Nat} (h : ∀ t, hd ws k1 = some t → isSet t = false) : ans (R query) (tk ws k1) = some (tk ws k1) := by
  cases e : tk ws k1 with
  | nil => exact ans_R_nil query (by simp)
  | cons u r =>
    have := h u (tk_first e)
    rw [ans_Rquery_cons, if_neg (by simp [this])]
theorem skip_yes {ws : List RW} {k : Nat} {t : T} (h : hd ws k = some t) : skip t (tk ws k) = tk ws (k + 1) := by
  rw [tk_hd h, skip, if_pos rfl]
theorem skip_no {ws : List RW} {k : Nat} {t : T} (h : hd ws k ≠ some t) : skip t (tk ws k) = tk ws k := by
  cases e : tk ws k with
  | nil => rfl
  | cons u r => rw [skip, if_neg (fun hu => h (by rw [tk_first e, hu]))]
theorem chain_on_query {ws : List RW} {k1 k2 : Nat} (hk : k1 < ws.length) {b : Bool} (h : isSet (tok ws[k1]) = true) (hb : b = true ∧ hd ws (k1 + 1) = some all_ ∧ k2 = k1 + 2 ∨ b = false ∧ hd ws (k1 + 1) ≠ some all_ ∧ k2 = k1 + 1) : ans (R query) (tk ws k1) = (ans (P core) (tk ws k2)).bind (ans (R query)) := by
  rw [tk_cons hk, ans_Rquery_cons, if_pos h]
  rcases hb with ⟨_, h1, rfl⟩ | ⟨_, h1, rfl⟩
  · rw [skip_yes h1]
  · rw [skip_no h1]
set_option maxRecDepth 10000 in
set_option maxHeartbeats 1000000 in
theorem p_chain_query (Pb : Nat) (ws : List RW) (k : Nat) (W : World) (hP : PS Pb ws k W) (hq : Rds Pb ws 76 core k) :
    Calls Tryz.prog 75 #[.func (.func 76) #[.pointer (some ⟨Pb, 0, none⟩)] #[], .func (.func 77) #[.pointer (some ⟨Pb, 0, none⟩)] #[], .func (.func 78) #[] #[]] W (Got Pb ws k (ans (P query) (tk ws k)) (Part Pb ws query k W.heap.size) W) := by
  have hok := hP.ok
  go_enter Tryz.func75, Tryz.ntmps75
  go_wp2_with fail
  refine (hq k W (Nat.le_refl _) hP).mono ?_
  rintro e w1 (⟨k1, x, hle, hA, rfl, ⟨t, hD, hR⟩, hP1, hK1⟩ | ⟨hA, hb⟩)
  · obtain ⟨n, y, rfl⟩ := hR.iface
    have hA1 : Hid (ans (P query) (tk ws k) = ans (R query) (tk ws k1)) := by show _ = _; rw [ans_query, hA, Option.bind_some]
    clear hA
    go_wp2_with fail
    refine (p_howJoined Pb ws k1 _ hP1).mono ?_
    rintro e w2 ⟨k2, s, rfl, hs, hP2, hK2⟩
    have HS : Hid (SgQ ws k1 k2 s) := hs
    clear hs
    have HD : Hid (D query (sl ws k k1) t) := .qCore hD
    clear hD
    have hlen2 := hP2.le
    go_wp2_with fail
    go_loopg [7, 8] (ws.length - k2 + 1) (fun gk lv sv wr => ∃ (k1 k2 : Nat) (t : Tr) (n : Nat) (y : Value) (s : Bg.Str), gk = ws.length - k2 + 1 ∧ k2 ≤ ws.length ∧ k ≤ k1 ∧ lv = .iface n y ∧ sv = .string ⟨s.toArray⟩ ∧ Hid (D query (sl ws k k1) t) ∧ Rep Pb W.heap.size wr (.v (.iface n y)) t ∧ Hid (ans (P query) (tk ws k) = ans (R query) (tk ws k1)) ∧ Hid (SgQ ws k1 k2 s) ∧ PS Pb ws k2 wr ∧ Keep Pb W wr)
    case atStart => exact ⟨k1, k2, t, n, y, s, rfl, hlen2, hle, rfl, rfl, HD, hR.keep hK2, hA1, HS, hP2, hK1.trans hK2⟩
    case round =>
      obtain ⟨k1, k2, t, n, y, s, rfl, hl2, hle, rfl, rfl, HD, hR, hA1, HS, hP2, hK⟩ := hrel
      rcases HS.out with ⟨hk1, b, hp, hs, hne, hin, hb⟩ | ⟨hno, rfl, rfl⟩
      · have hne' : (s == []) = false := by simpa using hne
        have HX : Hid (s = (ws[k1]).text ++ allP b ∧ isSet (tok ws[k1]) = true ∧ (ws[k1]).text ∈ sets3) := ⟨hs, hp, hin⟩
        have HB : Hid (b = true ∧ hd ws (k1 + 1) = some all_ ∧ k2 = k1 + 2 ∨ b = false ∧ hd ws (k1 + 1) ≠ some all_ ∧ k2 = k1 + 1) := hb
        have hk12 : k1 + 1 ≤ k2 := by rcases hb with ⟨_, _, h⟩ | ⟨_, _, h⟩ <;> omega
        clear HS hs hp hne hin hb
        go_wp2_with fail
        refine (hq k2 wr (by omega) hP2).mono ?_
        rintro e w3 (⟨k3, x, hle3, hA3, rfl, ⟨t3, hD3, hR3⟩, hP3, hK3⟩ | ⟨hA3, hbad⟩)
        · obtain ⟨n3, y3, rfl⟩ := hR3.iface
          have hfar := ans_far hA3
          go_wp2_with fail
          refine (p_query1 n n3 y y3 s _).mono ?_
          rintro e w4 ⟨rfl, hB4⟩
          have hP4 := hP3.keep hB4
          have hK4 := (hK.trans hK3).trans (Keep.of Pb hB4)
          go_wp2_with fail
          refine (p_howJoined Pb ws k3 _ hP4).mono ?_
          rintro e w5 ⟨k5, s5, rfl, hs5, hP5, hK5⟩
          have HS5 : Hid (SgQ ws k3 k5 s5) := hs5
          have hk5 : k3 ≤ k5 := by
            rcases hs5 with ⟨_, _, _, _, _, _, ⟨_, _, h⟩ | ⟨_, _, h⟩⟩ | ⟨_, h, _⟩ <;> omega
          clear hs5
          have hl5 := hP5.le
          have HR5 : Hid (Rep Pb W.heap.size w5 (.v (.iface 171 (.agg #[.iface n y, .string ⟨s.toArray⟩, .iface n3 y3]))) (nd { kind := (ws[k1]).text, all := b } (l2 t t3))) := by
            show Rep _ _ _ _ _
            rw [HX.out.1]
            exact Rep.joined HX.out.2.2 (hR.keep ((hK3.trans (Keep.of Pb hB4)).trans hK5)) ((hR3.low hK.size).keep ((Keep.of Pb hB4).trans hK5))
          have HA5 : Hid (ans (P query) (tk ws k) = ans (R query) (tk ws k3)) := by
            show _ = _
            rw [hA1.out, chain_on_query hk1 HX.out.2.1 HB.out, hA3, Option.bind_some]
          have HD5 : Hid (D query (sl ws k k3) (nd { kind := (ws[k1]).text, all := b } (l2 t t3))) := by
            show D _ _ _
            rw [sl_app ws (show k ≤ k1 by omega) (show k1 ≤ k3 by omega), sl_cons hk1 (by omega)]
            rcases HB.out with ⟨rfl, h1, rfl⟩ | ⟨rfl, h1, rfl⟩
            · have hl1 := hd_lt h1
              rw [sl_cons hl1 (by omega)]
              exact .qJoinAll HX.out.2.1 (hd_tok h1 hl1) HD.out hD3
            · exact .qJoin HX.out.2.1 HD.out hD3
          clear hA3 hD3 HD hA1 hR hR3
          go_wp2_with fail
          go_roundg (ws.length - k5 + 1)
          case measure => omega
          case rel => exact ⟨k3, k5, _, _, _, s5, rfl, hl5, by omega, rfl, rfl, HD5, HR5.out, HA5, HS5, hP5, hK4.trans hK5⟩
        · have hb' := BadP.of hK hbad
          obtain ⟨b, rfl, h1, h2, h3⟩ := hb'
          have HA : Hid (ans (P query) (tk ws k) = none) := by show _ = _; rw [hA1.out, chain_on_query hk1 HX.out.2.1 HB.out, hA3]; rfl
          clear hA1 hA3
          go_wp2
          exact ⟨rfl, .inr ⟨HA.out, b, rfl, h1, h2, h3⟩⟩
      · have HA : Hid (ans (P query) (tk ws k) = some (tk ws k2)) := by show _ = _; rw [hA1.out, chain_end_query hno]
        clear hA1 HS
        go_wp2_with fail
        go_ret
        exact .inl ⟨k2, _, hle, HA.out, rfl, ⟨t, HD.out, hR⟩, hP2, hK⟩
  · obtain ⟨b, rfl, h1, h2, h3⟩ := hb
    go_wp2
    exact ⟨rfl, .inr ⟨by rw [ans_query, hA]; rfl, b, rfl, h1, h2, h3⟩⟩
set_option maxRecDepth 10000 in
set_option maxHeartbeats 1000000 in
theorem p_query (Pb : Nat) (ws : List RW) (k : Nat) (W : World) (hP : PS Pb ws k W) (hq : Rds Pb ws 76 core k) :
    Calls Tryz.prog 59 #[.pointer (some ⟨Pb, 0, none⟩)] W (Got Pb ws k (ans (P query) (tk ws k)) (Part Pb ws query k W.heap.size) W) := by
  have hmf : ∀ (fn : Fn) (first cap : Array Value) (w : World), (Instr.makeFunc fn first cap).run Tryz.prog w = .ok (.func fn first cap) w := fun _ _ _ _ => rfl
  go_enter Tryz.func59, Tryz.ntmps59
  go_wp2_with fail
  refine (p_chain_query Pb ws k _ hP hq).mono ?_
  rintro e w2 (⟨k', x, hle, hA, rfl, ⟨t, hD, hR⟩, hP2, hK2⟩ | ⟨hA, b, rfl, h1, h2, h3⟩)
  · obtain ⟨n, y, rfl⟩ := hR.iface
    have HA : Hid (ans (P query) (tk ws k) = some (tk ws k')) := hA
    clear hA
    go_wp2_with fail
    go_ret
    exact .inl ⟨k', _, hle, HA.out, rfl, ⟨t, hD, hR⟩, hP2, hK2⟩
  · have HA : Hid (ans (P query) (tk ws k) = none) := hA
    clear hA
    go_wp2
    exact ⟨rfl, .inr ⟨HA.out, b, rfl, h1, h2, h3⟩⟩
end Gr
end Go.Proofs.YtfkdfplnhlnnoaaGreatDoor
end
section
namespace Go.Proofs.YtfkdfplnhlnnoaaGreatDoor
open Go.RowKit
namespace Gr
set_option linter.unusedSimpArgs false
set_option linter.unusedVariables false
open T NT PK
/-- take, in the grammar's words -/
theorem p_takeT (Pb : Nat) (ws : List RW) (k : Nat) (s : Bg.Str) (t : T) (W : World) (hP : PS Pb ws k W) (hs : spells s t = true) :
    Calls Tryz.prog 116 #[.pointer (some ⟨Pb, 0, none⟩), .string ⟨s.toArray⟩] W fun e w' => Keep Pb W w' ∧ ((hd ws k = some t ∧ e = .returned (.bool true) ∧ PS Pb ws (k + 1) w') ∨ (hd ws k ≠ some t ∧ e = .returned (.bool false) ∧ PS Pb ws k w')) := by
  refine (p_take Pb ws k s W hP (spells_ne hs)).mono ?_
  rintro e w1 ⟨hK, ⟨hf, _, rfl, hP1⟩ | ⟨hf, rfl, hP1⟩⟩
  · rw [fx1 hs hP.ok, decide_eq_true_eq] at hf
    exact ⟨hK, .inl ⟨hf, rfl, hP1⟩⟩
  · rw [fx1 hs hP.ok, decide_eq_false_iff_not] at hf
    exact ⟨hK, .inr ⟨hf, rfl, hP1⟩⟩
/-- must, in the grammar's words -/
theorem p_mustT (Pb : Nat) (ws : List RW) (k : Nat) (s : Bg.Str) (t : T) (W : World) (hP : PS Pb ws k W) (hs : spells s t = true) :
    Calls Tryz.prog 136 #[.pointer (some ⟨Pb, 0, none⟩), .string ⟨s.toArray⟩] W fun e w' => (hd ws k = some t ∧ e = .returned (.tuple #[]) ∧ PS Pb ws (k + 1) w' ∧ Keep Pb W w') ∨ (hd ws k ≠ some t ∧ BadP Pb W e w') := by
  refine (p_must Pb ws k s W hP (spells_ne hs)).mono ?_
  rintro e w1 (⟨hf, _, rfl, hP1, hK⟩ | ⟨hf, hb⟩)
  · rw [fx1 hs hP.ok, decide_eq_true_eq] at hf
    exact .inl ⟨hf, rfl, hP1, hK⟩
  · rw [fx1 hs hP.ok, decide_eq_false_iff_not] at hf
    exact .inr ⟨hf, hb⟩
/-- one of these signs, or none -/
theorem p_takeS (Pb : Nat) (ws : List RW) (k S cap : Nat) (ss : List Bg.Str) (p : T → Bool) (W : World) (hP : PS Pb ws k W) (hT : Txs W S ss) (hl : ss.length ≤ 400) (hK : ∀ x ∈ keyToks.map Prod.fst, ss.contains x = p (keyTok x)) (hS : ∀ x ∈ signToks.map Prod.fst, ss.contains x = p (signTok x)) (hn : p name = false) (hlit : p lit = false) (h0 : ss.contains [] = false) :
    Calls Tryz.prog 115 #[.pointer (some ⟨Pb, 0, none⟩), .slice (some ⟨S, 0, none⟩) ss.length cap] W fun e w' => ∃ k2 s, e = .returned (.string ⟨s.toArray⟩) ∧ Sg ws p k k2 s ∧ PS Pb ws k2 w' ∧ Keep Pb W w' :=
  (p_takeOne Pb ws k S cap ss W hP hT hl).mono fun _ _ h => sg_of p hK hS hn hlit h0 hP.ok h
/-- a block of this function's own is written to: what else is there stays -/
theorem PS.own {Pb : Nat} {ws : List RW} {k : Nat} {W w : World} (h : PS Pb ws k w) (hK : Keep Pb W w) {b : Nat} (hb : W.heap.size ≤ b) (hPb : Pb < W.heap.size) {v0 : Value} (hc : w.cell? ⟨b, 0, none⟩ = some v0) (hv : ∀ n, v0 ≠ .int .i64 n) (o : Nat) (v : Value) : PS Pb ws k (w.setCell ⟨b, o, none⟩ v) ∧ Keep Pb W (w.setCell ⟨b, o, none⟩ v) :=
  ⟨h.other (by omega) hc hv o v, hK.setHi hb o v⟩
set_option maxRecDepth 10000 in
set_option maxHeartbeats 1000000 in
theorem p_within (Pb : Nat) (ws : List RW) (k : Nat) (W : World) (hP : PS Pb ws k W) (hq : Rds Pb ws 59 query (k + 1)) :
    Calls Tryz.prog 191 #[.pointer (some ⟨Pb, 0, none⟩)] W (Got Pb ws k (ans (round query) (tk ws k)) (fun k' x w' => ∃ n y, x = .agg #[.iface n y] ∧ PartR Pb ws query k W.heap.size k' (.iface n y) w') W) := by
  have hmf : ∀ (fn : Fn) (first cap : Array Value) (w : World), (Instr.makeFunc fn first cap).run Tryz.prog w = .ok (.func fn first cap) w := fun _ _ _ _ => rfl
  go_enter Tryz.func191, Tryz.ntmps191
  go_wp2_with fail
  refine (p_roundQ Pb ws k _ (hP.keep (wsum _)) hq).mono ?_
  rintro e w2 (⟨k', x, hle, hA, rfl, hQ, hP2, hK2⟩ | ⟨hA, b, rfl, h1, h2, h3⟩)
  · have HA : Hid (ans (round query) (tk ws k) = some (tk ws k')) := hA
    clear hA
    obtain ⟨m, t, q1, q2, q3, q4, q5, hR⟩ := hQ
    obtain ⟨n, y, rfl⟩ := hR.iface
    have hc : W.heap.size < w2.heap.size := Nat.lt_of_lt_of_le (by simp) hK2.size
    have hPb := hP.lt
    have hblk := hK2.obj (g := W.heap.size) (by omega) (heap_alloc_new W _)
    have c0 : w2.cell? ⟨W.heap.size, 0, none⟩ = some .nilIface := by simp [World.cell?, hblk]
    have f0 : w2.frozen? ⟨W.heap.size, 0, none⟩ = false := by simp [World.frozen?, hblk]
    go_wp2_with fail
    obtain ⟨hP3, hK3⟩ := hP2.own ((Keep.alloc Pb _ _).trans hK2) (Nat.le_refl _) hPb c0 (by intro n; simp) 0 (.iface n y)
    refine bodyPost_ret (v := .agg #[.iface n y]) (by simp [results, Tryz.results191, go_sem, c0]) rfl (.inl ⟨k', _, hle, HA.out, rfl, ⟨n, y, rfl, m, t, q1, q2, q3, q4, q5, ?_⟩, hP3, hK3⟩)
    exact (hR.setLo (by simp) 0 _).low (by simp)
  · have HA : Hid (ans (round query) (tk ws k) = none) := hA
    clear hA
    go_wp2
    exact ⟨rfl, .inr ⟨HA.out, b, rfl, h1, h2, (Keep.alloc Pb _ _).trans h3⟩⟩
/-- what is asked of the expression that stands from k0 on -/
def Asked (Pb : Nat) (ws : List RW) (k0 n0 k' : Nat) (x : Value) (w' : World) : Prop := ∃ t, D basic (sl ws k0 k') t ∧ Rep Pb n0 w' (.v x) t
theorem ask_how {u : T} {r : List T} (h : isHow u = true) : ans PK.ask (cmp :: u :: r) = ans (round query) r := by
  cases u <;> first | exact absurd h (by decide) | exact ans_ask_any r | exact ans_ask_all r
set_option maxRecDepth 10000 in
set_option maxHeartbeats 1000000 in
theorem p_comparison (Pb : Nat) (ws : List RW) (k0 k n0 : Nat) (W : World) (hP : PS Pb ws (k + 1) W) (n : Nat) (y : Value) (t : Tr) (hk : k < ws.length) (hc : tok ws[k] = cmp) (hD : D expr (sl ws k0 k) t) (hR : Rep Pb n0 W (.v (.iface n y)) t) (hk0 : k0 ≤ k) (hn0 : n0 ≤ W.heap.size)
    (he : Rds Pb ws 158 expr (k + 1)) (hq : Rds Pb ws 59 query (k + 1)) :
    Calls Tryz.prog 197 #[.pointer (some ⟨Pb, 0, none⟩), .iface n y, .string ⟨(ws[k]).text.toArray⟩] W (Got Pb ws k (ans PK.ask (cmp :: tk ws (k + 1))) (Asked Pb ws k0 n0) W) := by
  have hok := hP.ok
  generalize hx : (ws[k]).text = sx
  have HX : Hid ((ws[k]).text = sx) := hx
  clear hx
  have HC : Hid (tok ws[k] = cmp) := hc
  clear hc
  go_enter Tryz.func197, Tryz.ntmps197
  go_wp2_with fail
  refine (p_takeS Pb ws (k + 1) W.heap.size 2 hows isHow _ (hP.keep (wsum _)) (txsL W hows) (by decide) (by decide) (by decide) (by decide) (by decide) (by decide)).mono ?_
  rintro e w1 ⟨k2, s, rfl, hs, hP1, hK1⟩
  have hK1 : Keep Pb W w1 := (Keep.alloc Pb _ _).trans hK1
  rcases hs with ⟨hk1, hp, rfl, hs, hne⟩ | ⟨hno, rfl, rfl⟩
  · have hne' : (s == []) = false := by simpa using hne
    have HY : Hid (isHow (tok ws[k + 1]) = true ∧ s = (ws[k + 1]).text) := ⟨hp, hs⟩
    have HA0 : Hid (ans PK.ask (cmp :: tk ws (k + 1)) = ans (round query) (tk ws (k + 2))) := by show _ = _; rw [tk_cons hk1, ask_how hp]
    clear hs hp hne
    go_wp2_with fail
    refine (p_within Pb ws (k + 2) _ hP1 (hq.mono (by omega))).mono ?_
    rintro e w2 (⟨k', x, hle, hA, rfl, ⟨n2, y2, rfl, hQ⟩, hP2, hK2⟩ | ⟨hA, b, rfl, h1, h2, h3⟩)
    · have HA : Hid (ans PK.ask (cmp :: tk ws (k + 1)) = some (tk ws k')) := HA0.out.trans hA
      have HR : Hid (Asked Pb ws k0 n0 k' (.iface 339 (.agg #[.iface n2 y2, .iface n y, .string ⟨sx.toArray⟩, .string ⟨s.toArray⟩])) w2) := by
        obtain ⟨o, c, a, t2, h1, h2, h3, h4, h5⟩ := hQ.split
        refine ⟨nd { kind := s, sign := sx } (l2 t t2), ?_, Rep.versus ?_ (hR.keep (hK1.trans hK2)) (h5.low (Nat.le_trans hn0 hK1.size))⟩
        · rw [sl_app ws hk0 (show k ≤ k' by omega), sl_cons hk (by omega), sl_cons hk1 (by omega), h3, HY.out.2, ← HX.out]
          exact .bHow HC.out HY.out.1 h1 h2 hD h4
        · rw [HY.out.2]; exact text_in (p := isHow) (hok _ (List.getElem_mem hk1)) HY.out.1 (by decide) (by decide) (by decide) (by decide)
      clear hA HA0 hQ
      go_wp2_with fail
      go_ret
      exact .inl ⟨k', _, by omega, HA.out, rfl, HR.out, hP2, hK1.trans hK2⟩
    · have HA : Hid (ans PK.ask (cmp :: tk ws (k + 1)) = none) := HA0.out.trans hA
      clear hA HA0
      go_wp2
      exact ⟨rfl, .inr ⟨HA.out, b, rfl, h1, h2, hK1.trans h3⟩⟩
  · have HA0 : Hid (ans PK.ask (cmp :: tk ws (k + 1)) = ans (P expr) (tk ws (k + 1))) := ans_ask_cmp _ (fun u r' e => hno u (tk_first e))
    clear hno
    go_wp2_with fail
    refine (he (k + 1) w1 (Nat.le_refl _) hP1).mono ?_
    rintro e w2 (⟨k', x, hle, hA, rfl, ⟨t2, hD2, hR2⟩, hP2, hK2⟩ | ⟨hA, b, rfl, h1, h2, h3⟩)
    · obtain ⟨n2, y2, rfl⟩ := hR2.iface
      have HA : Hid (ans PK.ask (cmp :: tk ws (k + 1)) = some (tk ws k')) := HA0.out.trans hA
      have HR : Hid (Asked Pb ws k0 n0 k' (.iface 341 (.agg #[.iface n y, .string ⟨sx.toArray⟩, .iface n2 y2])) w2) := by
        refine ⟨nd { kind := [99, 111, 109, 112, 97, 114, 101], sign := sx } (l2 t t2), ?_, Rep.compare (hR.keep (hK1.trans hK2)) (hR2.low (Nat.le_trans hn0 hK1.size))⟩
        rw [sl_app ws hk0 (show k ≤ k' by omega), sl_cons hk (by omega), ← HX.out]
        exact .bCmp HC.out hD hD2
      clear hA HA0
      go_wp2_with fail
      go_ret
      exact .inl ⟨k', _, by omega, HA.out, rfl, HR.out, hP2, hK1.trans hK2⟩
    · have HA : Hid (ans PK.ask (cmp :: tk ws (k + 1)) = none) := HA0.out.trans hA
      clear hA HA0
      go_wp2
      exact ⟨rfl, .inr ⟨HA.out, b, rfl, h1, h2, hK1.trans h3⟩⟩
end Gr
end Go.Proofs.YtfkdfplnhlnnoaaGreatDoor
end
