import Derived.Test.YtfkdfplnhlnnoaaGreatDoorBgJa19
namespace Go.Proofs.YtfkdfplnhlnnoaaGreatDoor
open Go.RowKit
namespace Gr
set_option linter.unusedSimpArgs false
set_option linter.unusedVariables false
open T NT PK
def cmps : List Bg.Str := [[61], [60, 62], [60], [60, 61], [62], [62, 61]]
/-- is null, is not null -/
theorem asked_null {Pb : Nat} {ws : List RW} {k0 k n0 : Nat} {w' : World} {n : Nat} {y : Value} {t : Tr} (hD : D expr (sl ws k0 k) t) (hR : Rep Pb n0 w' (.v (.iface n y)) t) (hk0 : k0 ≤ k) (h1 : hd ws k = some is_) (h2 : hd ws (k + 1) = some null) : Asked Pb ws k0 n0 (k + 2) (.iface 329 (.agg #[.iface n y, .bool false])) w' := by
  have l1 := hd_lt h1
  have l2 := hd_lt h2
  refine ⟨_, ?_, Rep.isNull hR⟩
  rw [sl_app ws hk0 (show k ≤ k + 2 by omega), sl_cons l1 (by omega), sl_one l2]
  exact .bNull (hd_tok h1 l1) (hd_tok h2 l2) hD
theorem asked_notnull {Pb : Nat} {ws : List RW} {k0 k n0 : Nat} {w' : World} {n : Nat} {y : Value} {t : Tr} (hD : D expr (sl ws k0 k) t) (hR : Rep Pb n0 w' (.v (.iface n y)) t) (hk0 : k0 ≤ k) (h1 : hd ws k = some is_) (h2 : hd ws (k + 1) = some T.not_) (h3 : hd ws (k + 2) = some null) : Asked Pb ws k0 n0 (k + 3) (.iface 329 (.agg #[.iface n y, .bool true])) w' := by
  have l1 := hd_lt h1
  have l2 := hd_lt h2
  have l3 := hd_lt h3
  refine ⟨_, ?_, Rep.isNull hR⟩
  rw [sl_app ws hk0 (show k ≤ k + 3 by omega), sl_cons l1 (by omega), sl_cons l2 (by omega), sl_one l3]
  exact .bNotNull (hd_tok h1 l1) (hd_tok h2 l2) (hd_tok h3 l3) hD
theorem asked_in {Pb : Nat} {ws : List RW} {k0 k n0 k' : Nat} {w' : World} {n n2 : Nat} {y y2 : Value} {t : Tr} (hD : D expr (sl ws k0 k) t) (hR : Rep Pb n0 w' (.v (.iface n y)) t) (hk0 : k0 ≤ k) (h1 : hd ws k = some T.in_) (hle : k + 1 ≤ k') (hQ : PartR Pb ws query (k + 1) n0 k' (.iface n2 y2) w') : Asked Pb ws k0 n0 k' (.iface 332 (.agg #[.iface n2 y2, .iface n y, .bool false])) w' := by
  have l1 := hd_lt h1
  obtain ⟨o, c, a, t2, e1, e2, e3, e4, e5⟩ := hQ.split
  refine ⟨_, ?_, Rep.in_ hR e5⟩
  rw [sl_app ws hk0 (show k ≤ k' by omega), sl_cons l1 (by omega), e3]
  exact .bIn (hd_tok h1 l1) e1 e2 hD e4
theorem asked_notin {Pb : Nat} {ws : List RW} {k0 k n0 k' : Nat} {w' : World} {n n2 : Nat} {y y2 : Value} {t : Tr} (hD : D expr (sl ws k0 k) t) (hR : Rep Pb n0 w' (.v (.iface n y)) t) (hk0 : k0 ≤ k) (h1 : hd ws k = some T.not_) (h2 : hd ws (k + 1) = some T.in_) (hle : k + 2 ≤ k') (hQ : PartR Pb ws query (k + 2) n0 k' (.iface n2 y2) w') : Asked Pb ws k0 n0 k' (.iface 332 (.agg #[.iface n2 y2, .iface n y, .bool true])) w' := by
  have l1 := hd_lt h1
  have l2 := hd_lt h2
  obtain ⟨o, c, a, t2, e1, e2, e3, e4, e5⟩ := hQ.split
  refine ⟨_, ?_, Rep.in_ hR e5⟩
  rw [sl_app ws hk0 (show k ≤ k' by omega), sl_cons l1 (by omega), sl_cons l2 (by omega), e3]
  exact .bNotIn (hd_tok h1 l1) (hd_tok h2 l2) e1 e2 hD e4
theorem PartR.low {Pb : Nat} {ws : List RW} {nt : NT} {k n0 n1 k' : Nat} {x : Value} {w' : World} (h : PartR Pb ws nt k n0 k' x w') (hn : n1 ≤ n0) : PartR Pb ws nt k n1 k' x w' := by
  obtain ⟨m, t, h1, h2, h3, h4, h5, h6⟩ := h
  exact ⟨m, t, h1, h2, h3, h4, h5, h6.low hn⟩
set_option maxRecDepth 10000 in
set_option maxHeartbeats 1000000 in
theorem p_question (Pb : Nat) (ws : List RW) (k0 k n0 : Nat) (W : World) (hP : PS Pb ws k W) (n : Nat) (y : Value) (t : Tr) (hD : D expr (sl ws k0 k) t) (hR : Rep Pb n0 W (.v (.iface n y)) t) (hk0 : k0 ≤ k) (hn0 : n0 ≤ W.heap.size)
    (he : Rds Pb ws 158 expr (k + 1)) (hq : Rds Pb ws 59 query (k + 1)) :
    Calls Tryz.prog 194 #[.pointer (some ⟨Pb, 0, none⟩), .iface n y] W (Got Pb ws k (ans PK.ask (tk ws k)) (Asked Pb ws k0 n0) W) := by
  have hok := hP.ok
  go_enter Tryz.func194, Tryz.ntmps194
  go_wp2_with fail
  refine (p_takeT Pb ws k [105, 115] is_ _ hP (by decide)).mono ?_
  rintro e w1 ⟨hK1, ⟨hi, rfl, hP1⟩ | ⟨hi, rfl, hP1⟩⟩
  · have Hi : Hid (hd ws k = some is_) := hi
    clear hi
    go_wp2_with fail
    refine (p_takeT Pb ws (k + 1) [110, 111, 116] not_ _ hP1 (by decide)).mono ?_
    rintro e w2 ⟨hK2, ⟨hn, rfl, hP2⟩ | ⟨hn, rfl, hP2⟩⟩
    · have Hn : Hid (hd ws (k + 1) = some not_) := hn
      clear hn
      go_wp2_with fail
      refine (p_mustT Pb ws (k + 2) [110, 117, 108, 108] null _ hP2 (by decide)).mono ?_
      rintro e w3 (⟨hl, rfl, hP3, hK3⟩ | ⟨hl, b, rfl, h1, h2, h3⟩)
      · have hR3 := hR.keep ((hK1.trans hK2).trans hK3)
        have HQ : Hid (Asked Pb ws k0 n0 (k + 3) (.iface 329 (.agg #[.iface n y, .bool true])) w3) := asked_notnull hD hR3 hk0 Hi.out Hn.out hl
        have HA : Hid (ans PK.ask (tk ws k) = some (tk ws (k + 3))) := by show _ = _; rw [tk_hd Hi.out, tk_hd Hn.out, ans_ask_isnot, eat_yes hl]
        clear hl
        go_wp2_with fail
        go_ret
        exact .inl ⟨k + 3, _, by omega, HA.out, rfl, HQ.out, hP3, (hK1.trans hK2).trans hK3⟩
      · have HA : Hid (ans PK.ask (tk ws k) = none) := by show _ = _; rw [tk_hd Hi.out, tk_hd Hn.out, ans_ask_isnot, eat_no hl]
        clear hl
        go_wp2
        exact ⟨rfl, .inr ⟨HA.out, b, rfl, h1, h2, (hK1.trans hK2).trans h3⟩⟩
    · have Hn : Hid (hd ws (k + 1) ≠ some not_) := hn
      clear hn
      go_wp2_with fail
      refine (p_mustT Pb ws (k + 1) [110, 117, 108, 108] null _ hP2 (by decide)).mono ?_
      rintro e w3 (⟨hl, rfl, hP3, hK3⟩ | ⟨hl, b, rfl, h1, h2, h3⟩)
      · have hR3 := hR.keep ((hK1.trans hK2).trans hK3)
        have HQ : Hid (Asked Pb ws k0 n0 (k + 2) (.iface 329 (.agg #[.iface n y, .bool false])) w3) := asked_null hD hR3 hk0 Hi.out hl
        have HA : Hid (ans PK.ask (tk ws k) = some (tk ws (k + 2))) := by show _ = _; rw [tk_hd Hi.out, ans_ask_is _ (tk_no Hn.out), eat_yes hl]
        clear hl
        go_wp2_with fail
        go_ret
        exact .inl ⟨k + 2, _, by omega, HA.out, rfl, HQ.out, hP3, (hK1.trans hK2).trans hK3⟩
      · have HA : Hid (ans PK.ask (tk ws k) = none) := by show _ = _; rw [tk_hd Hi.out, ans_ask_is _ (tk_no Hn.out), eat_no hl]
        clear hl
        go_wp2
        exact ⟨rfl, .inr ⟨HA.out, b, rfl, h1, h2, (hK1.trans hK2).trans h3⟩⟩
  · have Hi : Hid (hd ws k ≠ some is_) := hi
    clear hi
    go_wp2_with fail
    refine (p_takeS Pb ws k w1.heap.size 6 cmps (· == cmp) _ (hP1.keep (wsum _)) (txsL w1 cmps) (by decide) (by decide) (by decide) (by decide) (by decide) (by decide)).mono ?_
    rintro e w2 ⟨k2, s, rfl, hs, hP2, hK2⟩
    have hK2 : Keep Pb W w2 := hK1.trans ((Keep.alloc Pb _ _).trans hK2)
    rcases hs with ⟨hk1, hp, rfl, hs, hne⟩ | ⟨hno, rfl, rfl⟩
    · have hne' : (s == []) = false := by simpa using hne
      have hcm : tok ws[k] = cmp := by simpa using hp
      have hcall := p_comparison Pb ws k0 k n0 w2 hP2 n y t hk1 hcm hD (hR.keep hK2) hk0 (Nat.le_trans hn0 hK2.size) he hq
      rw [← hs] at hcall
      have HA0 : Hid (ans PK.ask (tk ws k) = ans PK.ask (cmp :: tk ws (k + 1))) := by show _ = _; rw [tk_cons hk1, hcm]
      clear hs hp hne hcm
      go_wp2_with fail
      refine hcall.mono ?_
      rintro e w3 (⟨k', x, hle, hA, rfl, hQ, hP3, hK3⟩ | ⟨hA, b, rfl, h1, h2, h3⟩)
      · obtain ⟨n3, y3, rfl⟩ : ∃ n y, x = .iface n y := by obtain ⟨_, _, hR⟩ := hQ; exact hR.iface
        have HA : Hid (ans PK.ask (tk ws k) = some (tk ws k')) := HA0.out.trans hA
        clear hA HA0
        go_wp2_with fail
        go_ret
        exact .inl ⟨k', _, hle, HA.out, rfl, hQ, hP3, hK2.trans hK3⟩
      · have HA : Hid (ans PK.ask (tk ws k) = none) := HA0.out.trans hA
        clear hA HA0
        go_wp2
        exact ⟨rfl, .inr ⟨HA.out, b, rfl, h1, h2, hK2.trans h3⟩⟩
    · have Hno : Hid (hd ws k2 ≠ some cmp) := fun e => by have := hno _ e; simp at this
      clear hno
      go_wp2_with fail
      refine (p_takeT Pb ws k2 [110, 111, 116] not_ _ hP2 (by decide)).mono ?_
      rintro e w3 ⟨hK3, ⟨hn, rfl, hP3⟩ | ⟨hn, rfl, hP3⟩⟩
      · have Hn : Hid (hd ws k2 = some not_) := hn
        clear hn
        go_wp2_with fail
        refine (p_mustT Pb ws (k2 + 1) [105, 110] T.in_ _ hP3 (by decide)).mono ?_
        rintro e w4 (⟨hl, rfl, hP4, hK4⟩ | ⟨hl, b, rfl, h1, h2, h3⟩)
        · have Hl : Hid (hd ws (k2 + 1) = some T.in_) := hl
          have HA0 : Hid (ans PK.ask (tk ws k2) = ans (round query) (tk ws (k2 + 2))) := by show _ = _; rw [tk_hd Hn.out, ans_ask_not, eat_yes hl, Option.bind_some]
          clear hl
          go_wp2_with fail
          refine (p_within Pb ws (k2 + 2) _ hP4 (hq.mono (by omega))).mono ?_
          rintro e w5 (⟨k', x, hle, hA, rfl, ⟨n2, y2, rfl, hQ⟩, hP5, hK5⟩ | ⟨hA, b, rfl, h1, h2, h3⟩)
          · have HA : Hid (ans PK.ask (tk ws k2) = some (tk ws k')) := HA0.out.trans hA
            have hKK := ((hK2.trans hK3).trans hK4)
            have HQ : Hid (Asked Pb ws k0 n0 k' (.iface 332 (.agg #[.iface n2 y2, .iface n y, .bool true])) w5) := asked_notin hD (hR.keep (hKK.trans hK5)) hk0 Hn.out Hl.out hle (hQ.low (Nat.le_trans hn0 hKK.size))
            clear hA HA0 hQ
            go_wp2_with fail
            go_ret
            exact .inl ⟨k', _, by omega, HA.out, rfl, HQ.out, hP5, hKK.trans hK5⟩
          · have HA : Hid (ans PK.ask (tk ws k2) = none) := HA0.out.trans hA
            clear hA HA0
            go_wp2
            exact ⟨rfl, .inr ⟨HA.out, b, rfl, h1, h2, ((hK2.trans hK3).trans hK4).trans h3⟩⟩
        · have HA : Hid (ans PK.ask (tk ws k2) = none) := by show _ = _; rw [tk_hd Hn.out, ans_ask_not, eat_no hl]; rfl
          clear hl
          go_wp2
          exact ⟨rfl, .inr ⟨HA.out, b, rfl, h1, h2, (hK2.trans hK3).trans h3⟩⟩
      · have HE : Hid (ans PK.ask (tk ws k2) = (eat T.in_ (tk ws k2)).bind (ans (round query))) := by
          refine ans_ask_else _ (fun u r e => ?_)
          have := tk_first e
          exact ⟨fun h => Hi.out (by rw [this, h]), fun h => Hno.out (by rw [this, h]), fun h => hn (by rw [this, h])⟩
        clear hn
        go_wp2_with fail
        refine (p_mustT Pb ws k2 [105, 110] T.in_ _ hP3 (by decide)).mono ?_
        rintro e w4 (⟨hl, rfl, hP4, hK4⟩ | ⟨hl, b, rfl, h1, h2, h3⟩)
        · have Hl : Hid (hd ws k2 = some T.in_) := hl
          have HA0 : Hid (ans PK.ask (tk ws k2) = ans (round query) (tk ws (k2 + 1))) := by show _ = _; rw [HE.out, eat_yes hl, Option.bind_some]
          clear hl
          go_wp2_with fail
          refine (p_within Pb ws (k2 + 1) _ hP4 (hq.mono (by omega))).mono ?_
          rintro e w5 (⟨k', x, hle, hA, rfl, ⟨n2, y2, rfl, hQ⟩, hP5, hK5⟩ | ⟨hA, b, rfl, h1, h2, h3⟩)
          · have HA : Hid (ans PK.ask (tk ws k2) = some (tk ws k')) := HA0.out.trans hA
            have hKK := ((hK2.trans hK3).trans hK4)
            have HQ : Hid (Asked Pb ws k0 n0 k' (.iface 332 (.agg #[.iface n2 y2, .iface n y, .bool false])) w5) := asked_in hD (hR.keep (hKK.trans hK5)) hk0 Hl.out hle (hQ.low (Nat.le_trans hn0 hKK.size))
            clear hA HA0 hQ HE
            go_wp2_with fail
            go_ret
            exact .inl ⟨k', _, by omega, HA.out, rfl, HQ.out, hP5, hKK.trans hK5⟩
          · have HA : Hid (ans PK.ask (tk ws k2) = none) := HA0.out.trans hA
            clear hA HA0 HE
            go_wp2
            exact ⟨rfl, .inr ⟨HA.out, b, rfl, h1, h2, ((hK2.trans hK3).trans hK4).trans h3⟩⟩
        · have HA : Hid (ans PK.ask (tk ws k2) = none) := by show _ = _; rw [HE.out, eat_no hl]; rfl
          clear hl HE
          go_wp2
          exact ⟨rfl, .inr ⟨HA.out, b, rfl, h1, h2, (hK2.trans hK3).trans h3⟩⟩
set_option maxRecDepth 10000 in
set_option maxHeartbeats 1000000 in
theorem p_basic (Pb : Nat) (ws : List RW) (k : Nat) (W : World) (hP : PS Pb ws k W) (he : Rds Pb ws 158 expr k) (hc : Rds Pb ws 141 cnd (k + 1)) (hq : Rds Pb ws 59 query (k + 1)) :
    Calls Tryz.prog 187 #[.pointer (some ⟨Pb, 0, none⟩)] W (Got Pb ws k (ans (P basic) (tk ws k)) (Part Pb ws basic k W.heap.size) W) := by
  have hmf : ∀ (fn : Fn) (first cap : Array Value) (w : World), (Instr.makeFunc fn first cap).run Tryz.prog w = .ok (.func fn first cap) w := fun _ _ _ _ => rfl
  have hok := hP.ok
  go_enter Tryz.func187, Tryz.ntmps187
  go_wp2_with fail
  refine (p_takeT Pb ws k [101, 120, 105, 115, 116, 115] T.exists_ _ hP (by decide)).mono ?_
  rintro e w1 ⟨hK1, ⟨hi, rfl, hP1⟩ | ⟨hi, rfl, hP1⟩⟩
  · have Hi : Hid (hd ws k = some T.exists_) := hi
    have HA0 : Hid (ans (P basic) (tk ws k) = ans (round query) (tk ws (k + 1))) := by show _ = _; rw [tk_hd hi, ans_basic_ex]
    clear hi
    go_wp2_with fail
    refine (p_within Pb ws (k + 1) _ hP1 (hq.mono (by omega))).mono ?_
    rintro e w5 (⟨k', x, hle, hA, rfl, ⟨n2, y2, rfl, hQ⟩, hP5, hK5⟩ | ⟨hA, b, rfl, h1, h2, h3⟩)
    · have HA : Hid (ans (P basic) (tk ws k) = some (tk ws k')) := HA0.out.trans hA
      have HQ : Hid (Part Pb ws basic k W.heap.size k' (.iface 322 (.agg #[.iface n2 y2])) w5) := by
        have l1 := hd_lt Hi.out
        obtain ⟨o, c, a, t2, e1, e2, e3, e4, e5⟩ := hQ.split
        refine ⟨_, ?_, Rep.exists_ (e5.low hK1.size)⟩
        rw [sl_cons l1 (by omega), e3]
        exact .bExists (hd_tok Hi.out l1) e1 e2 e4
      clear hA HA0 hQ
      go_wp2_with fail
      go_ret
      exact .inl ⟨k', _, by omega, HA.out, rfl, HQ.out, hP5, hK1.trans hK5⟩
    · have HA : Hid (ans (P basic) (tk ws k) = none) := HA0.out.trans hA
      clear hA HA0
      go_wp2
      exact ⟨rfl, .inr ⟨HA.out, b, rfl, h1, h2, hK1.trans h3⟩⟩
  · have HE : Hid (ans (P basic) (tk ws k) = if opensC 0 (tk ws k) then ans (round cnd) (tk ws k) else (ans (P expr) (tk ws k)).bind (ans PK.ask)) := ans_basic _ (tk_no hi)
    clear hi
    go_wp2_with fail
    refine (p_opensCond Pb ws k _ hP1).mono ?_
    rintro e w2 ⟨rfl, hB2⟩
    have hP2 := hP1.keep hB2
    have hK2 := hK1.trans (Keep.of Pb hB2)
    change Hid (ans (P basic) (tk ws k) = if opensC 0 ((ws.drop k).map tok) then ans (round cnd) (tk ws k) else (ans (P expr) (tk ws k)).bind (ans PK.ask)) at HE
    cases ho : opensC 0 ((ws.drop k).map tok) with
    | true =>
      have HA0 : Hid (ans (P basic) (tk ws k) = ans (round cnd) (tk ws k)) := by show _ = _; rw [HE.out, ho]; rfl
      clear HE
      go_wp2_with fail
      refine (p_roundC Pb ws k _ hP2 hc).mono ?_
      rintro e w5 (⟨k', x, hle, hA, rfl, hQ, hP5, hK5⟩ | ⟨hA, b, rfl, h1, h2, h3⟩)
      · obtain ⟨o, c, a, t2, e1, e2, e3, e4, e5⟩ := hQ.split
        obtain ⟨n2, y2, rfl⟩ := e5.iface
        have HA : Hid (ans (P basic) (tk ws k) = some (tk ws k')) := HA0.out.trans hA
        have HQ : Hid (Part Pb ws basic k W.heap.size k' (.iface n2 y2) w5) := by
          refine ⟨_, ?_, e5.low hK2.size⟩
          rw [e3]; exact .bRound e1 e2 e4
        clear hA HA0 hQ e3
        go_wp2_with fail
        go_ret
        exact .inl ⟨k', _, by omega, HA.out, rfl, HQ.out, hP5, hK2.trans hK5⟩
      · have HA : Hid (ans (P basic) (tk ws k) = none) := HA0.out.trans hA
        clear hA HA0
        go_wp2
        exact ⟨rfl, .inr ⟨HA.out, b, rfl, h1, h2, hK2.trans h3⟩⟩
    | false =>
      have HA0 : Hid (ans (P basic) (tk ws k) = (ans (P expr) (tk ws k)).bind (ans PK.ask)) := by show _ = _; rw [HE.out, ho]; rfl
      clear HE
      go_wp2_with fail
      refine (he k _ (Nat.le_refl _) hP2).mono ?_
      rintro e w3 (⟨k1, x, hle, hA, rfl, ⟨t, hD, hR⟩, hP3, hK3⟩ | ⟨hA, b, rfl, h1, h2, h3⟩)
      · obtain ⟨n, y, rfl⟩ := hR.iface
        have HA1 : Hid (ans (P basic) (tk ws k) = ans PK.ask (tk ws k1)) := by show _ = _; rw [HA0.out, hA, Option.bind_some]
        clear hA HA0
        have hK3' := hK2.trans hK3
        go_wp2_with fail
        refine (p_question Pb ws k k1 W.heap.size _ hP3 n y t hD (hR.low hK2.size) hle hK3'.size (he.mono (by omega)) (hq.mono (by omega))).mono ?_
        rintro e w4 (⟨k', x, hle2, hA, rfl, ⟨t2, hD2, hR2⟩, hP4, hK4⟩ | ⟨hA, b, rfl, h1, h2, h3⟩)
        · obtain ⟨n2, y2, rfl⟩ := hR2.iface
          have HA : Hid (ans (P basic) (tk ws k) = some (tk ws k')) := HA1.out.trans hA
          clear hA HA1
          go_wp2_with fail
          go_ret
          exact .inl ⟨k', _, by omega, HA.out, rfl, ⟨t2, hD2, hR2⟩, hP4, hK3'.trans hK4⟩
        · have HA : Hid (ans (P basic) (tk ws k) = none) := HA1.out.trans hA
          clear hA HA1
          go_wp2
          exact ⟨rfl, .inr ⟨HA.out, b, rfl, h1, h2, hK3'.trans h3⟩⟩
      · have HA : Hid (ans (P basic) (tk ws k) = none) := by show _ = _; rw [HA0.out, hA]; rfl
        clear hA HA0
        go_wp2
        exact ⟨rfl, .inr ⟨HA.out, b, rfl, h1, h2, hK2.trans h3⟩⟩
set_option maxRecDepth 10000 in
set_option maxHeartbeats 1000000 in
theorem p_neg (Pb : Nat) (ws : List RW) (k : Nat) (W : World) (hP : PS Pb ws k W) (hn : Rds Pb ws 178 neg (k + 1)) (hb : Rds Pb ws 187 basic k) :
    Calls Tryz.prog 178 #[.pointer (some ⟨Pb, 0, none⟩)] W (Got Pb ws k (ans (P neg) (tk ws k)) (Part Pb ws neg k W.heap.size) W) := by
  go_enter Tryz.func178, Tryz.ntmps178
  go_wp2_with fail
  refine (p_takeT Pb ws k [110, 111, 116] T.not_ _ hP (by decide)).mono ?_
  rintro e w1 ⟨hK1, ⟨hi, rfl, hP1⟩ | ⟨hi, rfl, hP1⟩⟩
  · have Hi : Hid (hd ws k = some T.not_) := hi
    have HA0 : Hid (ans (P neg) (tk ws k) = ans (P neg) (tk ws (k + 1))) := by show _ = _; rw [tk_hd hi, ans_neg_not]
    clear hi
    go_wp2_with fail
    refine (hn (k + 1) _ (Nat.le_refl _) hP1).mono ?_
    rintro e w2 (⟨k', x, hle, hA, rfl, ⟨t, hD, hR⟩, hP2, hK2⟩ | ⟨hA, b, rfl, h1, h2, h3⟩)
    · obtain ⟨n, y, rfl⟩ := hR.iface
      have HA : Hid (ans (P neg) (tk ws k) = some (tk ws k')) := HA0.out.trans hA
      have HQ : Hid (Part Pb ws neg k W.heap.size k' (.iface 309 (.agg #[.iface n y])) w2) := by
        have l1 := hd_lt Hi.out
        refine ⟨_, ?_, Rep.not_ (hR.low hK1.size)⟩
        rw [sl_cons l1 (by omega)]
        exact .nNot (hd_tok Hi.out l1) hD
      clear hA HA0
      go_wp2_with fail
      go_ret
      exact .inl ⟨k', _, by omega, HA.out, rfl, HQ.out, hP2, hK1.trans hK2⟩
    · have HA : Hid (ans (P neg) (tk ws k) = none) := HA0.out.trans hA
      clear hA HA0
      go_wp2
      exact ⟨rfl, .inr ⟨HA.out, b, rfl, h1, h2, hK1.trans h3⟩⟩
  · have HA0 : Hid (ans (P neg) (tk ws k) = ans (P basic) (tk ws k)) := ans_neg _ (tk_no hi)
    clear hi
    go_wp2_with fail
    refine (hb k _ (Nat.le_refl _) hP1).mono ?_
    rintro e w2 (⟨k', x, hle, hA, rfl, ⟨t, hD, hR⟩, hP2, hK2⟩ | ⟨hA, b, rfl, h1, h2, h3⟩)
    · obtain ⟨n, y, rfl⟩ := hR.iface
      have HA : Hid (ans (P neg) (tk ws k) = some (tk ws k')) := HA0.out.trans hA
      clear hA HA0
      go_wp2_with fail
      go_ret
      exact .inl ⟨k', _, by omega, HA.out, rfl, ⟨t, .nBasic hD, hR.low hK1.size⟩, hP2, hK1.trans hK2⟩
    · have HA : Hid (ans (P neg) (tk ws k) = none) := HA0.out.trans hA
      clear hA HA0
      go_wp2
      exact ⟨rfl, .inr ⟨HA.out, b, rfl, h1, h2, hK1.trans h3⟩⟩
end Gr
end Go.Proofs.YtfkdfplnhlnnoaaGreatDoor
