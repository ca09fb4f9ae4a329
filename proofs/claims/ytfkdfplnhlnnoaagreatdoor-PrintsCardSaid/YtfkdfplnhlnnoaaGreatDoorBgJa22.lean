import Derived.Test.YtfkdfplnhlnnoaaGreatDoorBgJa21
section
namespace Go.Proofs.YtfkdfplnhlnnoaaGreatDoor
open Go.RowKit
namespace Gr
set_option linter.unusedSimpArgs false
set_option linter.unusedVariables false
open T NT PK
set_option maxRecDepth 10000 in
set_option maxHeartbeats 2000000 in
theorem p_factor (Pb : Nat) (ws : List RW) (k : Nat) (W : World) (hP : PS Pb ws k W) (hf : RdsE Pb ws 186 factor (k + 1)) (he : RdsE Pb ws 158 expr (k + 1)) :
    Calls Tryz.prog 186 #[.pointer (some ⟨Pb, 0, none⟩)] W (Got Pb ws k (ans (P factor) (tk ws k)) (PartE ws factor k) W) := by
  have hmf : ∀ (fn : Fn) (first cap : Array Value) (w : World), (Instr.makeFunc fn first cap).run Tryz.prog w = .ok (.func fn first cap) w := fun _ _ _ _ => rfl
  have hok := hP.ok
  go_enter Tryz.func186, Tryz.ntmps186
  go_wp2_with fail
  refine (p_takeT Pb ws k [45] T.minus _ hP (by decide)).mono ?_
  rintro e w1 ⟨hK1, ⟨hi, rfl, hP1⟩ | ⟨hi, rfl, hP1⟩⟩
  · have Hi : Hid (hd ws k = some T.minus) := hi
    have HA0 : Hid (ans (P factor) (tk ws k) = ans (P factor) (tk ws (k + 1))) := by show _ = _; rw [tk_hd hi, ans_fac_minus]
    clear hi
    go_wp2_with fail
    refine (hf (k + 1) _ (Nat.le_refl _) hP1).mono ?_
    rintro e w2 (⟨k', x, hle, hA, rfl, ⟨t, hD, hR⟩, hP2, hK2⟩ | ⟨hA, b, rfl, h1, h2, h3⟩)
    · obtain ⟨n, y, rfl⟩ := (hR 0 0 W).iface
      have HA : Hid (ans (P factor) (tk ws k) = some (tk ws k')) := HA0.out.trans hA
      have HQ : Hid (PartE ws factor k k' (.iface 314 (.agg #[.iface n y])) w2) := by
        have l1 := hd_lt Hi.out
        refine ⟨_, ?_, fun _ _ _ => Rep.neg (hR _ _ _)⟩
        rw [sl_cons l1 (by omega)]
        exact .fNeg (hd_tok Hi.out l1) hD
      clear hA HA0
      go_wp2_with fail
      go_ret
      exact .inl ⟨k', _, by omega, HA.out, rfl, HQ.out, hP2, hK1.trans hK2⟩
    · have HA : Hid (ans (P factor) (tk ws k) = none) := HA0.out.trans hA
      clear hA HA0
      go_wp2
      exact ⟨rfl, .inr ⟨HA.out, b, rfl, h1, h2, hK1.trans h3⟩⟩
  · have Hm : Hid (hd ws k ≠ some T.minus) := hi
    clear hi
    go_wp2_with fail
    refine (p_takeT Pb ws k [110, 117, 108, 108] T.null _ hP1 (by decide)).mono ?_
    rintro e w2 ⟨hK2, ⟨hi, rfl, hP2⟩ | ⟨hi, rfl, hP2⟩⟩
    · have HA : Hid (ans (P factor) (tk ws k) = some (tk ws (k + 1))) := by show _ = _; rw [tk_hd hi, ans_fac_null]
      have HQ : Hid (PartE ws factor k (k + 1) (.iface 316 (.agg #[.iface 225 (.agg #[])])) w2) := by
        have l1 := hd_lt hi
        refine ⟨_, ?_, fun _ _ _ => Rep.null⟩
        rw [sl_one l1]
        exact .fNull (hd_tok hi l1)
      clear hi
      go_wp2_with fail
      go_ret
      exact .inl ⟨k + 1, _, by omega, HA.out, rfl, HQ.out, hP2, hK1.trans hK2⟩
    · have Hn : Hid (hd ws k ≠ some T.null) := hi
      clear hi
      have hKa := hK1.trans hK2
      go_wp2_with fail
      refine (p_next Pb ws k _ hP2).mono ?_
      rintro e w3 ⟨rfl, hB3⟩
      have hP3 := hP2.keep hB3
      have hK3 := hKa.trans (Keep.of Pb hB3)
      unfold nextV
      have f0 := fun w => fld0 (nKind ws k) ⟨(nSpelt ws k).toArray⟩ (nVal ws k) (nVal_is ws k) w
      by_cases hl : hd ws k = some lit
      · have hk := hd_lt hl
        have hn' : (nKind ws k == 3) = true := by simpa using (kind_lit hok k).2 hl
        obtain ⟨⟨n, y, hv⟩, hq⟩ := lit_part hok hl w3
        have HQ : Hid (∀ w', PartE ws factor k (k + 1) (.iface 316 (.agg #[nVal ws k])) w') := fun w' => (lit_part hok hl w').2
        have HA : Hid (ans (P factor) (tk ws k) = some (tk ws (k + 1))) := by show _ = _; rw [tk_hd hl, ans_fac_lit]
        have HV : Hid (nVal ws k = .iface n y) := hv
        clear hl hq hv
        go_wp2_with fail
        refine (p_step Pb ws k _ hP3 hk).mono ?_
        rintro e w4 ⟨rfl, hP4, hK4⟩
        unfold nextV
        have f2 := fun w => fld2 (nKind ws k) ⟨(nSpelt ws k).toArray⟩ (nVal ws k) (nVal_is ws k) w
        clear f0
        rw [HV.out] at f2 HQ ⊢
        go_wp2_with fail
        go_ret
        exact .inl ⟨k + 1, _, by omega, HA.out, rfl, HQ.out _, hP4, hK3.trans hK4⟩
      · have hn' : (nKind ws k == 3) = false := by
          have : ¬ nKind ws k = 3 := fun h => hl ((kind_lit hok k).1 h)
          simpa using this
        have Hl : Hid (hd ws k ≠ some lit) := hl
        clear hl
        go_wp2_with fail
        refine (p_is Pb ws k w3.heap.size 1 [[40]] _ (hP3.keep (wsum _)) (txsL w3 [[40]]) (by simp)).mono ?_
        rintro e w4 ⟨rfl, hB4⟩
        have hP4 := (hP3.keep (wsum _)).keep hB4
        have hK4 := hK3.trans ((Keep.alloc Pb _ _).trans (Keep.of Pb hB4))
        rw [fx1 (s := [40]) (t := lp) (by decide) hok]
        by_cases ho : hd ws k = some lp
        · have HA0 : Hid (ans (P factor) (tk ws k) = ans (round expr) (tk ws k)) := by show _ = _; rw [tk_hd ho, ans_fac_lp]
          rw [decide_eq_true ho]
          clear ho
          go_wp2_with fail
          refine (p_roundE Pb ws k _ hP4 he).mono ?_
          rintro e w5 (⟨k', x, hle, hA, rfl, hQ, hP5, hK5⟩ | ⟨hA, b, rfl, h1, h2, h3⟩)
          · obtain ⟨o, c, a, t2, e1, e2, e3, e4, e5⟩ := hQ.split
            obtain ⟨n2, y2, rfl⟩ := (e5 0 0 W).iface
            have HA : Hid (ans (P factor) (tk ws k) = some (tk ws k')) := HA0.out.trans hA
            have HQ : Hid (PartE ws factor k k' (.iface n2 y2) w5) := by
              refine ⟨_, ?_, e5⟩
              rw [e3]; exact .fRound e1 e2 e4
            clear hA HA0 hQ e3
            go_wp2_with fail
            go_ret
            exact .inl ⟨k', _, by omega, HA.out, rfl, HQ.out, hP5, hK4.trans hK5⟩
          · have HA : Hid (ans (P factor) (tk ws k) = none) := HA0.out.trans hA
            clear hA HA0
            go_wp2
            exact ⟨rfl, .inr ⟨HA.out, b, rfl, h1, h2, hK4.trans h3⟩⟩
        · have Ho : Hid (hd ws k ≠ some lp) := ho
          rw [decide_eq_false ho]
          clear ho
          go_wp2_with fail
          refine (p_is Pb ws k w4.heap.size 4 fns4 _ (hP4.keep (wsum _)) (txsL w4 fns4) (by decide)).mono ?_
          rintro e w5 ⟨rfl, hB5⟩
          have hP5 := (hP4.keep (wsum _)).keep hB5
          have hK5 := hK4.trans ((Keep.alloc Pb _ _).trans (Keep.of Pb hB5))
          rw [fx (ss := fns4) isAgg (by decide) (by decide) (by decide) (by decide) hok]
          cases hg : (hd ws k).any isAgg with
          | true =>
            obtain ⟨u, hu, hp⟩ := any_yes hg
            have hk := hd_lt hu
            have hp2 : isAgg (tok ws[k]) = true := by rw [hd_tok hu hk]; exact hp
            clear hu hp
            go_wp2_with fail
            refine (p_aggregate Pb ws k _ hP5 hk hp2 he).mono ?_
            rintro e w6 (⟨k', x, hle, hA, rfl, ⟨t, hD, hR⟩, hP6, hK6⟩ | ⟨hA, b, rfl, h1, h2, h3⟩)
            · obtain ⟨n2, y2, rfl⟩ := (hR 0 0 W).iface
              have HA : Hid (ans (P factor) (tk ws k) = some (tk ws k')) := hA
              clear hA hg hp2
              go_wp2_with fail
              go_ret
              exact .inl ⟨k', _, hle, HA.out, rfl, ⟨t, hD, hR⟩, hP6, hK5.trans hK6⟩
            · have HA : Hid (ans (P factor) (tk ws k) = none) := hA
              clear hA hg hp2
              go_wp2
              exact ⟨rfl, .inr ⟨HA.out, b, rfl, h1, h2, hK5.trans h3⟩⟩
          | false =>
            have HA0 : Hid (ans (P factor) (tk ws k) = ans (P column) (tk ws k)) := by
              refine ans_fac_else _ (fun u r e => ?_)
              have hu := tk_first e
              have hp := any_no hg hu
              exact ⟨fun h => Hm.out (by rw [hu, h]), fun h => Hn.out (by rw [hu, h]), fun h => Hl.out (by rw [hu, h]), fun h => Ho.out (by rw [hu, h]), (fun h => by rw [h] at hp; cases hp), (fun h => by rw [h] at hp; cases hp)⟩
            go_wp2_with fail
            refine (p_column Pb ws k _ hP5).mono ?_
            rintro e w6 (⟨k', x, hle, hA, rfl, ⟨o, s, rfl, hD⟩, hP6, hK6⟩ | ⟨hA, b, rfl, h1, h2, h3⟩)
            · have HA : Hid (ans (P factor) (tk ws k) = some (tk ws k')) := HA0.out.trans hA
              have HQ : Hid (PartE ws factor k k' (.iface 254 (.agg #[strV o, strV s])) w6) := ⟨_, .fCol hD, fun _ _ _ => Rep.column⟩
              clear hA hg HA0
              unfold strV at *
              go_wp2_with fail
              go_ret
              exact .inl ⟨k', _, hle, HA.out, rfl, HQ.out, hP6, hK5.trans hK6⟩
            · have HA : Hid (ans (P factor) (tk ws k) = none) := HA0.out.trans hA
              clear hA hg HA0
              go_wp2
              exact ⟨rfl, .inr ⟨HA.out, b, rfl, h1, h2, hK5.trans h3⟩⟩
end Gr
end Go.Proofs.YtfkdfplnhlnnoaaGreatDoor
end
section
namespace Go.Proofs.YtfkdfplnhlnnoaaGreatDoor
open Go.RowKit
namespace Gr
set_option linter.unusedSimpArgs false
set_option linter.unusedVariables false
open T NT PK
theorem Tryz.infoItem : (Tryz.prog.info? 244).map (fun i => (i.zero, i.size, i.bytes)) = some (some (.agg #[.nilIface, .string ⟨#[]⟩]), 2, 32) := by kernel_rfl
theorem Tryz.infoSource : (Tryz.prog.info? 248).map (fun i => (i.zero, i.size, i.bytes)) = some (some (.agg #[.string ⟨#[]⟩, .string ⟨#[]⟩]), 2, 32) := by kernel_rfl
theorem Tryz.infoColumn : (Tryz.prog.info? 254).map (fun i => (i.zero, i.size, i.bytes)) = some (some (.agg #[.string ⟨#[]⟩, .string ⟨#[]⟩]), 2, 32) := by kernel_rfl
def cells2 (l : List (Value × Value)) : List Value := l.flatMap fun p => [p.1, p.2]
theorem cells2_at (l : List (Value × Value)) : ∀ i (h : i < l.length), (cells2 l)[i * 2]? = some l[i].1 ∧ (cells2 l)[i * 2 + 1]? = some l[i].2 := by
  induction l with
  | nil => intro i h; simp at h
  | cons a l ih =>
    intro i h
    cases i with
    | zero => exact ⟨rfl, rfl⟩
    | succ i =>
      obtain ⟨h1, h2⟩ := ih i (by simpa using h)
      have e : cells2 (a :: l) = a.1 :: a.2 :: cells2 l := rfl
      rw [e, show (i + 1) * 2 = i * 2 + 1 + 1 from by omega]
      simp only [List.getElem?_cons_succ, List.getElem_cons_succ]
      exact ⟨h1, h2⟩
theorem lay_of {Pb n0 e : Nat} {w : World} {v : Value} {l : List (Value × Value)} (h : w.ownsRow n0 e 2 v l.length (cells2 l)) (hl : l ≠ []) (hPb : Pb < n0) : Lay Pb n0 w v l := by
  rcases h.2 with ⟨_, h0⟩ | ⟨g, cap, cur, rfl, hg, hh, hc, _⟩
  · exact absurd (List.length_eq_zero_iff.1 h0) hl
  · refine ⟨g, cap, rfl, hc, by omega, hg, fun i hi => ?_⟩
    obtain ⟨h1, h2⟩ := cells2_at l i hi
    exact ⟨(World.ownsRow.cellAt h _ (by omega)).trans h1, (World.ownsRow.cellAt h _ (by omega)).trans h2⟩
theorem own_keepP {Pb : Nat} {w w' : World} {B e size n : Nat} {v : Value} {xs : List Value} (h : w.ownsRow B e size v n xs) (hK : Keep Pb w w') (hPb : Pb < B) : w'.ownsRow B e size v n xs := by
  refine ⟨h.1, ?_⟩
  rcases h.2 with h0 | ⟨g, cap, cur, rfl, hg, hh, r⟩
  · exact .inl h0
  · exact .inr ⟨g, cap, cur, rfl, hg, hK.obj (by omega) hh, r⟩
theorem keep_grown {Pb : Nat} {W w w' : World} {e size n : Nat} {v : Value} {xs : List Value} (hK : Keep Pb W w) (h : w.ownsRow W.heap.size e size v n xs) (hg : w.grownBy w' v.ownBlock) : Keep Pb W w' :=
  ⟨hg.os.trans hK.os, hg.tape.trans hK.tape, hg.output.trans hK.output, Nat.le_trans hK.size hg.size, fun g hne hl => (hg.block g (Nat.lt_of_lt_of_le hl hK.size) (fun e => by have := (h.lt g e.symm).1; omega)).trans (hK.block g hne hl)⟩
/-- the row that grows is not the words' block: its first cell is no number -/
theorem PS.grown {Pb : Nat} {ws : List RW} {k : Nat} {w w' : World} (h : PS Pb ws k w) {row : Option Nat} (hg : w.grownBy w' row) (hrow : ∀ b, row = some b → b ≠ Pb ∧ ∃ v0, w.cell? ⟨b, 0, none⟩ = some v0 ∧ ∀ n, v0 ≠ .int .i64 n) : PS Pb ws k w' := by
  obtain ⟨wa, cap, h1, h2⟩ := h.obj
  have hp : w'.heap[Pb]? = w.heap[Pb]? := hg.block Pb h.lt (fun e => (hrow Pb e.symm).1 rfl)
  refine ⟨h.len, h.ok, h.le, ⟨wa, cap, hp.trans h1, fun i hi => ?_⟩, fun wa' cap' e => h.capo wa' cap' (hp.symm.trans e)⟩
  obtain ⟨g, e, hgP, c1, c2, c3⟩ := h2 i hi
  obtain ⟨g', e', _, d1, _⟩ := h2 0 (by omega)
  have hgg : g = g' := by rw [e] at e'; cases e'; rfl
  subst hgg
  have hne : ∀ o, some (⟨g, o, none⟩ : Addr).block ≠ row := fun o e => by
    obtain ⟨_, v0, hc, hv⟩ := hrow g e.symm
    simp only [Nat.zero_mul] at d1
    rw [hc] at d1
    exact hv _ (Option.some.inj d1)
  exact ⟨g, e, hgP, hg.cell c1 (hne _), hg.cell c2 (hne _), hg.cell c3 (hne _)⟩
theorem row_first {w : World} {B e : Nat} {v : Value} {l : List (Value × Value)} (h : w.ownsRow B e 2 v l.length (cells2 l)) (hl : l ≠ []) (hv : ∀ p ∈ l, ∀ n, p.1 ≠ .int .i64 n) {Pb : Nat} (hPb : Pb < B) : ∀ b, v.ownBlock = some b → b ≠ Pb ∧ ∃ v0, w.cell? ⟨b, 0, none⟩ = some v0 ∧ ∀ n, v0 ≠ .int .i64 n := by
  intro b hb
  have h1 := (h.lt b hb).1
  obtain ⟨g, cap, rfl, _, _, _, h5⟩ := lay_of h hl hPb
  have : b = g := by simp [Value.ownBlock] at hb; exact hb.symm
  subst this
  have h0 : 0 < l.length := List.length_pos_iff.2 hl
  refine ⟨by omega, l[0].1, ?_, hv _ (List.getElem_mem h0)⟩
  have := (h5 0 h0).1
  simpa using this
theorem cell_two (w : World) (a b : Value) (ty : TypeId) : ∀ j u, [a, b][j]? = some u → (w.alloc (.cells #[a, b] ty)).cell? ((⟨w.heap.size, 0, none⟩ : Addr).add j) = some u := by
  intro j u h
  have hb := heap_alloc_new w (.cells #[a, b] ty)
  rw [Addr.add_lit]
  rcases j with _ | _ | j
  · simp at h; subst h; simp only [World.cell?, hb]; rfl
  · simp at h; subst h; simp only [World.cell?, hb]; rfl
  · simp at h
def RepI (l : List (Value × Value)) (t : Tr) : Prop := ∀ Pb n0 W, Rep Pb n0 W (.its l) t
/-- the items read -/
def ItemsQ (Pb : Nat) (ws : List RW) (k n0 k' : Nat) (x : Value) (w' : World) : Prop := ∃ l t, l ≠ [] ∧ Lay Pb n0 w' x l ∧ RepI l t ∧ D items (sl ws k k') (nd { kind := [114, 111, 119] } t)
theorem list_end {ws : List RW} {k1 : Nat} (h : hd ws k1 ≠ some comma) : ans (R items) (tk ws k1) = some (tk ws k1) := by
  cases e : tk ws k1 with
  | nil => exact ans_R_nil items (by simp)
  | cons u r => rw [ans_Ritems_cons, if_neg (fun hu => h (by rw [tk_first e, hu]))]
theorem list_on {ws : List RW} {k1 : Nat} (h : hd ws k1 = some comma) : ans (R items) (tk ws k1) = (ans (P NT.item) (tk ws (k1 + 1))).bind (ans (R items)) := by
  rw [tk_hd h, ans_Ritems_cons, if_pos rfl]
set_option maxRecDepth 10000 in
set_option maxHeartbeats 2000000 in
theorem p_list_items (Pb : Nat) (ws : List RW) (k : Nat) (W : World) (hP : PS Pb ws k W) (hq : ∀ k' W', k ≤ k' → PS Pb ws k' W' → Calls Tryz.prog 138 #[.pointer (some ⟨Pb, 0, none⟩)] W' (Got Pb ws k' (ans (P NT.item) (tk ws k')) (ItemQ ws k') W')) :
    Calls Tryz.prog 137 #[.pointer (some ⟨Pb, 0, none⟩), .func (.func 138) #[.pointer (some ⟨Pb, 0, none⟩)] #[]] W (Got Pb ws k (ans (P items) (tk ws k)) (ItemsQ Pb ws k W.heap.size) W) := by
  have hok := hP.ok
  have hlen := hP.len
  have hPb := hP.lt
  obtain ⟨i0, hi0, hz0, hz1, hz2⟩ := info_parts Tryz.infoItem
  go_enter Tryz.func137, Tryz.ntmps137
  go_wp2_with fail
  refine (hq k W (Nat.le_refl _) hP).mono ?_
  rintro e w1 (⟨k1, x, hle, hA, rfl, ⟨n, y, s, t, rfl, hD, hR⟩, hP1, hK1⟩ | ⟨hA, b, rfl, h1, h2, h3⟩)
  · have HA1 : Hid (ans (P items) (tk ws k) = ans (R items) (tk ws k1)) := by show _ = _; rw [ans_items, hA, Option.bind_some]
    have HD : Hid (D items (sl ws k k1) (nd { kind := [114, 111, 119] } (l1 (nd { kind := [105, 116, 101, 109], as_ := s } (l1 t))))) := .iOne hD
    have hfar := ans_shorter hA
    rw [tk_len, tk_len] at hfar
    clear hA hD
    unfold strV
    have hl1 := hP1.le
    have hR1 : RepI [(.iface n y, .string ⟨s.toArray⟩)] (l1 (nd { kind := [105, 116, 101, 109], as_ := s } (l1 t))) := fun _ _ _ => .icons (hR _ _ _) .inil
    have hown : (w1.alloc (.cells #[.iface n y, .string ⟨s.toArray⟩] 244)).ownsRow W.heap.size 244 2 (.slice (some ⟨w1.heap.size, 0, none⟩) 1 1) 1 (cells2 [(.iface n y, .string ⟨s.toArray⟩)]) := World.ownsRow_lit w1 #[.iface n y, .string ⟨s.toArray⟩] 1 hK1.size (by unfold maxLen; omega) rfl
    go_wp2_with fail
    go_loopg [5] (ws.length - k1 + 1) (fun gk pv wr => ∃ (k1 : Nat) (l : List (Value × Value)) (t : Tr), gk = ws.length - k1 + 1 ∧ k1 ≤ ws.length ∧ k ≤ k1 ∧ l ≠ [] ∧ l.length ≤ k1 ∧ (∀ p ∈ l, ∀ n, p.1 ≠ .int .i64 n) ∧ wr.ownsRow W.heap.size 244 2 pv l.length (cells2 l) ∧ Hid (D items (sl ws k k1) (nd { kind := [114, 111, 119] } t)) ∧ RepI l t ∧ Hid (ans (P items) (tk ws k) = ans (R items) (tk ws k1)) ∧ PS Pb ws k1 wr ∧ Keep Pb W wr)
    case atStart => exact ⟨k1, _, _, rfl, hl1, hle, by simp, by simp; omega, by intro p hp n; simp at hp; rw [hp]; simp, hown, HD, hR1, HA1, hP1.keep (wsum _), hK1.trans (Keep.alloc Pb _ _)⟩
    case round =>
      obtain ⟨k1, l, t, rfl, hl1, hle, hne, hll, hni, hown, HD, hR, HA1, hP1, hK⟩ := hrel
      go_wp2_with fail
      refine (p_takeT Pb ws k1 [44] comma _ hP1 (by decide)).mono ?_
      rintro e w2 ⟨hK2, ⟨hi, rfl, hP2⟩ | ⟨hi, rfl, hP2⟩⟩
      · have Hi : Hid (hd ws k1 = some comma) := hi
        clear hi
        go_wp2_with fail
        refine (hq (k1 + 1) _ (by omega) hP2).mono ?_
        rintro e w3 (⟨k3, x, hle3, hA3, rfl, ⟨n3, y3, s3, t3, rfl, hD3, hR3⟩, hP3, hK3⟩ | ⟨hA3, b, rfl, h1, h2, h3⟩)
        · unfold strV
          have hown3 := own_keepP hown (hK2.trans hK3) hPb
          have hK0 := hK.trans (hK2.trans hK3)
          have hl3 := hP3.le
          have hsz3 := hK0.size
          have hown3a := hown3.alloc (.cells #[.iface n3 y3, .string ⟨s3.toArray⟩] 244)
          have hP3a := hP3.keep (wsum (.cells #[.iface n3 y3, .string ⟨s3.toArray⟩] 244))
          have hK0a := hK0.trans (Keep.alloc Pb w3 (.cells #[.iface n3 y3, .string ⟨s3.toArray⟩] 244))
          have HA5 : Hid (ans (P items) (tk ws k) = ans (R items) (tk ws k3)) := by show _ = _; rw [HA1.out, list_on Hi.out, hA3, Option.bind_some]
          have HD5 : Hid (D items (sl ws k k3) (nd { kind := [114, 111, 119] } (t.snoc (nd { kind := [105, 116, 101, 109], as_ := s3 } (l1 t3))))) := by
            show D _ _ _
            have lc := hd_lt Hi.out
            rw [sl_app ws (show k ≤ k1 by omega) (show k1 ≤ k3 by omega), sl_cons lc (by omega)]
            exact .iMore (hd_tok Hi.out lc) HD.out hD3
          have hR5 : RepI (l ++ [(.iface n3 y3, .string ⟨s3.toArray⟩)]) (t.snoc (nd { kind := [105, 116, 101, 109], as_ := s3 } (l1 t3))) := fun _ _ _ => (hR _ _ _).isnoc (hR3 _ _ _)
          have hne5 : l ++ [(.iface n3 y3, .string ⟨s3.toArray⟩)] ≠ [] := by simp
          have hni5 : ∀ p ∈ l ++ [((.iface n3 y3, .string ⟨s3.toArray⟩) : Value × Value)], ∀ n, p.1 ≠ .int .i64 n := by
            intro p hp n
            rcases List.mem_append.1 hp with hp | hp
            · exact hni p hp n
            · simp at hp; rw [hp]; simp
          have hrow := row_first hown3a hne hni hPb
          have hc5 : cells2 (l ++ [((.iface n3 y3, .string ⟨s3.toArray⟩) : Value × Value)]) = cells2 l ++ [.iface n3 y3, .string ⟨s3.toArray⟩] := by simp [cells2]
          have HC5 : Hid (cells2 (l ++ [((.iface n3 y3, .string ⟨s3.toArray⟩) : Value × Value)]) = cells2 l ++ [.iface n3 y3, .string ⟨s3.toArray⟩]) := hc5
          have HL5 : Hid ((l ++ [((.iface n3 y3, .string ⟨s3.toArray⟩) : Value × Value)]).length = l.length + 1) := by show _ = _; simp
          clear hc5 hA3 hD3 HA1 HD hR hR3
          go_wp2_with (at_builtin; go_must (refine wpList_append_own _ rfl _ _ 231 rfl W.heap.size 244 i0 (.agg #[.nilIface, .string ⟨#[]⟩]) 2 32 Tryz.underlying231 hi0 hz0 hz1 hz2 rfl (by decide) _ _ _ rfl hown3a ⟨w3.heap.size, 0, none⟩ 1 1 [.iface n3 y3, .string ⟨s3.toArray⟩] rfl rfl (cell_two _ _ _ _) (by simp [Value.oneCell']) (by unfold maxLen; omega) (by omega) (by simp; omega) ?_); intro v' w5 hown' hgrow _)
          go_roundg (ws.length - k3 + 1)
          case measure => omega
          case rel => exact ⟨k3, _, _, rfl, hl3, by omega, hne5, by rw [HL5.out]; omega, hni5, by rw [HL5.out, HC5.out]; exact hown', HD5, hR5, HA5, hP3a.grown hgrow hrow, keep_grown hK0a hown3a hgrow⟩
        · have HA : Hid (ans (P items) (tk ws k) = none) := by show _ = _; rw [HA1.out, list_on Hi.out, hA3]; rfl
          clear hA3 HA1
          go_wp2
          exact ⟨rfl, .inr ⟨HA.out, b, rfl, h1, h2, hK.trans (hK2.trans h3)⟩⟩
      · have HA : Hid (ans (P items) (tk ws k) = some (tk ws k1)) := by show _ = _; rw [HA1.out, list_end hi]
        have HL : Hid (Lay Pb W.heap.size w2 u5 l) := lay_of (own_keepP hown hK2 hPb) hne hPb
        clear hi HA1
        go_wp2_with fail
        go_ret
        exact .inl ⟨k1, _, hle, HA.out, rfl, ⟨l, t, hne, HL.out, hR, HD.out⟩, hP2, hK.trans hK2⟩
  · have HA : Hid (ans (P items) (tk ws k) = none) := by show _ = _; rw [ans_items, hA]; rfl
    clear hA
    go_wp2
    exact ⟨rfl, .inr ⟨HA.out, b, rfl, h1, h2, h3⟩⟩
end Gr
end Go.Proofs.YtfkdfplnhlnnoaaGreatDoor
end
