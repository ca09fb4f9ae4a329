/- The document's answer (package bagsref): Data. -/
import Derived.Test.YtfkdfplnhlnnoaaGreatDoorBgSpec
namespace Go.Proofs.YtfkdfplnhlnnoaaGreatDoor
open Go.RowKit
set_option linter.unusedSimpArgs false
set_option linter.unusedVariables false

theorem RefIn.below {B : Nat} {st : RSt} {tb : List Tb3} {ov : Value} {W W' : World} (h : RefIn B st tb ov W) (hB : Below W.heap.size W W') : RefIn B st tb ov W' := by
  obtain ⟨ts, h1, h2, h4, h3⟩ := h.mem
  refine ⟨Nat.le_trans h.hB hB.size, h.n8, ts, own_below h1 hB, h2, h4.mono (fun _ _ _ h => own_below h hB), ?_⟩
  cases hl : st.last with
  | none => rw [hl] at h3; exact h3
  | some tr =>
    rw [hl] at h3
    obtain ⟨ts', nm, a1, c1, a2, c2, a3, c3, rs, q1, q2, q3, q4⟩ := h3
    exact ⟨ts', nm, a1, c1, a2, c2, a3, c3, rs, q1, own_below q2 hB, own_below q3 hB, q4⟩
/-- the tables of the document's answer -/
def DataIn (B : Nat) (W : World) (v : Value) (tb : List Tb3) : Prop := ∃ ts, W.ownsRow B 46 4 v tb.length (tabsCells ts) ∧ TbsIn B W tb ts
theorem Tryz.infoTab : (Tryz.prog.info? 46).map (fun i => (i.zero, i.size, i.bytes)) = some (some (.agg #[.string ⟨#[]⟩, .slice none 0 0, .slice none 0 0, .slice none 0 0]), 4, 88) := by kernel_rfl
theorem pairs_lenG : ∀ (n : Nat) (l : List Bg.Str), l.length ≤ n → (pairsOf l).length = l.length / 2
  | _, [], _ => rfl
  | _, [_], _ => by simp [pairsOf]
  | n + 2, a :: b :: r, h => by simp only [pairsOf, List.length_cons]; rw [pairs_lenG n r (by simpa using h)]; omega
  | 1, a :: b :: r, h => by simp at h
  | 0, a :: b :: r, h => by simp at h
theorem headOk_len {l : List Bg.Str} (h : headOk l = true) : 1 ≤ (pairsOf (l.drop 2)).length ∧ (pairsOf (l.drop 2)).length ≤ 6 := by
  unfold headOk at h
  have h1 : headLen l.length = true := by cases hh : headLen l.length <;> simp [hh] at h ⊢
  have h2 : 4 ≤ l.length ∧ l.length % 2 = 0 ∧ l.length ≤ 14 := of_decide_eq_true h1
  rw [pairs_lenG _ _ (Nat.le_refl _)]
  simp; omega
theorem own_mono {w : World} {B B' e sz n : Nat} {v : Value} {xs : List Value} (h : w.ownsRow B e sz v n xs) (hb : B' ≤ B) : w.ownsRow B' e sz v n xs :=
  ⟨h.1, h.2.imp id fun ⟨g, cap, cur, h1, h2, h3⟩ => ⟨g, cap, cur, h1, Nat.le_trans hb h2, h3⟩⟩
theorem TbsIn.low {B B' : Nat} {W : World} {tb : List Tb3} {ts : List (Bg.Str × Value × Value × Value)} (h : TbsIn B W tb ts) (hb : B' ≤ B) : TbsIn B' W tb ts :=
  ⟨h.len, fun p hp => ⟨(h.all p hp).nm, own_mono (h.all p hp).cols hb, own_mono (h.all p hp).types hb, (h.all p hp).rows⟩⟩
theorem tabsCells_at (ts : List (Bg.Str × Value × Value × Value)) (t : Bg.Str × Value × Value × Value) (j : Nat) : (tabsCells (ts ++ [t]))[ts.length * 4 + j]? = [strV t.1, t.2.1, t.2.2.1, t.2.2.2][j]? := by
  rw [tabsCells_app, List.getElem?_append_right (by rw [tabsCells_len]; omega), tabsCells_len, Nat.add_sub_cancel_left]; rfl
theorem tabsCells_set (ts : List (Bg.Str × Value × Value × Value)) (t : Bg.Str × Value × Value × Value) (u : Value) : (tabsCells (ts ++ [t])).set (ts.length * 4 + 3) u = tabsCells (ts ++ [(t.1, t.2.1, t.2.2.1, u)]) := by
  rw [tabsCells_app, tabsCells_app, List.set_append, if_neg (by rw [tabsCells_len]; omega), tabsCells_len, Nat.add_sub_cancel_left]; rfl
theorem row_none {st : RSt} {p : Bg.Str} {ps : List Bg.Str} (h1 : ¬ p = sTable) (h2 : p = sRow) (h3 : rowFits st ps.length = none) : refPieces st p ps = none := by
  unfold refPieces; rw [if_neg h1, if_pos h2, h3]
theorem row_some {st : RSt} {p : Bg.Str} {ps types : List Bg.Str} {rows : Nat} (h1 : ¬ p = sTable) (h2 : p = sRow) (h3 : rowFits st ps.length = some (types, rows)) :
    refPieces st p ps = if valsOk ps types = true then some ⟨st.names, some (types, rows + 1)⟩ else none := by
  unfold refPieces; rw [if_neg h1, if_pos h2, h3]
theorem Tryz.infoVal3 : (Tryz.prog.info? 52).map (fun i => (i.zero, i.size, i.bytes)) = some (some (.agg #[.string ⟨#[]⟩, .int .i64 0, .string ⟨#[]⟩]), 3, 40) := by kernel_rfl
theorem cell_three (w : World) (a b c : Value) (ty : TypeId) : ∀ j u, [a, b, c][j]? = some u → (w.alloc (.cells #[a, b, c] ty)).cell? ((⟨w.heap.size, 0, none⟩ : Addr).add j) = some u := by
  intro j u h
  obtain ⟨q0, q1, q2, _⟩ := cells3 (heap_alloc_new w (.cells #[a, b, c] ty))
  rw [Addr.add_lit]
  rcases j with _ | _ | _ | j
  · cases h; exact q0
  · cases h; exact q1
  · cases h; exact q2
  · simp at h
theorem Tryz.infoRowV : (Tryz.prog.info? 50).map (fun i => (i.zero, i.size, i.bytes)) = some (some (.slice none 0 0), 1, 24) := by kernel_rfl
theorem cell_four (w : World) (a b c d : Value) (ty : TypeId) : ∀ j u, [a, b, c, d][j]? = some u → (w.alloc (.cells #[a, b, c, d] ty)).cell? ((⟨w.heap.size, 0, none⟩ : Addr).add j) = some u := by
  intro j u h
  obtain ⟨q0, q1, q2, q3, _⟩ := cells4 (heap_alloc_new w (.cells #[a, b, c, d] ty))
  rw [Addr.add_lit]
  rcases j with _ | _ | _ | _ | j
  · cases h; exact q0
  · cases h; exact q1
  · cases h; exact q2
  · cases h; exact q3
  · simp at h
theorem refStep_nil {st : RSt} {x : Bg.Str} (h : Bg.pieces x = some []) : refStep st x = some st := by unfold refStep; rw [h]
theorem refStep_none {st : RSt} {x : Bg.Str} (h : Bg.pieces x = none) : refStep st x = none := by unfold refStep; rw [h]
theorem refStep_cons {st : RSt} {x p : Bg.Str} {ps : List Bg.Str} (h : Bg.pieces x = some (p :: ps)) : refStep st x = refPieces st p ps := by unfold refStep; rw [h]

set_option maxRecDepth 100000 in
set_option maxHeartbeats 4000000 in
theorem ref_data2 (s : Bg.Str) (W : World) (hs : s.length ≤ 4000) :
    Calls Tryz.prog 7 #[.string ⟨s.toArray⟩] W fun e W' => ∃ v, e = .returned (.tuple #[v, .int .i64 (refRun ⟨[], none⟩ 0 (Bg.lines s))]) ∧ Below W.heap.size W W' ∧ Hid (refRun ⟨[], none⟩ 0 (Bg.lines s) = -1 → DataIn W.heap.size W' v (tbRun [] (Bg.lines s))) := by
  have hex := Bg.ext_mk
  have hmem : ∀ x ∈ Bg.lines s, x.length ≤ 4000 := fun x hx => Nat.le_trans (Bg.lines_mem hx) hs
  have hlen : (Bg.lines s).length ≤ 4001 := Nat.le_trans (Bg.lines_len s) (by omega)
  have hrl := fun w => ref_lines s w (by omega)
  generalize Bg.lines s = ls at hmem hlen hrl ⊢
  generalize hRR : refRun ⟨[], none⟩ 0 ls = R
  have HRR : Hid (refRun ⟨[], none⟩ 0 ls = R) := hRR
  clear hRR
  generalize hTT : tbRun [] ls = TT
  have HTT : Hid (tbRun [] ls = TT) := hTT
  clear hTT
  go_enter Tryz.func7, Tryz.ntmps7
  go_wp2_with fail
  refine (hrl _).mono ?_
  rintro e w1 ⟨lv, rfl, hlv, hB0⟩
  clear hrl
  obtain ⟨al, capl, rfl⟩ := own_slice hlv
  go_wp2
  go_loopg [4, 6] (ls.length - 0 + 1) (fun gk ov i wr => ∃ (k : Nat) (st : RSt) (tb : List Tb3), k ≤ ls.length ∧ gk = ls.length - k + 1 ∧ i = .int .i64 k ∧ RefIn w1.heap.size st tb ov wr ∧ Below w1.heap.size w1 wr ∧ Hid (refRun st k (ls.drop k) = R) ∧ Hid (tbRun tb (ls.drop k) = TT))
  case atStart => exact ⟨0, ⟨[], none⟩, [], by omega, rfl, rfl, ⟨Nat.le_refl _, by simp, [], World.ownsRow_nil _ _ _ _, rfl, ⟨rfl, fun p hp => by cases hp⟩, rfl⟩, Below.refl _ _, HRR, HTT⟩
  case round =>
    obtain ⟨k, st, tb, hk, rfl, rfl, hI, hB, hq, hqt⟩ := hrel
    obtain ⟨ov', capo, eo⟩ : ∃ a cap, u4 = .slice a st.names.length cap := by obtain ⟨ts, h, _⟩ := hI.mem; exact own_slice h
    subst eo
    by_cases hlt : k < ls.length
    · obtain ⟨gl, hal, hgl, hcx⟩ : ∃ gl, al = some ⟨gl, 0, none⟩ ∧ gl < w1.heap.size ∧ w1.cell? ⟨gl, k, none⟩ = some (strV ls[k]) := by
        rcases hlv.2 with ⟨e, h0⟩ | ⟨g, cap, cur, e, _, hh, _⟩
        · omega
        · cases e
          refine ⟨g, rfl, (Array.getElem?_eq_some_iff.1 hh).1, ?_⟩
          have := hlv.cells (g := g) rfl k (strV ls[k]) (by simp [List.getElem?_eq_getElem hlt])
          rw [Addr.add_lit] at this
          simpa using this
      subst hal
      have cx : wr.cell? ⟨gl, k, none⟩ = some (.string ⟨ls[k].toArray⟩) := (hB.cell (p := ⟨gl, k, none⟩) hgl).trans hcx
      have hx : ls[k].length ≤ 4000 := hmem _ (List.getElem_mem hlt)
      have HD : Hid (ls.drop k = ls[k] :: ls.drop (k + 1)) := List.drop_eq_getElem_cons hlt
      clear hcx hlv
      generalize hxe : ls[k] = x at cx hx HD
      clear hxe
      go_wp2_with fail
      refine (ref_pieces x _ (by omega)).mono ?_
      intro e w2 hp
      cases hpc : Bg.pieces x with
      | none =>
        rw [hpc] at hp
        obtain ⟨rfl, hB2⟩ := hp
        have HR : Hid (R = (k : Int) + 1) := by show _ = _; rw [← hq.out, HD.out, refRun_none (refStep_none hpc)]
        clear hpc cx
        go_wp2
        go_ret2
        have e := HR.out
        subst e
        exact ⟨_, rfl, hB0.trans ((hB.trans (hB2.mono hB.size)).mono hB0.size), fun h => absurd h (by omega)⟩
      | some l =>
        rw [hpc] at hp
        obtain ⟨pv, rfl, hpv, hB2⟩ := hp
        obtain ⟨ap, capp, rfl⟩ := own_slice hpv
        have hpm := Bg.pieces_mem hpc
        cases l with
        | nil =>
          have HR : Hid (refRun st (k + 1) (ls.drop (k + 1)) = R) := by show _ = _; rw [← hq.out, HD.out, refRun_some (refStep_nil hpc)]
          have HT : Hid (tbRun tb (ls.drop (k + 1)) = TT) := by show _ = _; rw [← hqt.out, HD.out, tbRun, tbLine, hpc]
          clear hpc cx
          go_wp2
          go_roundg (ls.length - (k + 1) + 1)
          case measure => omega
          case rel => exact ⟨k + 1, st, tb, by omega, rfl, by exact vint (by omega), hI.below hB2, hB.trans (hB2.mono hB.size), HR, HT⟩
        | cons p ps =>
          have hpl2 := Bg.pieces_len hpc
          have HPS : Hid (refStep st x = refPieces st p ps) := refStep_cons hpc
          have HTL : Hid (tbRun (if p = sTable then tb ++ [(ps.getD 0 [], (pairsOf (ps.drop 1)).map (·.1), (pairsOf (ps.drop 1)).map (·.2))] else tb) (ls.drop (k + 1)) = TT) := by show _ = _; rw [← hqt.out, HD.out, tbRun, tbLine, hpc]
          clear hpc cx
          have hvw := own_view (l := p :: ps) hpv
          obtain ⟨gp, hap, hgp⟩ : ∃ gp, ap = some ⟨gp, 0, none⟩ ∧ ∀ j (h : j < (p :: ps).length), w2.cell? ⟨gp, j, none⟩ = some (strV ((p :: ps)[j])) := by
            obtain ⟨a, cap, e, hc⟩ := hvw
            cases e
            rcases hpv.2 with ⟨e, h0⟩ | ⟨g, cap, cur, e, _⟩
            · cases h0
            · cases e
              refine ⟨g, rfl, fun j h => ?_⟩
              obtain ⟨g1, o1, e1, h1⟩ := hc j h
              cases e1
              simpa using h1
          subst hap
          have HGP : Hid (∀ j (h : j < (p :: ps).length), w2.cell? ⟨gp, j, none⟩ = some (strV ((p :: ps)[j]))) := hgp
          clear hgp
          have cp0 : w2.cell? ⟨gp, 0, none⟩ = some (.string ⟨p.toArray⟩) := HGP.out 0 (by simp)
          have hpll : (p :: ps).length ≤ 90000 := by omega
          have hps : ps.length ≤ 90000 := by simp at hpll; omega
          have hpl : ∀ y ∈ p :: ps, y.length ≤ 90000 := fun y hy => by have := (hpm y hy).2; omega
          have hB02 : Below w1.heap.size w1 w2 := hB.trans (hB2.mono hB.size)
          have hI2 := hI.below hB2
          by_cases htb : p = sTable
          · have hb1 : (p == [116, 97, 98, 108, 101]) = true := by rw [htb]; rfl
            have HTB : Hid (p = sTable) := htb
            clear htb
            go_wp2_with fail
            refine (ref_headed_all _ (p :: ps) _ hpl hpll hvw).mono ?_
            rintro e w3 ⟨nm, a1, a2, n1, n2, c1, c2, rfl, HH, hB3⟩
            cases hho : headOk (p :: ps) with
            | false =>
              have HR : Hid (R = (k : Int) + 1) := by show _ = _; rw [← hq.out, HD.out, refRun_none (by rw [HPS.out]; unfold refPieces; rw [if_pos HTB.out, if_neg (by rw [hho]; simp)])]
              clear hho
              go_wp2
              go_ret2
              have e := HR.out
              subst e
              exact ⟨_, rfl, hB0.trans ((hB02.trans ((hB3.alloc (Nat.le_trans (Nat.le_refl _) hB3.size) _).mono (by have := hB2.size; have := hB.size; omega))).mono hB0.size), fun h => absurd h (by omega)⟩
            | true =>
              have HHO : Hid (headOk (p :: ps) = true) := hho
              obtain ⟨hnm, hn1, hn2, htv, hcv⟩ := HH.out hho
              have hl6 := headOk_len hho
              clear hho HH
              have HNM : Hid (nm = ps.getD 0 []) := hnm
              have HN1 : Hid (n1 = (pairsOf (ps.drop 1)).length) := hn1
              have HN2 : Hid (n2 = (pairsOf (ps.drop 1)).length) := hn2
              clear hnm hn1 hn2
              by_cases h8 : st.names.length = 8
              · have hb8 : ((st.names.length : Int) == 8) = true := by simp [h8]
                have HR : Hid (R = (k : Int) + 1) := by show _ = _; rw [← hq.out, HD.out, refRun_none (by rw [HPS.out]; unfold refPieces; rw [if_pos HTB.out, if_neg (by intro h; exact h.2.1 h8)])]
                clear h8
                go_wp2
                go_ret2
                have e := HR.out
                subst e
                exact ⟨_, rfl, hB0.trans ((hB02.trans ((hB3.alloc (Nat.le_trans (Nat.le_refl _) hB3.size) _).mono (by have := hB2.size; have := hB.size; omega))).mono hB0.size), fun h => absurd h (by omega)⟩
              · have hb8 : ((st.names.length : Int) == 8) = false := by simp; omega
                have H8 : Hid (st.names.length ≠ 8) := h8
                clear h8
                have hA3 : Below w2.heap.size w2 (w3.alloc (.cells #[.string ⟨nm.toArray⟩, .slice a1 n1 c1, .slice a2 n2 c2, .slice none 0 0] 46)) := hB3.alloc hB3.size _
                have hI3 := hI2.below hA3
                obtain ⟨ts, ho3, hn3, htb3, _⟩ := hI3.mem
                have hvn := own_names ho3 hn3
                have hT3 := heap_alloc_new w3 (.cells #[.string ⟨nm.toArray⟩, .slice a1 n1 c1, .slice a2 n2 c2, .slice none 0 0] 46)
                have hn8 := hI.n8
                go_wp2_with fail
                refine (ref_find _ st.names nm _ (by omega) hvn).mono ?_
                rintro e w4 ⟨r, rfl, hfo, hB4⟩
                have hBW4 : Below w1.heap.size w1 w4 := hB02.trans ((hA3.trans (hB4.mono hA3.size)).mono hB02.size)
                by_cases hin : nm ∈ st.names
                · have hr : 0 ≤ r := hfo.1 hin
                  have HR : Hid (R = (k : Int) + 1) := by show _ = _; rw [← hq.out, HD.out, refRun_none (by rw [HPS.out]; unfold refPieces; rw [if_pos HTB.out, if_neg (by rw [← HNM.out]; intro h; exact h.2.2 hin)])]
                  clear hin hfo
                  go_wp2
                  go_ret2
                  have e := HR.out
                  subst e
                  exact ⟨_, rfl, hB0.trans (hBW4.mono hB0.size), fun h => absurd h (by omega)⟩
                · obtain rfl : r = -1 := hfo.2 hin
                  have HR : Hid (refRun ⟨st.names ++ [nm], some ((pairsOf (ps.drop 1)).map (·.2), 0)⟩ (k + 1) (ls.drop (k + 1)) = R) := by
                    show _ = _
                    rw [← hq.out, HD.out]
                    refine (refRun_some ?_).symm
                    rw [HPS.out]; unfold refPieces; rw [if_pos HTB.out, if_pos ⟨HHO.out, H8.out, by rw [← HNM.out]; exact hin⟩, HNM.out]
                  clear hin hfo
                  have hT4 := (hB4.block w3.heap.size (by simp)).trans hT3
                  obtain ⟨q0, q1, q2, q3, _⟩ := cells4 hT4
                  have ho4 := own_below ho3 hB4
                  have htv4 := own_below (own_below htv ((Below.refl _ w3).alloc (Nat.le_refl _) (.cells #[.string ⟨nm.toArray⟩, .slice a1 n1 c1, .slice a2 n2 c2, .slice none 0 0] 46))) hB4
                  have hcv4 := own_below (own_below hcv ((Below.refl _ w3).alloc (Nat.le_refl _) (.cells #[.string ⟨nm.toArray⟩, .slice a1 n1 c1, .slice a2 n2 c2, .slice none 0 0] 46))) hB4
                  obtain ⟨i0, hi, hz0, hz1, hz2⟩ := info_parts Tryz.infoTab
                  have hw4 : w1.heap.size ≤ w4.heap.size := hBW4.size
                  go_wp2_with (at_builtin; go_must (refine wpList_append_own _ rfl _ _ 24 rfl w1.heap.size 46 i0 (.agg #[.string ⟨#[]⟩, .slice none 0 0, .slice none 0 0, .slice none 0 0]) 4 88 Tryz.underlying24 hi hz0 hz1 hz2 rfl (by decide) _ _ _ rfl (ho4.alloc _) ⟨w4.heap.size, 0, none⟩ 1 1 [.string ⟨nm.toArray⟩, .slice a1 n1 c1, .slice a2 n2 c2, .slice none 0 0] rfl rfl (cell_four _ _ _ _ _ _) (by simp [Value.oneCell']) (by unfold maxLen; omega) (by omega) (by simp; omega) ?_); intro v' w5 hown' hgrow _)
                  go_roundg (ls.length - (k + 1) + 1)
                  case measure => omega
                  case rel =>
                    have hBF := below_append hBW4 hw4 ho4 hgrow
                    have e1 := HN1.out
                    have e2 := HN2.out
                    subst e1 e2
                    have hk5 : ∀ v n xs, w4.ownsRow w2.heap.size 9 1 v n xs → w5.ownsRow w1.heap.size 9 1 v n xs := fun v n xs h => own_mono (own_grown (h.alloc _) hgrow (own_types h ho4 (by decide))) (by have := hB02.size; omega)
                    have hk5' : ∀ v n xs, w4.ownsRow w1.heap.size 9 1 v n xs → w5.ownsRow w1.heap.size 9 1 v n xs := fun v n xs h => own_grown (h.alloc _) hgrow (own_types h ho4 (by decide))
                    have htb5 := (htb3.mono (fun _ _ _ h => own_below h hB4)).mono hk5'
                    have ht := HTL.out
                    rw [if_pos HTB.out] at ht
                    refine ⟨k + 1, ⟨st.names ++ [nm], some ((pairsOf (ps.drop 1)).map (·.2), 0)⟩, _, by omega, rfl, by exact vint (by omega), ⟨hBF.size, by simp; have := H8.out; omega, ts ++ [(nm, .slice a1 (pairsOf (ps.drop 1)).length c1, .slice a2 (pairsOf (ps.drop 1)).length c2, .slice none 0 0)], ?_, by simp [hn3], htb5.add ⟨HNM.out, ?_, ?_, none, 0, 0, rfl⟩, ts, nm, a1, c1, a2, c2, none, 0, [], ?_, ?_, World.ownsRow_nil _ _ _ _, by omega, ?_, ?_⟩, hBF, HR, ht⟩
                    · rw [tabsCells_app, List.length_append]
                      exact hown'
                    · simp only [List.length_map]
                      exact hk5 _ _ _ hcv4
                    · simp only [List.length_map]
                      exact hk5 _ _ _ htv4
                    · simp
                    · simp only [List.length_map]
                      exact own_mono (own_grown (htv4.alloc _) hgrow (own_types htv4 ho4 (by decide))) (by have := hB02.size; omega)
                    · simp only [List.length_map]; exact hl6.2
                    · simp only [List.length_map]; exact hl6.1
          · have hb1 : (p == [116, 97, 98, 108, 101]) = false := by simpa [sTable] using htb
            have HTB : Hid (¬ p = sTable) := htb
            clear htb
            have hn8 := hI.n8
            by_cases hrw : p = sRow
            · have hb2 : (p == [114, 111, 119]) = true := by rw [hrw]; rfl
              have hb2' : (p != [114, 111, 119]) = false := by rw [hrw]; rfl
              have HRW : Hid (p = sRow) := hrw
              clear hrw
              cases hla : st.last with
              | none =>
                have HR : Hid (R = (k : Int) + 1) := by show _ = _; rw [← hq.out, HD.out, refRun_none (by rw [HPS.out]; exact row_none HTB.out HRW.out (by unfold rowFits; rw [hla]))]
                have h0 : st.names.length = 0 := by
                  obtain ⟨ts, _, hn, _, hl⟩ := hI.mem
                  rw [hla] at hl
                  have hl' : ts = [] := hl
                  rw [← hn, hl']; rfl
                clear hla
                rw [h0]
                go_wp2
                go_ret2
                have e := HR.out
                subst e
                exact ⟨_, rfl, hB0.trans (hB02.mono hB0.size), fun h => absurd h (by omega)⟩
              | some tr =>
                obtain ⟨types, rows⟩ := tr
                obtain ⟨ts, ho, hn, htbs, hl⟩ := hI2.mem
                rw [hla] at hl
                obtain ⟨ts', nm, a1, c1, a2, c2, a3, c3, rs, ets, htv, hrv, hr12, ht6, ht1⟩ := hl
                subst ets
                have hnl : st.names.length = ts'.length + 1 := by rw [← hn]; simp
                obtain ⟨go, hov⟩ : ∃ go, ov' = some ⟨go, 0, none⟩ := by
                  rcases ho.2 with ⟨_, h0⟩ | ⟨g, cap, cur, e, _⟩
                  · omega
                  · cases e; exact ⟨g, rfl⟩
                subst hov
                have hcell : ∀ j u, [strV nm, .slice a1 types.length c1, .slice a2 types.length c2, .slice a3 rows c3][j]? = some u → w2.cell? ⟨go, ts'.length * 4 + j, none⟩ = some u := by
                  intro j u hj
                  have := ho.cells (g := go) rfl (ts'.length * 4 + j) u (by rw [tabsCells_at]; exact hj)
                  rw [Addr.add_lit] at this
                  simpa using this
                have t1 := hcell 1 _ rfl
                have t2 := hcell 2 _ rfl
                have t3 := hcell 3 _ rfl
                clear hcell
                rw [hnl] at ho ⊢
                generalize htn : ts'.length = m at *
                have HTN : Hid (ts'.length = m) := htn
                have HNL : Hid (st.names.length = m + 1) := hnl
                clear htn hnl
                have hm7 : m ≤ 7 := by have := HNL.out; omega
                by_cases hfit : ps.length = types.length ∧ rows ≠ 12
                · have HFI : Hid (refStep st x = if valsOk ps types = true then some ⟨st.names, some (types, rows + 1)⟩ else none) := by
                    show _ = _
                    rw [HPS.out]; exact row_some HTB.out HRW.out (by unfold rowFits; rw [hla]; simp only; rw [if_pos hfit])
                  have HLE : Hid (ps.length = types.length) := hfit.1
                  have hps6 : ps.length ≤ 6 := by have := hfit.1; omega
                  have d1 : ((ps.length : Int) + 1 != (types.length : Int) + 1) = false := by rw [hfit.1]; simp
                  have d1' : (ps.length : Int) = (types.length : Int) := by rw [hfit.1]
                  have d2 : ((rows : Int) == 12) = false := by have := hfit.2; simp; omega
                  have hr11 : rows ≤ 11 := by have := hfit.2; omega
                  clear hfit hla
                  obtain ⟨ga, hga⟩ : ∃ ga, a2 = some ⟨ga, 0, none⟩ := by
                    rcases htv.2 with ⟨_, h0⟩ | ⟨g, cap, cur, e, _⟩
                    · omega
                    · cases e; exact ⟨g, rfl⟩
                  subst hga
                  have HTY : Hid (∀ j (h : j < types.length), ga < w2.heap.size ∧ w2.cell? ⟨ga, j, none⟩ = some (strV types[j])) := by
                    intro j h
                    have h1 := htv.cells (g := ga) rfl j (strV types[j]) (by simp [List.getElem?_eq_getElem h])
                    rw [Addr.add_lit] at h1
                    have h2 : w2.cell? ⟨ga, j, none⟩ = some (strV types[j]) := by simpa using h1
                    exact ⟨World.block_lt_of_cell? w2 _ h2, h2⟩
                  have hgo : go < w2.heap.size := World.block_lt_of_cell? w2 _ t2
                  have hgpl : gp < w2.heap.size := World.block_lt_of_cell? w2 _ cp0
                  go_wp2
                  go_loopg [12, 13] (ps.length - 0 + 1) (fun gk rv c wi => ∃ (j : Nat) (vs : List Value), j ≤ ps.length ∧ gk = ps.length - j + 1 ∧ c = .int .i64 (j + 1 : Nat) ∧ wi.ownsRow w2.heap.size 52 3 rv j vs ∧ Below w2.heap.size w2 wi ∧
                      Hid (∀ i, i < j → (h : i < ps.length) → (h' : i < types.length) → (refVal ps[i] types[i]).2 = true))
                  case atStart => exact ⟨0, [], by omega, rfl, rfl, World.ownsRow_nil _ _ _ _, Below.refl _ _, by intro i hi; omega⟩
                  case round =>
                    obtain ⟨j, vs, hj, rfl, rfl, hrow, hBi, hvo⟩ := hrel
                    by_cases hjl : j < ps.length
                    · have hjt : j < types.length := by have := HLE.out; omega
                      have ci : wr.cell? ⟨gp, j + 1, none⟩ = some (.string ⟨ps[j].toArray⟩) := (hBi.cell (p := ⟨gp, j + 1, none⟩) hgpl).trans (HGP.out (j + 1) (by simp; omega))
                      have ti : wr.cell? ⟨go, m * 4 + 2, none⟩ = some (.slice (some ⟨ga, 0, none⟩) types.length c2) := (hBi.cell (p := ⟨go, m * 4 + 2, none⟩) hgo).trans t2
                      have yi : wr.cell? ⟨ga, j, none⟩ = some (.string ⟨types[j].toArray⟩) := (hBi.cell (p := ⟨ga, j, none⟩) (HTY.out j hjt).1).trans (HTY.out j hjt).2
                      have hpj := hpm ps[j] (List.mem_cons_of_mem _ (List.getElem_mem hjl))
                      have hrv0 := fun w => ref_value ps[j] types[j] w (by omega) hpj.1
                      have HVJ : Hid ((refVal ps[j] types[j]).2 = true → ∀ i, i < j + 1 → (h : i < ps.length) → (h' : i < types.length) → (refVal ps[i] types[i]).2 = true) := by
                        intro h0 i hi h h'
                        by_cases hij : i = j
                        · subst hij; exact h0
                        · exact hvo.out i (by omega) h h'
                      have HVF : Hid ((refVal ps[j] types[j]).2 = false → valsOk ps types = false) := by
                        intro h0
                        unfold valsOk
                        rw [List.all_eq_false]
                        refine ⟨(ps[j], types[j]), ?_, by simpa using h0⟩
                        rw [List.mem_iff_getElem]
                        exact ⟨j, by simp; omega, by simp⟩
                      generalize ps[j] = pj at ci hrv0 HVJ HVF
                      generalize types[j] = tj at yi hrv0 HVJ HVF
                      generalize refVal pj tj = rvj at hrv0 HVJ HVF
                      clear hpj
                      obtain ⟨⟨kd, nu, tx⟩, gd⟩ := rvj
                      simp only [RVal.v] at hrv0
                      have hj0 : (0 : Int) ≤ (j : Int) + 1 := by omega
                      have hj1 : (j : Int) + 1 < (ps.length : Int) + 1 := by omega
                      have hj2 : (j : Int) < (types.length : Int) := by omega
                      have hj3 : IntKind.i64.wrap ((j : Int) + 1 - 1) = (j : Int) := by rw [IntKind.wrap_i64]; omega
                      have hj5 : IntKind.i64.wrap (j : Int) = (j : Int) := by rw [IntKind.wrap_i64]; omega
                      have hj4 : ((j : Int) + 1).toNat = j + 1 := by omega
                      have cia : ∀ o, (wr.alloc o).cell? ⟨gp, j + 1, none⟩ = some (.string ⟨pj.toArray⟩) := fun o => (World.cell?_alloc_lt wr o ⟨gp, j + 1, none⟩ (Nat.lt_of_lt_of_le hgpl hBi.size)).trans ci
                      have tia : ∀ o, (wr.alloc o).cell? ⟨go, m * 4 + 2, none⟩ = some (.slice (some ⟨ga, 0, none⟩) types.length c2) := fun o => (World.cell?_alloc_lt wr o ⟨go, m * 4 + 2, none⟩ (Nat.lt_of_lt_of_le hgo hBi.size)).trans ti
                      have yia : ∀ o, (wr.alloc o).cell? ⟨ga, j, none⟩ = some (.string ⟨tj.toArray⟩) := fun o => (World.cell?_alloc_lt wr o ⟨ga, j, none⟩ (World.block_lt_of_cell? wr _ yi)).trans yi
                      go_upto_region 24 with fail
                      go_cut [14, 15] (fun pt g wx => ∃ T, pt = .pointer (some ⟨T, 0, none⟩) ∧ g = .bool gd ∧ wx.heap[T]? = some (.cells #[.string ⟨kd.toArray⟩, .int .i64 nu, .string ⟨tx.toArray⟩] 52 (0, 0)) ∧ Below wr.heap.size wr wx)
                      case first =>
                        go_region_with (go_at_call 17; refine (hrv0 _).mono ?_; rintro e w' ⟨rfl, hBv⟩; first | (have hTv : w'.heap[wr.heap.size]? = some (.cells #[.string ⟨#[]⟩, .int .i64 0, .string ⟨#[]⟩] 52 (0, 0)) := (hBv.block wr.heap.size (by simp)).trans (by exact heap_alloc_new _ _); obtain ⟨z0, z1, z2, zf⟩ := cells3 hTv; have zf0 := zf 0; have zf1 := zf 1; have zf2 := zf 2) | skip)
                        all_goals
                          go_wp2_with fail
                          go_meet
                          first
                            | exact ⟨_, rfl, rfl, heap_alloc_new w' _, (show Below wr.heap.size wr w' from ⟨hBv.os, hBv.tape, hBv.output, hBv.size, hBv.block⟩).alloc hBv.size _⟩
                            | exact ⟨wr.heap.size, rfl, rfl, setCell_heap (setCell_heap (setCell_heap hTv)), (((((Below.refl _ wr).alloc (Nat.le_refl _) (.cells #[.string ⟨#[]⟩, .int .i64 0, .string ⟨#[]⟩] 52)).trans ((show Below (wr.alloc (.cells #[.string ⟨#[]⟩, .int .i64 0, .string ⟨#[]⟩] 52)).heap.size (wr.alloc (.cells #[.string ⟨#[]⟩, .int .i64 0, .string ⟨#[]⟩] 52)) w' from ⟨hBv.os, hBv.tape, hBv.output, hBv.size, hBv.block⟩).mono (by simp))).setCell (p := ⟨wr.heap.size, 0, none⟩) (Nat.le_refl _) _).setCell (p := ⟨wr.heap.size, 1, none⟩) (Nat.le_refl _) _).setCell (p := ⟨wr.heap.size, 2, none⟩) (Nat.le_refl _) _⟩
                      case rest =>
                        obtain ⟨T, rfl, rfl, hT, hBc⟩ := hcut
                        clear ci ti yi cia tia yia hrv0
                        obtain ⟨z0, z1, z2, _⟩ := cells3 hT
                        cases gd with
                        | false =>
                          have HR : Hid (R = (k : Int) + 1) := by show _ = _; rw [← hq.out, HD.out, refRun_none (by rw [HFI.out, if_neg (by rw [HVF.out rfl]; simp)])]
                          go_wp2
                          go_ret2
                          have e := HR.out
                          subst e
                          have hBE := hB0.trans ((hB02.trans ((hBi.trans (hBc.mono hBi.size)).mono hB02.size)).mono hB0.size)
                          first
                            | exact ⟨_, rfl, hBE, fun h => absurd h (by omega)⟩
                            | exact ⟨⟨_, rfl⟩, hBE, fun h => absurd h (by omega)⟩
                        | true =>
                          have hrow1 := own_below hrow hBc
                          obtain ⟨i0, hi, hz0, hz1, hz2⟩ := info_parts Tryz.infoVal3
                          have hBic := hBi.trans (hBc.mono hBi.size)
                          have hw2 := hBic.size
                          go_wp2_with (at_builtin; go_must (refine wpList_append_own _ rfl _ _ 50 rfl w2.heap.size 52 i0 (.agg #[.string ⟨#[]⟩, .int .i64 0, .string ⟨#[]⟩]) 3 40 Tryz.underlying50 hi hz0 hz1 hz2 rfl (by decide) _ _ _ rfl (hrow1.alloc _) ⟨wc.heap.size, 0, none⟩ 1 1 [.string ⟨kd.toArray⟩, .int .i64 nu, .string ⟨tx.toArray⟩] rfl rfl (cell_three _ _ _ _ _) (by simp [Value.oneCell']) (by unfold maxLen; omega) (by omega) (by simp; omega) ?_); intro v' w5 hown' hgrow _)
                          go_roundg (ps.length - (j + 1) + 1)
                          case measure => omega
                          case rel => exact ⟨j + 1, _, by omega, rfl, by exact vint (by omega), hown', below_append hBic hw2 hrow1 hgrow, HVJ.out (by first | rfl | trivial)⟩
                    · have HVT : Hid (valsOk ps types = true) := by
                        show _ = _
                        unfold valsOk
                        rw [List.all_eq_true]
                        intro y hy
                        obtain ⟨i, hi, rfl⟩ := List.mem_iff_getElem.1 hy
                        simp only [List.length_zip] at hi
                        simp only [List.getElem_zip]
                        exact hvo.out i (by omega) (by omega) (by omega)
                      have HR : Hid (refRun ⟨st.names, some (types, rows + 1)⟩ (k + 1) (ls.drop (k + 1)) = R) := by
                        show _ = _
                        rw [← hq.out, HD.out]
                        refine (refRun_some ?_).symm
                        rw [HFI.out, if_pos HVT.out]
                      obtain ⟨ar, cr, rfl⟩ := own_slice hrow
                      have hoi := own_below ho hBi
                      have hrvi := own_below hrv hBi
                      have htvi := own_below htv hBi
                      have ti3 : wr.cell? ⟨go, m * 4 + 3, none⟩ = some (.slice a3 rows c3) := (hBi.cell (p := ⟨go, m * 4 + 3, none⟩) hgo).trans t3
                      have hBwi := hB02.trans (hBi.mono hB02.size)
                      have hwi := hBwi.size
                      obtain ⟨i0, hi, hz0, hz1, hz2⟩ := info_parts Tryz.infoRowV
                      have HOI : Hid (wr.ownsRow w1.heap.size 46 4 (.slice (some ⟨go, 0, none⟩) (m + 1) capo) (m + 1) (tabsCells (ts' ++ [(nm, .slice a1 types.length c1, .slice (some ⟨ga, 0, none⟩) types.length c2, .slice a3 rows c3)]))) := hoi
                      have HTI := own_types hoi hrvi (by decide)
                      have HC5 : Hid ((tabsCells (ts' ++ [(nm, .slice a1 types.length c1, .slice (some ⟨ga, 0, none⟩) types.length c2, .slice a3 rows c3)]))[m * 4 + 3]? = some (.slice a3 rows c3)) := by show _ = _; rw [← HTN.out, tabsCells_at]; rfl
                      clear hoi ho t1 t2 t3
                      go_wp2_with (at_builtin; go_must (refine wpList_append_own _ rfl _ _ 44 rfl w1.heap.size 50 i0 (.slice none 0 0) 1 24 Tryz.underlying44 hi hz0 hz1 hz2 rfl (by decide) _ _ _ rfl (hrvi.alloc _) ⟨wr.heap.size, 0, none⟩ 1 1 [.slice ar j cr] rfl rfl (cell_one_new _ _ _) (by simp [Value.oneCell']) (by unfold maxLen; omega) (by omega) (by simp; omega) ?_); intro v' w5 hown' hgrow _; go_must (obtain ⟨g', cap', rfl⟩ := own_succ hown'); go_must (have ho5 := own_grown (HOI.out.alloc _) hgrow HTI); go_must (have f3 := ho5.frozenAt (m * 4 + 3)); go_must (have c5 : w5.cell? ⟨go, m * 4 + 3, none⟩ = some (.slice a3 rows c3) := (ho5.cellAt (m * 4 + 3) (by omega)).trans HC5.out))
                      go_roundg (ls.length - (k + 1) + 1)
                      case measure => omega
                      case rel =>
                        have hgB := (HOI.out.lt go rfl).1
                        have hBF := (below_append hBwi hwi hrvi hgrow).setCell (p := ⟨go, m * 4 + 3, none⟩) hgB (.slice (some ⟨g', 0, none⟩) (rows + 1) cap')
                        have hob : ∃ cur, w5.heap[go]? = some (.cells cur 46 (0, 0)) := by
                          rcases ho5.2 with ⟨h', _⟩ | ⟨g1, cp, cu, e1, _, hh, _⟩
                          · cases h'
                          · cases e1; exact ⟨cu, hh⟩
                        obtain ⟨cur, hob⟩ := hob
                        have h1 := (ho5.stored (m * 4 + 3) (.slice (some ⟨g', 0, none⟩) (rows + 1) cap')).1
                        rw [← HTN.out, tabsCells_set, HTN.out] at h1
                        have hk5 : ∀ v n xs, wr.ownsRow w1.heap.size 9 1 v n xs → (w5.setCell ⟨go, m * 4 + 3, none⟩ (.slice (some ⟨g', 0, none⟩) (rows + 1) cap')).ownsRow w1.heap.size 9 1 v n xs := fun v n xs h => own_setCell (own_grown (h.alloc _) hgrow (own_types h hrvi (by decide))) hob (by decide)
                        have htb5 := ((htbs.mono (fun _ _ _ h => own_below h hBi)).mono hk5).rows (a' := some ⟨g', 0, none⟩) (n' := rows + 1) (c' := cap')
                        have ht := HTL.out
                        rw [if_neg HTB.out] at ht
                        refine ⟨k + 1, ⟨st.names, some (types, rows + 1)⟩, tb, by omega, rfl, by exact vint (by omega), ⟨hBF.size, hI.n8, ts' ++ [(nm, .slice a1 types.length c1, .slice (some ⟨ga, 0, none⟩) types.length c2, .slice (some ⟨g', 0, none⟩) (rows + 1) cap')], ?_, ?_, htb5, ts', nm, a1, c1, _, c2, _, cap', rs ++ [.slice ar j cr], rfl, ?_, ?_, by omega, by omega, by omega⟩, hBF, HR, ht⟩
                        · rw [HNL.out]; exact h1
                        · rw [← hn]; simp
                        · exact own_setCell (own_grown (htvi.alloc _) hgrow (own_types htvi hrvi (by decide))) hob (by decide)
                        · exact own_setCell hown' hob (by decide)
                · by_cases hle : ps.length = types.length
                  · have h12 : rows = 12 := by
                      by_cases h : rows = 12
                      · exact h
                      · exact absurd ⟨hle, h⟩ hfit
                    have HR : Hid (R = (k : Int) + 1) := by show _ = _; rw [← hq.out, HD.out, refRun_none (by rw [HPS.out]; exact row_none HTB.out HRW.out (by unfold rowFits; rw [hla]; simp only; rw [if_neg hfit]))]
                    have d1 : ((ps.length : Int) + 1 != (types.length : Int) + 1) = false := by rw [hle]; simp
                    have d1' : (ps.length : Int) = (types.length : Int) := by rw [hle]
                    have d2 : ((rows : Int) == 12) = true := by rw [h12]; rfl
                    have d2' : (rows : Int) = 12 := by rw [h12]; rfl
                    clear hfit hle h12 hla
                    go_wp2
                    go_ret2
                    have e := HR.out
                    subst e
                    exact ⟨_, rfl, hB0.trans (hB02.mono hB0.size), fun h => absurd h (by omega)⟩
                  · have HR : Hid (R = (k : Int) + 1) := by show _ = _; rw [← hq.out, HD.out, refRun_none (by rw [HPS.out]; exact row_none HTB.out HRW.out (by unfold rowFits; rw [hla]; simp only; rw [if_neg hfit]))]
                    have d1 : ((ps.length : Int) + 1 != (types.length : Int) + 1) = true := by simp; omega
                    have d1' : ¬ (ps.length : Int) = (types.length : Int) := by omega
                    clear hfit hle hla
                    go_wp2
                    go_ret2
                    have e := HR.out
                    subst e
                    exact ⟨_, rfl, hB0.trans (hB02.mono hB0.size), fun h => absurd h (by omega)⟩
            · have hb2 : (p != [114, 111, 119]) = true := by simpa [sRow, bne] using hrw
              have hb3 : ¬ p = [114, 111, 119] := hrw
              have hb4 : (p == [114, 111, 119]) = false := by simpa [sRow] using hrw
              have HR : Hid (R = (k : Int) + 1) := by show _ = _; rw [← hq.out, HD.out, refRun_none (by rw [HPS.out]; unfold refPieces; rw [if_neg HTB.out, if_neg hrw])]
              clear hrw
              go_wp2
              go_ret2
              have e := HR.out
              subst e
              exact ⟨_, rfl, hB0.trans (hB02.mono hB0.size), fun h => absurd h (by omega)⟩
    · obtain rfl : k = ls.length := by omega
      have HR : Hid (R = -1) := by show _ = _; rw [← hq.out, List.drop_length]; rfl
      go_wp2
      go_ret2
      have e := HR.out
      subst e
      refine ⟨_, rfl, hB0.trans (hB.mono hB0.size), fun _ => ?_⟩
      have ht := hqt.out
      rw [List.drop_length, tbRun] at ht
      obtain ⟨ts, h1, h2, h3, _⟩ := hI.mem
      have hl : tb.length = st.names.length := by rw [h3.len, ← h2, List.length_map]
      have hbb := hB0.size
      rw [← ht]
      exact ⟨ts, by rw [hl]; exact own_mono h1 hbb, h3.low hbb⟩
theorem ref_data (s : Bg.Str) (W : World) (hs : s.length ≤ 4000) :
    Calls Tryz.prog 7 #[.string ⟨s.toArray⟩] W fun e W' => ∃ v, e = .returned (.tuple #[v, .int .i64 (refRun ⟨[], none⟩ 0 (Bg.lines s))]) ∧ Below W.heap.size W W' :=
  (ref_data2 s W hs).mono fun e W' ⟨v, h1, h2, _⟩ => ⟨v, h1, h2⟩
end Go.Proofs.YtfkdfplnhlnnoaaGreatDoor
