import Derived.Test.YtfkdfplnhlnnoaaGreatDoorBgJa10
section
namespace Go.Proofs.YtfkdfplnhlnnoaaGreatDoor
open Go.RowKit
set_option linter.unusedSimpArgs false
set_option linter.unusedVariables false
theorem RInv.keep {B R M Kb : Nat} {kws : List Bg.Str} {line : Int} {st : St} {W W' : World} (h : RInv B R M Kb kws line st W) (hs : W.heap.size ≤ W'.heap.size) (hb : ∀ b, b < W.heap.size → (b = R ∨ b = M ∨ b = Kb ∨ B ≤ b) → W'.heap[b]? = W.heap[b]?) : RInv B R M Kb kws line st W' := by
  obtain ⟨v, hR, hv⟩ := h.last
  have hlt : ∀ {b : Nat} {o : Obj}, W.heap[b]? = some o → b < W.heap.size := fun e => (Array.getElem?_eq_some_iff.1 e).1
  refine ⟨h.hR, h.hM, h.hK, h.hRM, h.hMK, h.hRK, Nat.le_trans h.hB hs, h.nd, keyset_block h.names (hb M h.names.lt (.inr (.inl rfl))), keyset_block h.keys (hb Kb h.keys.lt (.inr (.inr (.inl rfl)))), h.tabs.keep (hb M h.names.lt (.inr (.inl rfl))) (fun b hb1 hb2 => hb b hb1 (.inr (.inr (.inr hb2)))), v, (hb R (hlt hR) (.inl rfl)).trans hR, ?_⟩
  cases hl : st.last with
  | none => rw [hl] at hv; exact hv
  | some t =>
    rw [hl] at hv
    obtain ⟨T, cv, pv, rv, rs, rfl, hT, hTW, hcv, hrv, r⟩ := hv
    have own : ∀ {e sz n : Nat} {v : Value} {xs : List Value}, W.ownsRow B e sz v n xs → W'.ownsRow B e sz v n xs := by
      intro e sz n v xs h
      refine ⟨h.1, ?_⟩
      rcases h.2 with h0 | ⟨g, cap, cu, rfl, hg, hh, r⟩
      · exact .inl h0
      · exact .inr ⟨g, cap, cu, rfl, hg, (hb g (hlt hh) (.inr (.inr (.inr hg)))).trans hh, r⟩
    exact ⟨T, cv, pv, rv, rs, rfl, hT, (hb T (hlt hTW) (.inr (.inr (.inr hT)))).trans hTW, own hcv, own hrv, r⟩
theorem RInv.below {B R M Kb : Nat} {kws : List Bg.Str} {line : Int} {st : St} {W W' : World} (h : RInv B R M Kb kws line st W) (hB : Below W.heap.size W W') : RInv B R M Kb kws line st W' := h.keep hB.size (fun b hb _ => hB.block b hb)
/-- what a line's reading ends in -/
def readPost (B R M Kb : Nat) (kws : List Bg.Str) (line : Int) (W : World) (r : Option St) (e : Ending) (W' : World) : Prop :=
  (∃ st', r = some st' ∧ e = .returned (.tuple #[]) ∧ RInv B R M Kb kws line st' W' ∧ Near B R M W W') ∨ (r = none ∧ bad B line W e W')
theorem bad.from {B : Nat} {line : Int} {W W1 W' : World} {e : Ending} (h : bad B line W1 e W') (hB : Below B W W1) : bad B line W e W' := by
  obtain ⟨b, h1, h2, h3, h4⟩ := h
  exact ⟨b, h1, h2, h3, hB.trans h4⟩
theorem readPost.from {B R M Kb : Nat} {kws : List Bg.Str} {line : Int} {W W1 W' : World} {r : Option St} {e : Ending} (h : readPost B R M Kb kws line W1 r e W') (hB : Below B W W1) : readPost B R M Kb kws line W r e W' := by
  rcases h with ⟨st', h1, h2, h3, h4⟩ | ⟨h1, h2⟩
  · exact .inl ⟨st', h1, h2, h3, (Near.of_below hB).trans h4⟩
  · exact .inr ⟨h1, h2.from hB⟩
end Go.Proofs.YtfkdfplnhlnnoaaGreatDoor
end
section
namespace Go.Proofs.YtfkdfplnhlnnoaaGreatDoor
open Go.RowKit Go.Shelf
set_option linter.unusedSimpArgs false
set_option linter.unusedVariables false
attribute [local go_sem] Oper.semAt_some
/-- what is known behind some lines -/
def codeAfter (kws : List Bg.Str) : St → List Bg.Str → Option St
  | st, [] => some st
  | st, x :: r => match codeStep kws st x with
    | none => none
    | some st' => codeAfter kws st' r
/-- the loop over the lines: N the heap's size at Read's start, w5 the world ahead of the loop -/
structure RLoop (N R Kb Bs : Nat) (pre : List Bg.Str) (w5 A : World) : Prop where
  st : ∃ st, codeAfter kwsAll ⟨[], none, []⟩ pre = some st ∧ RInv (w5.heap.size + 2) R N Kb kwsAll pre.length st A
  os : A.os = w5.os
  tape : A.tape = w5.tape
  output : A.output = w5.output
  size : w5.heap.size + 2 ≤ A.heap.size
  keep : ∀ b, b < w5.heap.size → b ≠ R → b ≠ N → b ≠ Bs → A.heap[b]? = w5.heap[b]?
theorem RLoop.same {N R Kb Bs : Nat} {pre : List Bg.Str} {w5 A A' : World} (h : RLoop N R Kb Bs pre w5 A) (hs : A.heap.size ≤ A'.heap.size) (h1 : A'.os = A.os) (h2 : A'.tape = A.tape) (h3 : A'.output = A.output) (hRK : R < w5.heap.size ∧ N < w5.heap.size ∧ Kb < w5.heap.size ∧ R ≠ Bs ∧ N ≠ Bs ∧ Kb ≠ Bs) (hBs : Bs < w5.heap.size)
    (hb : ∀ b, b < A.heap.size → b ≠ Bs → b ≠ w5.heap.size + 1 → b ≠ w5.heap.size → A'.heap[b]? = A.heap[b]?) : RLoop N R Kb Bs pre w5 A' := by
  obtain ⟨st, hst, hI⟩ := h.st
  have hsz := h.size
  refine ⟨⟨st, hst, hI.keep hs (fun b hb1 hb2 => hb b hb1 (by omega) (by omega) (by omega))⟩, h1.trans h.os, h2.trans h.tape, h3.trans h.output, Nat.le_trans hsz hs, fun b hb1 hb2 hb3 hb4 => (hb b (by omega) hb4 (by omega) (by omega)).trans (h.keep b hb1 hb2 hb3 hb4)⟩
theorem Spaces.below {n : Nat} {w w' : World} (h : Spaces w) (hB : Below n w w') (hn : 13 ≤ n) : Spaces w' :=
  ⟨Nat.lt_of_lt_of_le h.1 hB.size, fun c hc => (hB.cell (p := ⟨1, c.toNat, none⟩) (show 1 < n from Nat.lt_of_lt_of_le (by decide) hn)).trans (h.2 c hc)⟩
end Go.Proofs.YtfkdfplnhlnnoaaGreatDoor
end
section
namespace Go.Proofs.YtfkdfplnhlnnoaaGreatDoor
open Go.RowKit Go.Shelf
set_option linter.unusedSimpArgs false
set_option linter.unusedVariables false
attribute [local go_sem] Oper.semAt_some
theorem strings_Clone (s : Bg.Str) (w : World) (hs : s.length ≤ 90000) :
    Calls Tryz.prog 47 #[.string ⟨s.toArray⟩] w fun e w' => e = .returned (.string ⟨s.toArray⟩) ∧ Below w.heap.size w w' := by
  go_enter Tryz.func47, Tryz.ntmps47
  go_wp2_with fail
  refine (Tryz.stringslite_Clone ⟨s.toArray⟩ _ (by rw [Bg.size_mk]; omega)).mono ?_
  rintro e w' ⟨rfl, hB⟩
  go_wp2
  go_ret
  exact ⟨rfl, hB⟩
end Go.Proofs.YtfkdfplnhlnnoaaGreatDoor
end
section
namespace Go.Proofs.YtfkdfplnhlnnoaaGreatDoor
open Go.RowKit
namespace Gr
set_option linter.unusedSimpArgs false
set_option linter.unusedVariables false
theorem Tryz.infoPWord : (Tryz.prog.info? 139).map (fun i => (i.zero, i.size, i.bytes)) = some (some (.agg #[.int .i64 0, .string ⟨#[]⟩, .nilIface]), 3, 40) := by kernel_rfl
/-- a fault: thrown; what lay below n0 lies there still -/
def Bad (n0 : Nat) (kind at_ : Int) (w : World) (e : Ending) (w' : World) : Prop :=
  ∃ b, e = .panicked (thrown b) ∧ w'.cell? ⟨b, 0, none⟩ = some (.int .i64 kind) ∧ w'.cell? ⟨b, 1, none⟩ = some (.int .i64 at_) ∧ Below n0 w w'
def pcell (w : RW) : List Value := [.int .i64 (pKind w), .string ⟨(pSpelt w).toArray⟩, pVal w]
def pcells (l : List RW) : List Value := l.flatMap pcell
def wreadPost (w : World) : Except Nat (List RW) → Ending → World → Prop
  | .error k, e, w' => Bad w.heap.size 2 k w e w'
  | .ok l, e, w' => ∃ v, e = .returned v ∧ w'.ownsRow w.heap.size 139 3 v l.length (pcells l) ∧ Below w.heap.size w w'
theorem own_mono {w : World} {B B' e size n : Nat} {v : Value} {xs : List Value} (h : w.ownsRow B e size v n xs) (hb : B' ≤ B) : w.ownsRow B' e size v n xs := by
  refine ⟨h.1, ?_⟩
  rcases h.2 with h0 | ⟨g, cap, cur, rfl, hg, r⟩
  · exact .inl h0
  · exact .inr ⟨g, cap, cur, rfl, Nat.le_trans hb hg, r⟩
theorem pVal_one (w : RW) : (pVal w).oneCell' = true := by
  unfold pVal; split
  · rfl
  · split <;> rfl
theorem pVal_is (w : RW) : pVal w = .nilIface ∨ ∃ t x, pVal w = .iface t x := by
  unfold pVal; split
  · exact .inr ⟨_, _, rfl⟩
  · split
    · exact .inr ⟨_, _, rfl⟩
    · exact .inl rfl
set_option maxRecDepth 10000 in
set_option maxHeartbeats 2000000 in
theorem w_Read (s : Bg.Str) (w : World) (hs : s.length ≤ 90000) (hE : WEnv w) (hSp : Spaces w) :
    Calls Tryz.prog 58 #[.string ⟨s.toArray⟩] w (wreadPost w (rWords s)) := by
  have hex := Bg.ext_mk
  obtain ⟨i0, hi0, hz0, hz1, hz2⟩ := info_parts Tryz.infoPWord
  by_cases hl : 400 < s.length
  · have HR : Hid (rWords s = .error 400) := by show _ = _; unfold rWords; rw [if_pos hl]
    generalize rWords s = R at HR ⊢
    go_enter Tryz.func58, Tryz.ntmps58
    go_wp2_with fail
    refine (throw_any 2 400 _).mono ?_
    rintro e w' ⟨rfl, rfl⟩
    go_wp2
    refine ⟨rfl, ?_⟩
    rw [HR.out]
    exact ⟨w.heap.size, rfl, by simp, by simp, (Below.refl _ _).alloc (Nat.le_refl _) _⟩
  · have HR : Hid ((rWordsN s (s.length + 1) 0).map (fun x => [] ++ x) = rWords s) := by show _ = _; unfold rWords; rw [if_neg hl, map_id']
    generalize rWords s = R at HR ⊢
    go_enter Tryz.func58, Tryz.ntmps58
    go_wp2_with fail
    refine (strings_Clone s _ (by omega)).mono ?_
    rintro e wc ⟨rfl, hBc⟩
    have hEc := hE.below hBc
    have hSc := hSp.below hBc hE.big
    go_wp2_with fail
    refine (w_keywords1 _ hSc).mono ?_
    rintro e wk ⟨rfl, hK, hBk0, hKs⟩
    have hEk := hEc.below hBk0
    have hBk : Below w.heap.size w wk := hBc.trans (hBk0.mono hBc.size)
    clear hBk0
    generalize wc.heap.size = Kb at hK hKs ⊢
    go_wp2_with fail
    refine (w_gap s _ (by omega)).mono ?_
    rintro e w' ⟨⟨g0, rfl, hG0⟩, rfl⟩
    have HR1 : Hid ((rWordsN s (s.length + 1) g0).map (fun x => [] ++ x) = R) := by
      have := hG0.same s 0 rfl
      rw [Nat.zero_add] at this
      show _ = _
      rw [this]; exact HR.out
    have hG0l := hG0.le
    have HS0 : Hid (∀ h : g0 < s.length, blank s[g0] = false ∧ (s.drop g0).take 2 ≠ [45, 45]) := hG0.stop
    clear HR hG0
    go_wp2_with fail
    go_loopg [3, 5] (s.length - g0 + 1) (fun gk ov iv wr => ∃ (k : Nat) (out : List RW), k ≤ s.length ∧ out.length ≤ k ∧ gk = s.length - k + 1 ∧ iv = .int .i64 k ∧ wr.ownsRow wk.heap.size 139 3 ov out.length (pcells out) ∧ Below wk.heap.size wk wr ∧ Hid (∀ h : k < s.length, blank s[k] = false ∧ (s.drop k).take 2 ≠ [45, 45]) ∧ Hid ((rWordsN s (s.length + 1) k).map (fun x => out ++ x) = R))
    case atStart => exact ⟨g0, [], by omega, by simp, by omega, rfl, World.ownsRow_nil _ _ _ _, Below.refl _ _, HS0, HR1⟩
    case round =>
      obtain ⟨k, out, hk, ho, rfl, rfl, hown, hB, hst, hq⟩ := hrel
      have hBw : Below w.heap.size w wr := hBk.trans (hB.mono hBk.size)
      by_cases hlt : k < s.length
      · obtain ⟨hb, hc⟩ := hst.out hlt
        have HC : Hid (rWordsN s (s.length + 1) k = if (rWord (s.drop k)).2 = 0 then .error k else (rWordsN s (s.length + 1) (k + (rWord (s.drop k)).2)).map fun l => (rWord (s.drop k)).1 :: l) := by
          show _ = _
          rw [rw_cons hlt, if_neg (by rw [hb]; simp), if_neg hc]
        have HD : Hid (s.drop k = s[k] :: s.drop (k + 1)) := Bg.drop_get s k hlt
        have HT : Hid (List.take (List.length s - k) (List.drop k s) = s.drop k) := by show _ = _; rw [List.take_of_length_le (by rw [List.length_drop]; omega)]
        have hwle := rWord_le s[k] (s.drop (k + 1))
        have hlr : (s[k] :: s.drop (k + 1)).length ≤ 400 := by rw [List.length_cons, List.length_drop]; omega
        have hcw := w_first s[k] (s.drop (k + 1)) Kb 100 wr hlr (hEk.below hB) (keyset1.below hK hB)
        rw [← HD.out] at hcw hwle
        rw [List.length_drop] at hwle
        clear hb hc hst
        go_wp2_with fail
        rw [HT.out]
        refine hcw.mono ?_
        rintro e w1 ⟨hB1, v, n, rfl, hF⟩
        obtain ⟨hFn, ⟨a, b, x, hva, hx⟩, hFw⟩ := hF
        subst hFn
        have HFW : Hid ((rWord (s.drop k)).2 ≠ 0 → v = pword (rWord (s.drop k)).1) := hFw
        generalize hrw : rWord (s.drop k) = rw0 at HC HFW hwle ⊢
        obtain ⟨w0, n⟩ := rw0
        simp only at HC HFW hwle ⊢
        clear hcw hFw hrw
        by_cases hn0 : n = 0
        · have HE : Hid (R = .error k) := by
            show _ = _
            rw [← hq.out, HC.out, if_pos hn0]; rfl
          subst hn0
          subst hva
          rcases hx with rfl | ⟨t, y, rfl⟩ <;>
           (go_wp2_with fail
            refine (throw_any 2 k _).mono ?_
            rintro e w' ⟨rfl, rfl⟩
            go_wp2
            refine ⟨rfl, ?_⟩
            rw [HE.out]
            exact ⟨_, rfl, by simp, by simp, ((hBw.trans (hB1.mono hBw.size)).alloc (Nat.le_trans hBw.size hB1.size) _).alloc (by have := hB1.size; have := hBw.size; simp; omega) _⟩)
        · have hv := HFW.out hn0
          clear hva hx
          subst hv
          unfold pword
          have HX : Hid ((rWordsN s (s.length + 1) (k + n)).map (fun x => (out ++ [w0]) ++ x) = R) := by
            show _ = _
            rw [← hq.out, HC.out, if_neg hn0, map_map']
          have hn0' : ((n : Int) == 0) = false := by simpa using hn0
          have hpc : pcells (out ++ [w0]) = pcells out ++ [.int .i64 (pKind w0), .string ⟨(pSpelt w0).toArray⟩, pVal w0] := by simp [pcells, pcell]
          have hone := pVal_one w0
          have HPC : Hid (pcells (out ++ [w0]) = pcells out ++ [.int .i64 (pKind w0), .string ⟨(pSpelt w0).toArray⟩, pVal w0]) := hpc
          have hown1 := own_below hown hB1
          have hB2 := hBw.trans (hB1.mono hBw.size)
          have hBk1 := hB.trans (hB1.mono hB.size)
          have hsz1 := hB2.size
          have hszk := hBk1.size
          have HTn : Hid (List.take (List.length s - (k + n)) (List.drop (k + n) s) = s.drop (k + n)) := by show _ = _; rw [List.take_of_length_le (by rw [List.length_drop]; omega)]
          clear hpc HFW hq HC
          have hpv := pVal_is w0
          generalize pVal w0 = pv at HPC hpv hone ⊢
          generalize pKind w0 = pk at HPC ⊢
          generalize pSpelt w0 = ps at HPC ⊢
          rcases hpv with rfl | ⟨t, y, rfl⟩
          · have hBt : Below wk.heap.size wk (w1.alloc (.cells #[.int .i64 pk, .string ⟨ps.toArray⟩, .nilIface] 139)) := hBk1.alloc hszk _
            go_wp2_with (at_builtin; go_must (refine wpList_append_own _ rfl _ _ 130 rfl wk.heap.size 139 i0 (.agg #[.int .i64 0, .string ⟨#[]⟩, .nilIface]) 3 40 Tryz.underlying130 hi0 hz0 hz1 hz2 rfl (by decide) _ _ _ rfl ((hown1.alloc _).alloc _) ⟨w1.heap.size + 1, 0, none⟩ 1 1 [.int .i64 pk, .string ⟨ps.toArray⟩, .nilIface] rfl rfl (cell_three2 _ _ _ _ _ _) (by simp [Value.oneCell']) (by unfold maxLen; omega) (by omega) (by simp; omega) ?_); intro v' w5 hown' hgrow _)
            rw [HTn.out]
            refine (w_gap (s.drop (k + n)) _ (by rw [List.length_drop]; omega)).mono ?_
            rintro e w' ⟨⟨m, rfl, hGm⟩, rfl⟩
            have hml := hGm.le
            rw [List.length_drop] at hml
            have HSm : Hid (∀ h : k + n + m < s.length, blank s[k + n + m] = false ∧ (s.drop (k + n + m)).take 2 ≠ [45, 45]) := fun h => by
              have := hGm.stop (by rw [List.length_drop]; omega)
              rw [List.getElem_drop, List.drop_drop] at this
              exact this
            have HXm : Hid ((rWordsN s (s.length + 1) (k + n + m)).map (fun x => (out ++ [w0]) ++ x) = R) := by
              show _ = _
              rw [hGm.same s (k + n) rfl]; exact HX.out
            clear hGm
            go_wp2_with fail
            go_roundg (s.length - (k + n + m) + 1)
            case measure => omega
            case rel =>
              refine ⟨k + n + m, out ++ [w0], by omega, by simp; omega, rfl, by exact vint (by omega), ?_, below_append hBt hBt.size (hown1.alloc _) hgrow, HSm, HXm⟩
              rw [HPC.out, List.length_append]
              exact hown'
          · have hBt : Below wk.heap.size wk (w1.alloc (.cells #[.int .i64 pk, .string ⟨ps.toArray⟩, .iface t y] 139)) := hBk1.alloc hszk _
            go_wp2_with (at_builtin; go_must (refine wpList_append_own _ rfl _ _ 130 rfl wk.heap.size 139 i0 (.agg #[.int .i64 0, .string ⟨#[]⟩, .nilIface]) 3 40 Tryz.underlying130 hi0 hz0 hz1 hz2 rfl (by decide) _ _ _ rfl ((hown1.alloc _).alloc _) ⟨w1.heap.size + 1, 0, none⟩ 1 1 [.int .i64 pk, .string ⟨ps.toArray⟩, .iface t y] rfl rfl (cell_three2 _ _ _ _ _ _) (by simp [Value.oneCell']) (by unfold maxLen; omega) (by omega) (by simp; omega) ?_); intro v' w5 hown' hgrow _)
            rw [HTn.out]
            refine (w_gap (s.drop (k + n)) _ (by rw [List.length_drop]; omega)).mono ?_
            rintro e w' ⟨⟨m, rfl, hGm⟩, rfl⟩
            have hml := hGm.le
            rw [List.length_drop] at hml
            have HSm : Hid (∀ h : k + n + m < s.length, blank s[k + n + m] = false ∧ (s.drop (k + n + m)).take 2 ≠ [45, 45]) := fun h => by
              have := hGm.stop (by rw [List.length_drop]; omega)
              rw [List.getElem_drop, List.drop_drop] at this
              exact this
            have HXm : Hid ((rWordsN s (s.length + 1) (k + n + m)).map (fun x => (out ++ [w0]) ++ x) = R) := by
              show _ = _
              rw [hGm.same s (k + n) rfl]; exact HX.out
            clear hGm
            go_wp2_with fail
            go_roundg (s.length - (k + n + m) + 1)
            case measure => omega
            case rel =>
              refine ⟨k + n + m, out ++ [w0], by omega, by simp; omega, rfl, by exact vint (by omega), ?_, below_append hBt hBt.size (hown1.alloc _) hgrow, HSm, HXm⟩
              rw [HPC.out, List.length_append]
              exact hown'
      · have hR : R = .ok out := by rw [← hq.out, rw_end (by omega)]; show Except.ok _ = _; simp
        go_wp2_with fail
        go_ret
        rw [hR]
        exact ⟨_, rfl, own_mono hown hBk.size, hBw⟩
end Gr
end Go.Proofs.YtfkdfplnhlnnoaaGreatDoor
end
