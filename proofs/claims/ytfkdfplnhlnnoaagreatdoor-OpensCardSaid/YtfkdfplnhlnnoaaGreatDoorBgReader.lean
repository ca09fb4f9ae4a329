/- package tables: read. -/
import Derived.Test.YtfkdfplnhlnnoaaGreatDoorBgTabC
namespace Go.Proofs.YtfkdfplnhlnnoaaGreatDoor
open Go.RowKit
set_option linter.unusedSimpArgs false
set_option linter.unusedVariables false

theorem fieldsN_mem (f : Nat) : ∀ (s : Bg.Str) (l : List Bg.Str), fieldsN f s = some l → (∀ x ∈ l, x ≠ [] ∧ x.length ≤ s.length) ∧ l.length ≤ s.length := by
  induction f with
  | zero => intro s l h; rw [fieldsN] at h; cases h; exact ⟨fun x hx => (by cases hx), Nat.zero_le _⟩
  | succ f ih =>
    intro s l h
    rw [fieldsN] at h
    have htl := Bg.trimL_le s
    cases ht : Bg.trimL s with
    | nil => rw [ht] at h; cases h; exact ⟨fun x hx => (by cases hx), Nat.zero_le _⟩
    | cons c r =>
      rw [ht] at h htl
      simp only at h
      cases hl : fieldLen (c :: r) with
      | none => rw [hl] at h; cases h
      | some n =>
        rw [hl] at h
        simp only at h
        have hp := fieldLen_pos (Bg.trimL_head s c r ht) hl
        cases hf : fieldsN f ((c :: r).drop n) with
        | none => rw [hf] at h; cases h
        | some m =>
          rw [hf] at h
          cases h
          obtain ⟨h1, h2⟩ := ih _ m hf
          rw [List.length_drop] at h1 h2
          refine ⟨?_, by simp only [List.length_cons] at *; omega⟩
          intro x hx
          rcases List.mem_cons.1 hx with rfl | hx
          · refine ⟨?_, ?_⟩
            · intro e
              have := congrArg List.length e
              rw [List.length_take, List.length_nil] at this
              omega
            · rw [List.length_take]; omega
          · exact ⟨(h1 x hx).1, by have := (h1 x hx).2; omega⟩
theorem fields_mem {s : Bg.Str} {l : List Bg.Str} (h : fieldsOf s = some l) : (∀ x ∈ l, x ≠ [] ∧ x.length ≤ s.length) ∧ l.length ≤ s.length := fieldsN_mem _ s l h

theorem RInv.keep {B R M Kb : Nat} {kws : List Bg.Str} {line : Int} {st : St} {W W' : World} (h : RInv B R M Kb kws line st W) (hs : W.heap.size ≤ W'.heap.size) (hb : ∀ b, b < W.heap.size → (b = R ∨ b = M ∨ b = Kb ∨ B ≤ b) → W'.heap[b]? = W.heap[b]?) : RInv B R M Kb kws line st W' := by
  obtain ⟨v, hR, hv⟩ := h.last
  have hlt : ∀ {b : Nat} {o : Obj}, W.heap[b]? = some o → b < W.heap.size := fun e => (Array.getElem?_eq_some_iff.1 e).1
  refine ⟨h.hR, h.hM, h.hK, h.hRM, h.hMK, h.hRK, Nat.le_trans h.hB hs, h.nd, keyset_block h.names (hb M h.names.lt (.inr (.inl rfl))), keyset_block h.keys (hb Kb h.keys.lt (.inr (.inr (.inl rfl)))), h.tabs.keep (hb M h.names.lt (.inr (.inl rfl))) (fun b hb1 hb2 => hb b hb1 (.inr (.inr (.inr hb2)))), v, (hb R (hlt hR) (.inl rfl)).trans hR, ?_⟩
  cases hl : st.last with
  | none => rw [hl] at hv; exact hv
  | some t =>
    rw [hl] at hv
    obtain ⟨T, cv, pv, rv, rs, rfl, hT, hTW, hcv, hrv, r⟩ := hv
    have own : ∀ {e sz n : Nat} {v : Value} {xs : List Value}, W.ownsRow B e sz v n xs → W'.ownsRow B e sz v n xs := by
      intro e sz n v xs h
      refine ⟨h.1, ?_⟩
      rcases h.2 with h0 | ⟨g, cap, cu, rfl, hg, hh, r⟩
      · exact .inl h0
      · exact .inr ⟨g, cap, cu, rfl, hg, (hb g (hlt hh) (.inr (.inr (.inr hg)))).trans hh, r⟩
    exact ⟨T, cv, pv, rv, rs, rfl, hT, (hb T (hlt hTW) (.inr (.inr (.inr hT)))).trans hTW, own hcv, own hrv, r⟩
theorem RInv.below {B R M Kb : Nat} {kws : List Bg.Str} {line : Int} {st : St} {W W' : World} (h : RInv B R M Kb kws line st W) (hB : Below W.heap.size W W') : RInv B R M Kb kws line st W' := h.keep hB.size (fun b hb _ => hB.block b hb)


theorem step_none {kws : List Bg.Str} {st : St} {x : Bg.Str} (h : fieldsOf x = none) : codeStep kws st x = none := by unfold codeStep; rw [h]
theorem step_nil {kws : List Bg.Str} {st : St} {x : Bg.Str} (h : fieldsOf x = some []) : codeStep kws st x = some st := by unfold codeStep; rw [h]
theorem step_cons {kws : List Bg.Str} {st : St} {x p : Bg.Str} {ps : List Bg.Str} (h : fieldsOf x = some (p :: ps)) : codeStep kws st x = codePieces kws st p ps := by unfold codeStep; rw [h]
/-- what a line's reading ends in -/
def readPost (B R M Kb : Nat) (kws : List Bg.Str) (line : Int) (W : World) (r : Option St) (e : Ending) (W' : World) : Prop :=
  (∃ st', r = some st' ∧ e = .returned (.tuple #[]) ∧ RInv B R M Kb kws line st' W' ∧ Near B R M W W') ∨ (r = none ∧ bad B line W e W')
theorem bad.from {B : Nat} {line : Int} {W W1 W' : World} {e : Ending} (h : bad B line W1 e W') (hB : Below B W W1) : bad B line W e W' := by
  obtain ⟨b, h1, h2, h3, h4⟩ := h
  exact ⟨b, h1, h2, h3, hB.trans h4⟩

/-- a line that begins with 'table': all its ways -/
theorem r_table (B R M Kb : Nat) (kws : List Bg.Str) (line : Int) (st : St) (g cap : Nat) (p : Bg.Str) (ps : List Bg.Str) (W : World) (hlx : ∀ y ∈ ps, y.length ≤ 90000) (hll : ps.length ≤ 90000) (hI : RInv B R M Kb kws line st W) (fv : Value)
    (hfv : ps ≠ [] → fv = .slice (some ⟨g, 1, none⟩) ps.length cap ∧ ps.length ≤ cap ∧ cap ≤ maxLen) (hv : viewS W fv ps) :
    Calls Tryz.prog 68 #[.pointer (some ⟨R, 0, none⟩), fv] W fun e W' => readPost B R M Kb kws line W (codePieces kws st sTable ps) e W' := by
  have hcp : codePieces kws st sTable ps = if tabOk kws st ps then some ⟨st.names ++ [ps.getD 0 []], some ⟨colsOf (pairsOf (ps.drop 1)), 0⟩, st.tabs ++ [(ps.getD 0 [], colsOf (pairsOf (ps.drop 1)))]⟩ else none := by unfold codePieces; rw [if_pos rfl]
  by_cases hlen : lenOk ps.length = true
  · cases ps with
    | nil => cases hlen
    | cons x l =>
      obtain ⟨rfl, hc1, hc2⟩ := hfv (by simp)
      by_cases hok : nameOk kws st x = true
      · have hcx : ∀ (i : Nat) (h : i < (x :: l).length), W.cell? ⟨g, 1 + i, none⟩ = some (strV (x :: l)[i]) := by
          intro i h
          obtain ⟨a, c, e, h1⟩ := hv
          obtain ⟨g1, o1, e1, h2⟩ := h1 i h
          cases e
          cases e1
          exact h2
        refine (r_table_go B R M Kb kws line st g 1 cap x l W hlx (by simp at hll; omega) hc1 hc2 hI hcx hlen hok).mono ?_
        rintro e W' (⟨h1, rfl, h2, h3⟩ | ⟨h1, h2⟩)
        · refine .inl ⟨_, ?_, rfl, h2, h3⟩
          rw [hcp, if_pos ⟨hlen, hok, h1.1, h1.2⟩]; rfl
        · refine .inr ⟨?_, h2⟩
          rw [hcp, if_neg (fun h => h1 ⟨h.2.2.1, h.2.2.2⟩)]
      · have hok' : nameOk kws st x = false := by simpa using hok
        refine (r_table_name B R M Kb kws line st _ x l W (hlx x (by simp)) (by simp at hll; omega) hI hv hlen hok').mono ?_
        intro e W' h2
        refine .inr ⟨?_, h2⟩
        rw [hcp, if_neg (fun h => hok h.2.1)]
  · have hlen' : lenOk ps.length = false := by simpa using hlen
    refine (r_table_len B R M Kb kws line st fv ps W hll hI hv hlen').mono ?_
    intro e W' h2
    refine .inr ⟨?_, h2⟩
    rw [hcp, if_neg (fun h => hlen h.1)]

/-- a line that begins with 'row': all its ways -/
theorem r_row (B R M Kb : Nat) (kws : List Bg.Str) (line : Int) (st : St) (ps : List Bg.Str) (W : World) (hlx : ∀ y ∈ ps, y.length ≤ 90000 ∧ y ≠ []) (hll : ps.length ≤ 90000) (hI : RInv B R M Kb kws line st W) (fv : Value) (hv : viewS W fv ps) (hnv : NumVars W) (hG : 13 ≤ B) :
    Calls Tryz.prog 69 #[.pointer (some ⟨R, 0, none⟩), fv] W fun e W' => readPost B R M Kb kws line W (codePieces kws st sRow ps) e W' := by
  have hcp : codePieces kws st sRow ps = match st.last with | none => none | some t => if (ps.length = t.cols.length ∧ t.rows ≠ 12) ∧ rowOk ps t.cols = true then some ⟨st.names, some ⟨t.cols, t.rows + 1⟩, st.tabs⟩ else none := by
    unfold codePieces; rw [if_neg (by decide), if_pos rfl]
    cases st.last <;> rfl
  cases hl : st.last with
  | none =>
    rw [hl] at hcp
    refine (r_row_none B R M Kb kws line st fv ps W hI hl hv).mono ?_
    intro e W' h2
    exact .inr ⟨hcp, h2⟩
  | some t =>
    rw [hl] at hcp
    simp only at hcp
    have ht12 : t.rows ≤ 12 := by
      obtain ⟨v, hR, hv0⟩ := hI.last
      rw [hl] at hv0
      obtain ⟨T, cv, pv, rv, rs, _, _, _, _, _, _, h, _⟩ := hv0
      exact h
    by_cases h1 : ps.length = t.cols.length ∧ t.rows ≠ 12
    · refine (r_row_go B R M Kb kws line st t fv ps W hlx hI hl hv hnv hG h1.1 (by omega)).mono ?_
      rintro e W' (⟨h2, rfl, h3, h4⟩ | ⟨h2, h3⟩)
      · refine .inl ⟨_, ?_, rfl, h3, Near.of_below h4⟩
        rw [hcp, if_pos ⟨h1, h2⟩]
      · refine .inr ⟨?_, h3⟩
        rw [hcp, if_neg (fun h => by rw [h2] at h; exact Bool.noConfusion h.2)]
    · refine (r_row_bad B R M Kb kws line st t fv ps W hll hI hl hv (by omega)).mono ?_
      intro e W' h2
      refine .inr ⟨?_, h2⟩
      rw [hcp, if_neg (fun h => h1 h.1)]

theorem readPost.from {B R M Kb : Nat} {kws : List Bg.Str} {line : Int} {W W1 W' : World} {r : Option St} {e : Ending} (h : readPost B R M Kb kws line W1 r e W') (hB : Below B W W1) : readPost B R M Kb kws line W r e W' := by
  rcases h with ⟨st', h1, h2, h3, h4⟩ | ⟨h1, h2⟩
  · exact .inl ⟨st', h1, h2, h3, (Near.of_below hB).trans h4⟩
  · exact .inr ⟨h1, h2.from hB⟩

set_option maxRecDepth 100000 in
set_option maxHeartbeats 1000000 in
theorem r_read (B R M Kb : Nat) (kws : List Bg.Str) (line : Int) (st : St) (x : Bg.Str) (W : World) (hx : x.length ≤ 90000) (hI : RInv B R M Kb kws line st W) (hnv : NumVars W) (hG : 13 ≤ B) :
    Calls Tryz.prog 48 #[.pointer (some ⟨R, 0, none⟩), .string ⟨x.toArray⟩] W fun e W' => readPost B R M Kb kws line W (codeStep kws st x) e W' := by
  have c0 : W.cell? ⟨R, 0, none⟩ = some (.int .i64 line) := by
    obtain ⟨v, hR, _⟩ := hI.last
    simp [World.cell?, hR]
  have hBW := hI.hB
  go_enter Tryz.func48, Tryz.ntmps48
  go_wp2_with fail
  refine (r_fields R line x _ hx c0).mono ?_
  intro e W1 hf
  cases hfo : fieldsOf x with
  | none =>
    rw [hfo] at hf
    obtain ⟨b, rfl, hb0, hb1, hB1⟩ := hf
    have HS : Hid (codeStep kws st x = none) := step_none hfo
    clear hfo
    go_wp2
    exact ⟨rfl, .inr ⟨HS.out, b, rfl, hb0, hb1, hB1.mono hBW⟩⟩
  | some l =>
    rw [hfo] at hf
    obtain ⟨v, rfl, hown, hB1⟩ := hf
    obtain ⟨hmem, hlen⟩ := fields_mem hfo
    have hI1 := hI.below hB1
    have hnv1 := hnv.below hB1 (by omega)
    cases l with
    | nil =>
      have HS : Hid (codeStep kws st x = some st) := step_nil hfo
      clear hfo
      obtain ⟨a, c, rfl⟩ := own_slice hown
      clear hown
      go_wp2
      go_end0
      exact .inl ⟨st, HS.out, rfl, hI1, Near.of_below (hB1.mono hBW)⟩
    | cons p ps =>
      have HS : Hid (codeStep kws st x = codePieces kws st p ps) := step_cons hfo
      clear hfo
      obtain ⟨g, cap, cur, rfl, hgB, hgh, hc1, hc2, hcs, hcur⟩ : ∃ g cap cur, v = .slice (some ⟨g, 0, none⟩) (ps.length + 1) cap ∧ W.heap.size ≤ g ∧ W1.heap[g]? = some (.cells cur 9 (0, 0)) ∧ ps.length + 1 ≤ cap ∧ cap ≤ maxLen ∧ cur.size = cap * 1 ∧ cur.toList.take ((ps.length + 1) * 1) = (p :: ps).map strV := by
        rcases hown.2 with ⟨_, h0⟩ | h0
        · simp at h0
        · exact h0
      have hcell : ∀ i (h : i < (p :: ps).length), W1.cell? ⟨g, i, none⟩ = some (strV (p :: ps)[i]) := by
        intro i h
        have := hown.cells (g := g) rfl i (strV (p :: ps)[i]) (by rw [List.getElem?_map, List.getElem?_eq_getElem h]; rfl)
        rw [Addr.add_lit] at this
        simpa using this
      have hc0 : W1.cell? ⟨g, 0, none⟩ = some (.string ⟨p.toArray⟩) := hcell 0 (by simp)
      have HC : Hid (∀ i (h : i < (p :: ps).length), W1.cell? ⟨g, i, none⟩ = some (strV (p :: ps)[i])) := hcell
      simp only [List.length_cons] at hlen
      have HM : Hid (∀ y ∈ ps, y.length ≤ 90000 ∧ y ≠ []) := fun y hy => ⟨by have := (hmem y (List.mem_cons_of_mem _ hy)).2; omega, (hmem y (List.mem_cons_of_mem _ hy)).1⟩
      have hps : ps.length ≤ 90000 := by omega
      clear hcell hmem hown hgh hcs hcur
      -- what is behind the first field
      have HV : Hid (∀ fv, (¬ cap = 1 → fv = .slice (some ⟨g, 1, none⟩) ps.length (cap - 1)) → (cap = 1 → ∃ a, fv = .slice a ps.length 0) → viewS W1 fv ps ∧ (ps ≠ [] → fv = .slice (some ⟨g, 1, none⟩) ps.length (cap - 1) ∧ ps.length ≤ cap - 1 ∧ cap - 1 ≤ maxLen)) := by
        intro fv h1 h2
        by_cases hcap : cap = 1
        · obtain ⟨a, rfl⟩ := h2 hcap
          have hp0 : ps = [] := List.length_eq_zero_iff.1 (by omega)
          subst hp0
          exact ⟨⟨a, 0, rfl, fun i hi => by cases hi⟩, fun h => absurd rfl h⟩
        · rw [h1 hcap]
          refine ⟨⟨some ⟨g, 1, none⟩, cap - 1, rfl, fun i hi => ⟨g, 1, rfl, ?_⟩⟩, fun _ => ⟨rfl, by omega, by omega⟩⟩
          have := HC.out (i + 1) (by simp; exact hi)
          rw [Nat.add_comm 1 i]
          exact this
      by_cases ht : (p == [116, 97, 98, 108, 101]) = true
      · have HP : Hid (p = sTable) := eq_of_beq ht
        by_cases hcap : cap = 1
        · subst hcap
          obtain rfl : ps = [] := List.length_eq_zero_iff.1 (by omega)
          have hq : viewS W1 (.slice (some ⟨g, 0, none⟩) 0 0) [] := ⟨_, _, rfl, fun i hi => by cases hi⟩
          clear HV
          go_wp2_with fail
          refine (r_table B R M Kb kws line st g 0 p [] _ (fun y hy => (HM.out y hy).1) (by simp) hI1 _ (fun h => absurd rfl h) hq).mono ?_
          rintro e W' (⟨st', h1, rfl, h3, h4⟩ | ⟨h1, b, rfl, hb0, hb1, hB3⟩)
          · have H1 : Hid (codeStep kws st x = some st') := by show _ = _; rw [HS.out, HP.out]; exact h1
            clear h1
            go_wp2
            go_end0
            exact .inl ⟨st', H1.out, rfl, h3, (Near.of_below (hB1.mono hBW)).trans h4⟩
          · have H1 : Hid (codeStep kws st x = none) := by show _ = _; rw [HS.out, HP.out]; exact h1
            clear h1
            go_wp2
            exact ⟨rfl, .inr ⟨H1.out, b, rfl, hb0, hb1, (hB1.mono hBW).trans hB3⟩⟩
        · have hq := HV.out (.slice (some ⟨g, 1, none⟩) ps.length (cap - 1)) (fun _ => rfl) (fun h => absurd h hcap)
          go_wp2_with fail
          refine (r_table B R M Kb kws line st g (cap - 1) p ps _ (fun y hy => (HM.out y hy).1) hps hI1 _ (fun h => ⟨rfl, (hq.2 h).2⟩) hq.1).mono ?_
          rintro e W' (⟨st', h1, rfl, h3, h4⟩ | ⟨h1, b, rfl, hb0, hb1, hB3⟩)
          · have H1 : Hid (codeStep kws st x = some st') := by show _ = _; rw [HS.out, HP.out]; exact h1
            clear h1
            go_wp2
            go_end0
            exact .inl ⟨st', H1.out, rfl, h3, (Near.of_below (hB1.mono hBW)).trans h4⟩
          · have H1 : Hid (codeStep kws st x = none) := by show _ = _; rw [HS.out, HP.out]; exact h1
            clear h1
            go_wp2
            exact ⟨rfl, .inr ⟨H1.out, b, rfl, hb0, hb1, (hB1.mono hBW).trans hB3⟩⟩
      · have ht' : (p == [116, 97, 98, 108, 101]) = false := by simpa using ht
        have HP : Hid (p ≠ sTable) := fun e => ht (by rw [e]; rfl)
        clear ht
        by_cases hr : (p == [114, 111, 119]) = true
        · have HP2 : Hid (p = sRow) := eq_of_beq hr
          by_cases hcap : cap = 1
          · subst hcap
            obtain rfl : ps = [] := List.length_eq_zero_iff.1 (by omega)
            have hq : viewS W1 (.slice (some ⟨g, 0, none⟩) 0 0) [] := ⟨_, _, rfl, fun i hi => by cases hi⟩
            clear HV
            go_wp2_with fail
            refine (r_row B R M Kb kws line st [] _ (fun y hy => HM.out y hy) (by simp) hI1 _ hq hnv1 hG).mono ?_
            rintro e W' (⟨st', h1, rfl, h3, h4⟩ | ⟨h1, b, rfl, hb0, hb1, hB3⟩)
            · have H1 : Hid (codeStep kws st x = some st') := by show _ = _; rw [HS.out, HP2.out]; exact h1
              clear h1
              go_wp2
              go_end0
              exact .inl ⟨st', H1.out, rfl, h3, (Near.of_below (hB1.mono hBW)).trans h4⟩
            · have H1 : Hid (codeStep kws st x = none) := by show _ = _; rw [HS.out, HP2.out]; exact h1
              clear h1
              go_wp2
              exact ⟨rfl, .inr ⟨H1.out, b, rfl, hb0, hb1, (hB1.mono hBW).trans hB3⟩⟩
          · have hq := HV.out (.slice (some ⟨g, 1, none⟩) ps.length (cap - 1)) (fun _ => rfl) (fun h => absurd h hcap)
            go_wp2_with fail
            refine (r_row B R M Kb kws line st ps _ (fun y hy => HM.out y hy) hps hI1 _ hq.1 hnv1 hG).mono ?_
            rintro e W' (⟨st', h1, rfl, h3, h4⟩ | ⟨h1, b, rfl, hb0, hb1, hB3⟩)
            · have H1 : Hid (codeStep kws st x = some st') := by show _ = _; rw [HS.out, HP2.out]; exact h1
              clear h1
              go_wp2
              go_end0
              exact .inl ⟨st', H1.out, rfl, h3, (Near.of_below (hB1.mono hBW)).trans h4⟩
            · have H1 : Hid (codeStep kws st x = none) := by show _ = _; rw [HS.out, HP2.out]; exact h1
              clear h1
              go_wp2
              exact ⟨rfl, .inr ⟨H1.out, b, rfl, hb0, hb1, (hB1.mono hBW).trans hB3⟩⟩
        · have hr' : (p == [114, 111, 119]) = false := by simpa using hr
          have HP2 : Hid (p ≠ sRow) := fun e => hr (by rw [e]; rfl)
          clear hr
          have c01 : W1.cell? ⟨R, 0, none⟩ = some (.int .i64 line) := by
            obtain ⟨v, hR, _⟩ := hI1.last
            simp [World.cell?, hR]
          go_wp2_with fail
          refine (r_must_false R line _ c01).mono ?_
          rintro e w3 ⟨b, rfl, hb0, hb1, hB3⟩
          go_wp2
          refine ⟨rfl, .inr ⟨?_, b, rfl, hb0, hb1, (hB1.mono hBW).trans (hB3.mono (by have := hB1.size; omega))⟩⟩
          rw [HS.out]
          unfold codePieces
          rw [if_neg HP.out, if_neg HP2.out]
end Go.Proofs.YtfkdfplnhlnnoaaGreatDoor
