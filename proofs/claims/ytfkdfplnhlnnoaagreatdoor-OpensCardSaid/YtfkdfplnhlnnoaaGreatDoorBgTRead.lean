/- package tables: Read. -/
import Derived.Test.YtfkdfplnhlnnoaaGreatDoorBgReader
import Derived.Test.YtfkdfplnhlnnoaaGreatDoorBgKeys
namespace Go.Proofs.YtfkdfplnhlnnoaaGreatDoor
open Go.RowKit Go.Shelf
set_option linter.unusedSimpArgs false
set_option linter.unusedVariables false
attribute [local go_sem] Oper.semAt_some

/-- what is known behind some lines -/
def codeAfter (kws : List Bg.Str) : St → List Bg.Str → Option St
  | st, [] => some st
  | st, x :: r => match codeStep kws st x with
    | none => none
    | some st' => codeAfter kws st' r
theorem after_snoc (kws : List Bg.Str) (x : Bg.Str) : ∀ (pre : List Bg.Str) (st st1 st2 : St), codeAfter kws st pre = some st1 → codeStep kws st1 x = some st2 → codeAfter kws st (pre ++ [x]) = some st2
  | [], st, st1, st2, h1, h2 => by
    cases h1
    simp only [List.nil_append, codeAfter, h2]
  | y :: pre, st, st1, st2, h1, h2 => by
    rw [codeAfter] at h1
    rw [List.cons_append, codeAfter]
    cases hc : codeStep kws st y with
    | none => rw [hc] at h1; cases h1
    | some st' => rw [hc] at h1; exact after_snoc kws x pre st' st1 st2 h1 h2
theorem run_bad (kws : List Bg.Str) (x : Bg.Str) (post : List Bg.Str) : ∀ (pre : List Bg.Str) (st st1 : St) (k : Nat), codeAfter kws st pre = some st1 → codeStep kws st1 x = none → codeRun kws st k (pre ++ x :: post) = (k : Int) + pre.length + 1
  | [], st, st1, k, h1, h2 => by
    cases h1
    simp only [List.nil_append, codeRun, h2, List.length_nil]
    omega
  | y :: pre, st, st1, k, h1, h2 => by
    rw [codeAfter] at h1
    rw [List.cons_append, codeRun]
    cases hc : codeStep kws st y with
    | none => rw [hc] at h1; cases h1
    | some st' =>
      rw [hc] at h1
      have ih := run_bad kws x post pre st' st1 (k + 1) h1 h2
      show codeRun kws st' (k + 1) (pre ++ x :: post) = _
      rw [ih, List.length_cons]
      omega
theorem run_good (kws : List Bg.Str) : ∀ (ls : List Bg.Str) (st st1 : St) (k : Nat), codeAfter kws st ls = some st1 → codeRun kws st k ls = -1
  | [], _, _, _, _ => rfl
  | y :: ls, st, st1, k, h1 => by
    rw [codeAfter] at h1
    rw [codeRun]
    cases hc : codeStep kws st y with
    | none => rw [hc] at h1; cases h1
    | some st' => rw [hc] at h1; exact run_good kws ls st' st1 (k + 1) h1
theorem data_code (s : Bg.Str) (h : ¬ s.length > 4000) : refData s = codeRun kwsAll ⟨[], none, []⟩ 0 (Bg.lines s) := by
  unfold refData
  rw [if_neg h]
  exact run_ref (Bg.lines s) ⟨[], none, []⟩ 0 (by simp)

/-- the next line's number -/
theorem RInv.line {B R M Kb : Nat} {kws : List Bg.Str} {line line' : Int} {st : St} {W : World} (h : RInv B R M Kb kws line st W) : RInv B R M Kb kws line' st (W.setCell ⟨R, 0, none⟩ (.int .i64 line')) := by
  obtain ⟨v, hR, hv⟩ := h.last
  have hR' : (W.setCell ⟨R, 0, none⟩ (.int .i64 line')).heap[R]? = some (.cells #[.int .i64 line', .map (some M), v, .map (some Kb)] 108 (0, 0)) := setCell_heap hR
  have hR0 : RInv B R M Kb kws line st (W.putObj R (.cells #[.int .i64 line, .map (some M), v, .map (some Kb)] 108 (0, 0))) := by
    refine h.keep (by rw [size_putObj]; exact Nat.le_refl _) (fun b hb _ => ?_)
    by_cases e : b = R
    · subst e; rw [World.putObj_heap_same hb, hR]
    · exact World.putObj_heap_other e
  have lo : ∀ b, b ≠ R → (W.setCell ⟨R, 0, none⟩ (.int .i64 line')).heap[b]? = W.heap[b]? := fun b hb => Below.heap_setCell W ⟨R, 0, none⟩ _ b hb
  have hsz : (W.setCell ⟨R, 0, none⟩ (.int .i64 line')).heap.size = W.heap.size := by simp
  refine ⟨h.hR, h.hM, h.hK, h.hRM, h.hMK, h.hRK, by rw [hsz]; exact h.hB, h.nd, keyset_block h.names (lo M (Ne.symm h.hRM)), keyset_block h.keys (lo Kb (Ne.symm h.hRK)), h.tabs.keep (lo M (Ne.symm h.hRM)) (fun b _ hb => lo b (by have := h.hR; omega)), v, hR', ?_⟩
  have hRB := h.hR
  cases hl : st.last with
  | none => rw [hl] at hv; exact hv
  | some t =>
    rw [hl] at hv
    obtain ⟨T, cv, pv, rv, rs, rfl, hT, hTW, hcv, hrv, r⟩ := hv
    exact ⟨T, cv, pv, rv, rs, rfl, hT, (lo T (by omega)).trans hTW, own_block hcv (fun g hg => lo g (by omega)), own_block hrv (fun g hg => lo g (by omega)), r⟩

/-- the loop over the lines: N the heap's size at Read's start, w5 the world ahead of the loop -/
structure RLoop (N R Kb Bs : Nat) (pre : List Bg.Str) (w5 A : World) : Prop where
  st : ∃ st, codeAfter kwsAll ⟨[], none, []⟩ pre = some st ∧ RInv (w5.heap.size + 2) R N Kb kwsAll pre.length st A
  os : A.os = w5.os
  tape : A.tape = w5.tape
  output : A.output = w5.output
  size : w5.heap.size + 2 ≤ A.heap.size
  keep : ∀ b, b < w5.heap.size → b ≠ R → b ≠ N → b ≠ Bs → A.heap[b]? = w5.heap[b]?
theorem RLoop.same {N R Kb Bs : Nat} {pre : List Bg.Str} {w5 A A' : World} (h : RLoop N R Kb Bs pre w5 A) (hs : A.heap.size ≤ A'.heap.size) (h1 : A'.os = A.os) (h2 : A'.tape = A.tape) (h3 : A'.output = A.output) (hRK : R < w5.heap.size ∧ N < w5.heap.size ∧ Kb < w5.heap.size ∧ R ≠ Bs ∧ N ≠ Bs ∧ Kb ≠ Bs) (hBs : Bs < w5.heap.size)
    (hb : ∀ b, b < A.heap.size → b ≠ Bs → b ≠ w5.heap.size + 1 → b ≠ w5.heap.size → A'.heap[b]? = A.heap[b]?) : RLoop N R Kb Bs pre w5 A' := by
  obtain ⟨st, hst, hI⟩ := h.st
  have hsz := h.size
  refine ⟨⟨st, hst, hI.keep hs (fun b hb1 hb2 => hb b hb1 (by omega) (by omega) (by omega))⟩, h1.trans h.os, h2.trans h.tape, h3.trans h.output, Nat.le_trans hsz hs, fun b hb1 hb2 hb3 hb4 => (hb b (by omega) hb4 (by omega) (by omega)).trans (h.keep b hb1 hb2 hb3 hb4)⟩
theorem leave_panic0 {P : Program} {fn : Func} {a : Act} {R : Ending → World → Prop} {w : World} {ch : List PanicEntry} (ha : a.defers = []) (hR : R (.panicked ch) w) : bodyPostM Fence.wide 0 P fn R (.panic ch) a w := by
  show LeavesInM Fence.wide 0 P fn a.tmps R a.defers (.panicking ch) w
  rw [ha]
  unfold LeavesInM LeavesIn
  exact hR
theorem Spaces.below {n : Nat} {w w' : World} (h : Spaces w) (hB : Below n w w') (hn : 13 ≤ n) : Spaces w' :=
  ⟨Nat.lt_of_lt_of_le h.1 hB.size, fun c hc => (hB.cell (p := ⟨1, c.toNat, none⟩) (show 1 < n from Nat.lt_of_lt_of_le (by decide) hn)).trans (h.2 c hc)⟩
end Go.Proofs.YtfkdfplnhlnnoaaGreatDoor
