/- package words: Keywords. -/
import Derived.Test.YtfkdfplnhlnnoaaGreatDoorBgFields
import Derived.Test.YtfkdfplnhlnnoaaGreatDoorBgTabR
namespace Go.Proofs.YtfkdfplnhlnnoaaGreatDoor
open Go.RowKit Go.Shelf
set_option linter.unusedSimpArgs false
set_option linter.unusedVariables false
attribute [local go_sem] Oper.semAt_some

/-- package strings' table of blanks, as it is laid -/
def Spaces (w : World) : Prop := 1 < w.heap.size ∧ ∀ c : UInt8, c.toNat < 128 → w.cell? ⟨1, c.toNat, none⟩ = some (.int .u8 (if isSp c then 1 else 0))
/-- the loop over the keywords -/
structure KLoop (N : Nat) (pre : List Bg.Str) (W A : World) : Prop where
  low : Below N W A
  b1 : A.heap[N + 1]? = some (.cells #[.map (some N)] 104 (0, 0))
  b2 : A.heap[N + 2]? = some (.cells #[.string ⟨kwText.toArray⟩] 9 (0, 0))
  sz : N + 5 ≤ A.heap.size
  ks : keyset A N pre.length pre
theorem KLoop.same {N : Nat} {pre : List Bg.Str} {W A A' : World} (h : KLoop N pre W A) (hs : A.heap.size ≤ A'.heap.size) (h1 : A'.os = A.os) (h2 : A'.tape = A.tape) (h3 : A'.output = A.output) (hb : ∀ b, b < N + 4 → A'.heap[b]? = A.heap[b]?) : KLoop N pre W A' :=
  ⟨⟨h1.trans h.low.os, h2.trans h.low.tape, h3.trans h.low.output, Nat.le_trans h.low.size hs, fun b hb' => (hb b (by omega)).trans (h.low.block b hb')⟩, (hb _ (by omega)).trans h.b1, (hb _ (by omega)).trans h.b2, Nat.le_trans h.sz hs, keyset_block h.ks (hb _ (by omega))⟩

theorem three_get (h : Array Obj) (o0 o1 o2 : Obj) : (((h.push o0).push o1).push o2)[h.size]? = some o0 ∧ (((h.push o0).push o1).push o2)[h.size + 1]? = some o1 ∧ (((h.push o0).push o1).push o2)[h.size + 2]? = some o2 := by
  refine ⟨?_, ?_, ?_⟩
  · rw [push_lo (by simp only [Array.size_push]; omega), push_lo (by simp only [Array.size_push]; omega), push_at (by simp only [Array.size_push])]
  · rw [push_lo (by simp only [Array.size_push]; omega), push_at (by simp only [Array.size_push])]
  · rw [push_at (by simp only [Array.size_push])]

set_option maxRecDepth 100000 in
set_option maxHeartbeats 1000000 in
theorem w_keywords (W : World) (hS : Spaces W) :
    Calls Tryz.prog 45 #[] W fun e W' => e = .returned (.map (some W.heap.size)) ∧ keyset W' W.heap.size 100 kwsAll ∧ Below W.heap.size W W' ∧ W.heap.size < W'.heap.size := by
  have hmm := @run_makeMap Tryz.prog
  have hmf : ∀ (fn : Fn) (first cap : Array Value) (w : World), (Instr.makeFunc fn first cap).run Tryz.prog w = .ok (.func fn first cap) w := fun _ _ _ _ => rfl
  refine calls_of_wpB Tryz.func45 rfl ?_
  simp only [Tryz.ntmps45, List.size_toArray, List.length_cons, List.length_nil, Nat.reduceAdd, Nat.reduceSub, Array.replicate_succ, Array.replicate_zero, List.push_toArray, List.append_toArray, List.nil_append, List.cons_append]
  refine wpB_seq (wpB_wp ?_)
  go_wp2
  refine wpB_seq (wpB_wp ?_)
  go_wp2
  refine wpB_seq (wpB_seq (wpB_wp ?_))
  go_wp2
  refine wpB_block ?_
  change wpB _ _ _ _ _ (((W.alloc (.map #[] 0)).alloc (.cells #[.map (some W.heap.size)] 104)).alloc (.cells #[.string ⟨kwText.toArray⟩] 9))
  obtain ⟨w3, hw3⟩ : ∃ w3, ((W.alloc (.map #[] 0)).alloc (.cells #[.map (some W.heap.size)] 104)).alloc (.cells #[.string ⟨kwText.toArray⟩] 9) = w3 := ⟨_, rfl⟩
  rw [hw3]
  have hs3 : w3.heap.size = W.heap.size + 3 := by rw [← hw3]; simp
  have hB3 : Below W.heap.size W w3 := by
    rw [← hw3]
    exact (((Below.refl _ W).alloc (Nat.le_refl _) _).alloc (by simp) _).alloc (by simp; omega) _
  have k0 : w3.heap[W.heap.size]? = some (.map #[] 0) := by rw [← hw3]; exact (three_get W.heap _ _ _).1
  have k1 : w3.heap[W.heap.size + 1]? = some (.cells #[.map (some W.heap.size)] 104 (0, 0)) := by rw [← hw3]; exact (three_get W.heap _ _ _).2.1
  have k2 : w3.heap[W.heap.size + 2]? = some (.cells #[.string ⟨kwText.toArray⟩] 9 (0, 0)) := by rw [← hw3]; exact (three_get W.heap _ _ _).2.2
  clear hw3
  refine wpB_fields (W.heap.size + 2) kwText (fun pre A => KLoop W.heap.size pre W A) (fun _ _ => False) Tryz.func45 rfl rfl (by decide) kw_asc ?_ ?_ ?_ ?_ ?_ (fun _ _ h => h.elim)
  · intro pre A n h
    have hd := below_dr (Below.refl A.heap.size A) n
    exact h.same hd.size hd.os hd.tape hd.output (fun b _ => by rw [heap_drewN])
  · intro pre A h
    refine ⟨by simp [World.cell?, h.b2], fun c hc => ?_⟩
    exact (h.low.cell (p := ⟨1, c.toNat, none⟩) hS.1).trans (hS.2 c hc)
  · have lo : ∀ b, b < W.heap.size + 3 → ∀ (tmps : Array Value) (ps : Array Tmp) (asg bd : Code), (rangeW w3 45 tmps ps asg bd).heap[b]? = w3.heap[b]? := fun b hb _ _ _ _ => rangeW_low (by omega)
    refine ⟨⟨hB3.os, hB3.tape, hB3.output, ?_, fun b hb => (lo _ (by omega) ..).trans (hB3.block b hb)⟩, (lo _ (by omega) ..).trans k1, (lo _ (by omega) ..).trans k2, ?_, ?_⟩
    · simp [rangeW]; omega
    · simp [rangeW]; omega
    · refine keyset_block (w := w3) ?_ (lo _ (by omega) ..)
      exact ⟨#[], 0, k0, ⟨by simp, MapKept.stamped_empty 0, by simp⟩, Nat.le_refl _, rfl⟩
  · intro pre x A rb A2 hT hpl hxl hOff hL hD
    rw [hs3] at hOff hL hD
    have hkl : kwText.length ≤ 200 := by decide
    have hT2 : KLoop W.heap.size pre W A2 := hT.same (Nat.le_of_eq hOff.size.symm) hOff.os hOff.tape hOff.output (fun b hb => hOff.block b (by omega))
    obtain ⟨w8, hr8, ho8, hg8⟩ := World.ownsMap.update (w := A2) (val := .int .i64 1) hT2.ks strKeyed Tryz.underlying104 (by unfold maxLen; omega) (strKey x (by omega)) rfl
    have hr8s : (Instr.mapUpdate 104 (.map (some W.heap.size)) (strV x) (.int .i64 1)).run Tryz.prog A2 = .ok () w8 := hr8
    have p1 : A2.cell? ⟨W.heap.size + 1, 0, none⟩ = some (.map (some W.heap.size)) := by simp [World.cell?, hT2.b1]
    have lo8 : ∀ b, b < A2.heap.size → b ≠ W.heap.size → w8.heap[b]? = A2.heap[b]? := fun b hb hne => hg8.block b hb (fun e => hne (Option.some.inj e))
    have hs2 := hT2.sz
    have HT8 : Hid (KLoop W.heap.size (pre ++ [x]) W w8) := by
      refine ⟨hT2.low.grown hg8 (by omega) (fun b e => by have := Option.some.inj e; omega), (lo8 _ (by omega) (by omega)).trans hT2.b1, (lo8 _ (by omega) (by omega)).trans hT2.b2, Nat.le_trans hs2 hg8.size, ?_⟩
      rw [put_keys] at ho8
      rw [List.length_append]
      exact ho8
    have HL8 : Hid (w8.heap[W.heap.size + 4]? = some (.loop rb)) := (lo8 _ (by omega) (by omega)).trans hL
    have HD8 : Hid (w8.heap[W.heap.size + 3]? = some (.deferred (some []))) := (lo8 _ (by omega) (by omega)).trans hD
    clear hT hT2 hOff hL hD ho8 hg8 lo8 k0 k1 k2
    refine round_list rfl (by rintro ⟨_, _, h⟩; exact h) ?_
    go_wp2
    try refine ⟨trivial, ?_⟩
    refine wpIn_block ?_
    refine round_list rfl (by rintro ⟨_, _, h⟩; exact h) ?_
    go_wp2
    have y1 := HL8.out
    have y2 := HD8.out
    refine ⟨by first | exact y1 | (rw [hs3]; exact y1), by first | exact y2 | (rw [hs3]; exact y2), fun A' hO => ?_⟩
    exact HT8.out.same (Nat.le_of_eq hO.size.symm) hO.os hO.tape hO.output (fun b hb => hO.block b (by first | omega | (rw [hs3]; omega)))
  · intro A A2 hT hOff hD
    rw [hs3] at hOff hD
    rw [fsEnd_kw] at hT
    have hT2 : KLoop W.heap.size kwsAll W A2 := hT.same (Nat.le_of_eq hOff.size.symm) hOff.os hOff.tape hOff.output (fun b hb => hOff.block b (by omega))
    have p1 : A2.cell? ⟨W.heap.size + 1, 0, none⟩ = some (.map (some W.heap.size)) := by simp [World.cell?, hT2.b1]
    have HT2 : Hid (KLoop W.heap.size kwsAll W A2) := hT2
    have HD2 : Hid (A2.heap[W.heap.size + 3]? = some (.deferred (some []))) := hD
    clear hT hT2 hOff hD k0 k1 k2
    refine wpB_wp ?_
    go_wp2
    have hlow := HT2.out.low
    have hsz := HT2.out.sz
    refine leave_ret (v := .map (some W.heap.size)) HD2.out (by simp [results, Tryz.results45]) ⟨rfl, ?_, ?_, ?_⟩
    · exact keyset_block (HT2.out.ks.mono (by decide)) (World.putObj_heap_other (by omega))
    · exact ⟨hlow.os, hlow.tape, hlow.output, by rw [size_putObj]; exact hlow.size, fun b hb => (World.putObj_heap_other (by omega)).trans (hlow.block b hb)⟩
    · rw [size_putObj]; omega
end Go.Proofs.YtfkdfplnhlnnoaaGreatDoor
