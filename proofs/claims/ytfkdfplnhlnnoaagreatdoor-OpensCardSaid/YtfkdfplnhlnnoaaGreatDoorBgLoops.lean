/- Loops over slices.Chunk at pairs and over strings.SplitSeq, whose body may panic. -/
import Derived.Test.YtfkdfplnhlnnoaaGreatDoorBgChunk
import Derived.Test.YtfkdfplnhlnnoaaGreatDoorBgSplit
import Derived.Test.YtfkdfplnhlnnoaaGreatDoorBgRound
namespace Go.Proofs.YtfkdfplnhlnnoaaGreatDoor
open Go.RowKit
set_option linter.unusedSimpArgs false
set_option linter.unusedVariables false

theorem heap_drewN (A : World) (n : Nat) : (A.drewN n).heap = A.heap := by
  simp
theorem rangeW_low {w : World} {bf : FuncId} {tmps : Array Value} {ps : Array Tmp} {assign body : Code} {b : Nat} (h : b < w.heap.size) : (rangeW w bf tmps ps assign body).heap[b]? = w.heap[b]? :=
  (Below.heap_alloc _ _ b (by simp; omega)).trans (Below.heap_alloc _ _ b h)
theorem rangeW_def (w : World) (bf : FuncId) (tmps : Array Value) (ps : Array Tmp) (assign body : Code) : (rangeW w bf tmps ps assign body).heap[w.heap.size]? = some (.deferred (some [])) :=
  (Below.heap_alloc _ _ w.heap.size (by simp)).trans (heap_alloc_new w _)
theorem rangeW_rec (w : World) (bf : FuncId) (tmps : Array Value) (ps : Array Tmp) (assign body : Code) : (rangeW w bf tmps ps assign body).heap[w.heap.size + 1]? = some (.loop (recOf bf tmps ps assign body w.heap.size .ready)) := by
  have := heap_alloc_new (w.alloc (.deferred (some []))) (.loop (recOf bf tmps ps assign body w.heap.size .ready))
  rw [World.size_alloc] at this
  exact this

/-- the end of a function whose body held one such loop -/
theorem leave_ret {P : Program} {fn : Func} {tmps : Array Value} {R : Ending → World → Prop} {D : Nat} {w : World} {v : Value} (hD : w.heap[D]? = some (.deferred (some []))) (hres : (results fn tmps).run P (w.putObj D (.deferred none)) = .ok v (w.putObj D (.deferred none))) (hR : R (.returned v) (w.putObj D (.deferred none))) :
    bodyPostM Fence.wide 0 P fn R .normal { tmps := tmps, defers := [{ target := .collected D, args := #[] }] } w := by
  show LeavesInM Fence.wide 0 P fn tmps R [{ target := .collected D, args := #[] }] .returning w
  unfold LeavesInM
  refine ⟨by simp, .inl ⟨D, _, rfl, run_takeDeferred hD, ?_⟩⟩
  unfold LeavesInM LeavesIn
  exact ⟨v, hres, hR⟩
theorem leave_panic {P : Program} {fn : Func} {a : Act} {R : Ending → World → Prop} {D : Nat} {w : World} {ch : List PanicEntry} (ha : a.defers = [{ target := .collected D, args := #[] }]) (hD : w.heap[D]? = some (.deferred (some []))) (hR : R (.panicked ch) (w.putObj D (.deferred none))) :
    bodyPostM Fence.wide 0 P fn R (.panic ch) a w := by
  show LeavesInM Fence.wide 0 P fn a.tmps R a.defers (.panicking ch) w
  rw [ha]
  unfold LeavesInM
  refine ⟨by simp, .inl ⟨D, _, rfl, run_takeDeferred hD, ?_⟩⟩
  unfold LeavesInM LeavesIn
  exact hR

/-- the same but for block l -/
structure OffL (l : Nat) (A A' : World) : Prop where
  os : A'.os = A.os
  tape : A'.tape = A.tape
  output : A'.output = A.output
  size : A'.heap.size = A.heap.size
  block : ∀ b, b ≠ l → A'.heap[b]? = A.heap[b]?
theorem OffL.put (l : Nat) (A : World) (o : Obj) : OffL l A (A.putObj l o) := ⟨rfl, rfl, rfl, by simp [World.putObj], fun b hb => World.putObj_heap_other hb⟩
/-- what a round's body must end in -/
def bodyQ (l D : Nat) (rb : Loop) (J : World → Prop) (Jp : List PanicEntry → World → Prop) : Exit → Act → World → Prop
  | .normal, _, w => w.heap[l]? = some (.loop rb) ∧ w.heap[D]? = some (.deferred (some [])) ∧ ∀ A', OffL l w A' → J A'
  | .panic ch, a, w => a.defers = [] ∧ Jp ch w
  | _, _, _ => False
theorem bodyQ_out {l D : Nat} {r : Loop} {J : World → Prop} {Jp : List PanicEntry → World → Prop} : ¬ LetsOut (bodyQ l D r J Jp) := by
  rintro ⟨_, _, h⟩; exact h

theorem yield_body {P : Program} {l D n : Nat} {r : Loop} {fn : Func} {args : Array Value} {w : World} {J : World → Prop} {Jp : List PanicEntry → World → Prop} (hL : w.heap[l]? = some (.loop r)) (hD : w.heap[D]? = some (.deferred (some []))) (hlD : D ≠ l) (hs : args.size = r.params.size) (hr : r.state = .ready) (hp : r.pending = none) (hfn : P.funcs[r.fn]? = some fn)
    (h : ∀ rb A2, OffL l w A2 → A2.heap[l]? = some (.loop rb) → A2.heap[D]? = some (.deferred (some [])) → r.assign.wpIn (Fence.wide.inRound l) n P (Exit.then (fun a₁ w₁ => w₁ = w ∧ r.body.wpIn (Fence.wide.inRound l) n P (bodyQ l D rb J Jp) a₁ A2) (fun _ _ _ => False)) { tmps := (r.params.zip args).foldl (fun tmps (t, a) => tmps.setIfInBounds t a) r.tmps, defers := [] } w) :
    YieldAt Fence.wide n P l args w fun e W' => (e = .returned (.bool true) ∧ J W' ∧ W'.heap[l]? = some (.loop r) ∧ W'.heap[D]? = some (.deferred (some []))) ∨ (∃ ch, e = .panicked ch ∧ Jp ch W') := by
  refine ⟨r.fn, _, r.assign, r.body, run_yield hL hs, roundIn_p trivial hfn ?_⟩
  have hl : l < w.heap.size := (Array.getElem?_eq_some_iff.1 hL).1
  refine Code.wpIn_mono ?_ (h { r with state := .busy } (w.putObj l (.loop { r with state := .busy })) (OffL.put ..) (World.putObj_heap_same hl) ((World.putObj_heap_other hlD).trans hD))
  intro e a1 w1 hq
  cases e with
  | normal =>
    obtain ⟨rfl, hb⟩ := hq
    refine ⟨_, run_beginRound hL hr, Code.wpIn_mono ?_ hb⟩
    intro e a2 w2 hq2
    cases e with
    | normal =>
      obtain ⟨h1, h2, h3⟩ := hq2
      have hlt : l < w2.heap.size := (Array.getElem?_eq_some_iff.1 h1).1
      refine ⟨_, _, run_endRound none h1, .inl ⟨rfl, h3 _ (OffL.put ..), ?_, ?_⟩⟩
      · rw [World.putObj_heap_same hlt]
        cases r; simp only at hr hp; subst hr; subst hp; rfl
      · rw [World.putObj_heap_other hlD]; exact h2
    | panic ch => exact ⟨hq2.1, .inr ⟨ch, rfl, hq2.2⟩⟩
    | _ => exact hq2.elim
  | _ => exact hq.elim

set_option maxRecDepth 100000 in
theorem wpB_chunk {bf : FuncId} {fnb : Func} {Q : Exit → Act → World → Prop} {a : Act} {w : World} {g : Operand} {ps : Array Tmp} {assign body : Code} (Bs Bn gb o m cap : Nat) (J : Nat → World → Prop) (Jp : List PanicEntry → World → Prop)
    (hfn : Tryz.prog.funcs[bf]? = some fnb) (hg : a.eval g = .func (.func 131) #[] #[.pointer (some ⟨Bs, 0, none⟩), .pointer (some ⟨Bn, 0, none⟩)]) (hps : ps.size = 1)
    (hm : m ≤ 6) (hcap : 2 * m ≤ cap) (hcap2 : cap ≤ maxLen) (h0 : w.cell? ⟨Bs, 0, none⟩ = some (.slice (some ⟨gb, o, none⟩) (2 * m) cap)) (h1 : w.cell? ⟨Bn, 0, none⟩ = some (.int .i64 2))
    (hJd : ∀ k A n, J k A → J k (A.drewN n)) (hJ0 : J 0 (rangeW w bf a.tmps ps assign body))
    (hround : ∀ k A rb A2, J k A → k < m → OffL (w.heap.size + 1) A A2 → A2.heap[w.heap.size + 1]? = some (.loop rb) → A2.heap[w.heap.size]? = some (.deferred (some [])) →
      assign.wpIn (Fence.wide.inRound (w.heap.size + 1)) 2 Tryz.prog (Exit.then (fun a₁ w₁ => w₁ = A ∧ body.wpIn (Fence.wide.inRound (w.heap.size + 1)) 2 Tryz.prog
        (bodyQ (w.heap.size + 1) w.heap.size rb (fun A' => J (k + 1) A' ∧ A'.heap[Bs]? = A.heap[Bs]? ∧ A'.heap[Bn]? = A.heap[Bn]?) Jp) a₁ A2) (fun _ _ _ => False))
        { tmps := (ps.zip #[.slice (some ⟨gb, o + 2 * k, none⟩) 2 2]).foldl (fun tmps (t, a) => tmps.setIfInBounds t a) a.tmps, defers := [] } A)
    (hdone : ∀ A A2, J m A → OffL (w.heap.size + 1) A A2 → A2.heap[w.heap.size]? = some (.deferred (some [])) →
      Q .normal { a with defers := { target := .collected w.heap.size, args := #[] } :: a.defers } A2)
    (hpan : ∀ ch A, Jp ch A → Q (.panic ch) { a with defers := { target := .collected w.heap.size, args := #[] } :: a.defers } A) :
    wpB bf Tryz.prog (Code.rangeFunc g ps assign body) Q a w := by
  have hBs : Bs < w.heap.size := World.block_lt_of_cell? w _ h0
  have hBn : Bn < w.heap.size := World.block_lt_of_cell? w _ h1
  refine wpB_range (gf := 131) hg (fun _ _ => rfl) ?_
  refine Calls.mono ((callsIn_wide (n := 3)).1 (chunk_iter (w.heap.size + 1) Bs Bn gb o m cap (rangeW w bf a.tmps ps assign body) hm hcap hcap2 ?_ ?_
    (fun k A => J k A ∧ A.heap[w.heap.size + 1]? = some (.loop (recOf bf a.tmps ps assign body w.heap.size .ready)) ∧ A.heap[w.heap.size]? = some (.deferred (some []))) Jp ?_ ?_ ?_)) ?_
  · exact (World.cell?_of_block (rangeW_low hBs)).trans h0
  · exact (World.cell?_of_block (rangeW_low hBn)).trans h1
  · rintro k A n ⟨h1, h2, h3⟩
    exact ⟨hJd k A n h1, by rw [heap_drewN]; exact h2, by rw [heap_drewN]; exact h3⟩
  · rintro k A ⟨hj, hL, hD⟩ hk
    have hy := yield_body (P := Tryz.prog) (n := 2) (l := w.heap.size + 1) (D := w.heap.size) (args := #[.slice (some ⟨gb, o + 2 * k, none⟩) 2 2]) hL hD (by omega) (by show 1 = ps.size; omega) rfl rfl hfn (fun rb A2 h1 h2 h3 => hround k A rb A2 hj hk h1 h2 h3)
    obtain ⟨fn, tmps, asg, bd, hyr, hR⟩ := hy
    refine ⟨fn, tmps, asg, bd, hyr, RoundIn.mono hR ?_⟩
    rintro e W' (⟨rfl, ⟨h1, h2, h3⟩, h4, h5⟩ | h)
    · exact .inl ⟨rfl, ⟨h1, h4, h5⟩, h2, h3⟩
    · exact .inr h
  · exact ⟨hJ0, rangeW_rec .., rangeW_def ..⟩
  · rintro e W' (⟨v, rfl, hj, hL, hD⟩ | ⟨ch, rfl, hp⟩)
    · exact ⟨hL, hdone W' _ hj (OffL.put ..) ((World.putObj_heap_other (by omega)).trans hD)⟩
    · exact hpan ch W' hp

set_option maxRecDepth 100000 in
theorem wpB_split {bf : FuncId} {fnb : Func} {Q : Exit → Act → World → Prop} {a : Act} {w : World} {g : Operand} {ps : Array Tmp} {assign body : Code} (Bs Bp Bv : Nat) (s : Bg.Str) (J : List Bg.Str → World → Prop) (Jp : List PanicEntry → World → Prop)
    (hfn : Tryz.prog.funcs[bf]? = some fnb) (hg : a.eval g = .func (.func 94) #[] #[.pointer (some ⟨Bp, 0, none⟩), .pointer (some ⟨Bs, 0, none⟩), .pointer (some ⟨Bv, 0, none⟩)]) (hps : ps.size = 1)
    (hs : s.length ≤ 90000) (hsp : Bs ≠ Bp) (hsv : Bs ≠ Bv)
    (h0 : w.cell? ⟨Bs, 0, none⟩ = some (.string ⟨s.toArray⟩)) (hf0 : w.frozen? ⟨Bs, 0, none⟩ = false) (h1 : w.cell? ⟨Bp, 0, none⟩ = some (.string ⟨#[10]⟩)) (h2 : w.cell? ⟨Bv, 0, none⟩ = some (.int .i64 0))
    (hJs : ∀ pre A v, J pre A → J pre (A.setCell ⟨Bs, 0, none⟩ v)) (hJd : ∀ pre A n, J pre A → J pre (A.drewN n)) (hJ0 : J [] (rangeW w bf a.tmps ps assign body))
    (hround : ∀ pre x post A rb A2, J pre A → pre ++ x :: post = Bg.lines s → OffL (w.heap.size + 1) A A2 → A2.heap[w.heap.size + 1]? = some (.loop rb) → A2.heap[w.heap.size]? = some (.deferred (some [])) →
      assign.wpIn (Fence.wide.inRound (w.heap.size + 1)) 2 Tryz.prog (Exit.then (fun a₁ w₁ => w₁ = A ∧ body.wpIn (Fence.wide.inRound (w.heap.size + 1)) 2 Tryz.prog
        (bodyQ (w.heap.size + 1) w.heap.size rb (fun A' => J (pre ++ [x]) A' ∧ A'.heap[Bs]? = A.heap[Bs]? ∧ A'.heap[Bp]? = A.heap[Bp]? ∧ A'.heap[Bv]? = A.heap[Bv]?) Jp) a₁ A2) (fun _ _ _ => False))
        { tmps := (ps.zip #[strV x]).foldl (fun tmps (t, a) => tmps.setIfInBounds t a) a.tmps, defers := [] } A)
    (hdone : ∀ A A2, J (Bg.lines s) A → OffL (w.heap.size + 1) A A2 → A2.heap[w.heap.size]? = some (.deferred (some [])) →
      Q .normal { a with defers := { target := .collected w.heap.size, args := #[] } :: a.defers } A2)
    (hpan : ∀ ch A, Jp ch A → Q (.panic ch) { a with defers := { target := .collected w.heap.size, args := #[] } :: a.defers } A) :
    wpB bf Tryz.prog (Code.rangeFunc g ps assign body) Q a w := by
  have hBs : Bs < w.heap.size := World.block_lt_of_cell? w _ h0
  have hBp : Bp < w.heap.size := World.block_lt_of_cell? w _ h1
  have hBv : Bv < w.heap.size := World.block_lt_of_cell? w _ h2
  refine wpB_range (gf := 94) hg (fun _ _ => rfl) ?_
  refine Calls.mono ((callsIn_wide (n := 3)).1 (split_iter (w.heap.size + 1) Bs Bp Bv s (rangeW w bf a.tmps ps assign body) hs hsp hsv ?_ ?_ ?_ ?_
    (fun k A => J k A ∧ A.heap[w.heap.size + 1]? = some (.loop (recOf bf a.tmps ps assign body w.heap.size .ready)) ∧ A.heap[w.heap.size]? = some (.deferred (some []))) Jp ?_ ?_ ?_ ?_)) ?_
  · exact (World.cell?_of_block (rangeW_low hBs)).trans h0
  · exact (World.frozen?_of_block (rangeW_low hBs)).trans hf0
  · exact (World.cell?_of_block (rangeW_low hBp)).trans h1
  · exact (World.cell?_of_block (rangeW_low hBv)).trans h2
  · rintro pre A v ⟨h1, h2, h3⟩
    exact ⟨hJs pre A v h1, (Below.heap_setCell A ⟨Bs, 0, none⟩ _ _ (by show _ ≠ Bs; omega)).trans h2, (Below.heap_setCell A ⟨Bs, 0, none⟩ _ _ (by show _ ≠ Bs; omega)).trans h3⟩
  · rintro k A n ⟨h1, h2, h3⟩
    exact ⟨hJd k A n h1, by rw [heap_drewN]; exact h2, by rw [heap_drewN]; exact h3⟩
  · rintro pre x post A ⟨hj, hL, hD⟩ hk
    have hy := yield_body (P := Tryz.prog) (n := 2) (l := w.heap.size + 1) (D := w.heap.size) (args := #[strV x]) hL hD (by omega) (by show 1 = ps.size; omega) rfl rfl hfn (fun rb A2 h1 h2 h3 => hround pre x post A rb A2 hj hk h1 h2 h3)
    obtain ⟨fn, tmps, asg, bd, hyr, hR⟩ := hy
    refine ⟨fn, tmps, asg, bd, hyr, RoundIn.mono hR ?_⟩
    rintro e W' (⟨rfl, ⟨h1, h2, h3, h6⟩, h4, h5⟩ | h)
    · exact .inl ⟨rfl, ⟨h1, h4, h5⟩, h2, h3, h6⟩
    · exact .inr h
  · exact ⟨hJ0, rangeW_rec .., rangeW_def ..⟩
  · rintro e W' (⟨v, rfl, hj, hL, hD⟩ | ⟨ch, rfl, hp⟩)
    · exact ⟨hL, hdone W' _ hj (OffL.put ..) ((World.putObj_heap_other (by omega)).trans hD)⟩
    · exact hpan ch W' hp
end Go.Proofs.YtfkdfplnhlnnoaaGreatDoor
