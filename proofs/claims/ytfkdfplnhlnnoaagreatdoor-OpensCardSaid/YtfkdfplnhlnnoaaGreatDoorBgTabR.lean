/- package tables: table: what lies in memory while its columns are read. -/
import Derived.Test.YtfkdfplnhlnnoaaGreatDoorBgLoops
import Derived.Test.YtfkdfplnhlnnoaaGreatDoorBgStep
namespace Go.Proofs.YtfkdfplnhlnnoaaGreatDoor
open Go.RowKit
set_option linter.unusedSimpArgs false
set_option linter.unusedVariables false

theorem own_block {w w' : World} {B e sz n : Nat} {v : Value} {xs : List Value} (h : w.ownsRow B e sz v n xs) (hb : ∀ g, B ≤ g → w'.heap[g]? = w.heap[g]?) : w'.ownsRow B e sz v n xs := by
  refine ⟨h.1, ?_⟩
  rcases h.2 with h0 | ⟨g, cap, cu, rfl, hg, hh, r⟩
  · exact .inl h0
  · exact .inr ⟨g, cap, cu, rfl, hg, (hb g hg).trans hh, r⟩
theorem size_putObj (w : World) (r : Nat) (o : Obj) : (w.putObj r o).heap.size = w.heap.size := by simp [World.putObj]

theorem Tryz.infoCol : (Tryz.prog.info? 195).map (fun i => (i.zero, i.size, i.bytes)) = some (some (.agg #[.string ⟨#[]⟩, .int .i64 0]), 2, 24) := by kernel_rfl
theorem cell_two (w : World) (a b : Value) (ty : TypeId) : ∀ j u, [a, b][j]? = some u → (w.alloc (.cells #[a, b] ty)).cell? ((⟨w.heap.size, 0, none⟩ : Addr).add j) = some u := by
  intro j u h
  match j with
  | 0 => simp at h; subst h; simp [Addr.add]
  | 1 => simp at h; subst h; simp [Addr.add]
  | n + 2 => simp at h
/-- a fault, behind the loop's own block of deferred calls -/
theorem bad_put {B N D b : Nat} {line : Int} {W A : World} (hB : B ≤ N) (hBl : Below N W A) (hD : A.heap[D]? = some (.deferred (some []))) (hb0 : A.cell? ⟨b, 0, none⟩ = some (.int .i64 1)) (hb1 : A.cell? ⟨b, 1, none⟩ = some (.int .i64 line)) (hN : N ≤ D) : bad B line W (.panicked (thrown b)) (A.putObj D (.deferred none)) := by
  have hbD : b ≠ D := by
    intro e; subst e
    simp [World.cell?, hD] at hb0
  refine ⟨b, rfl, (World.cell?_of_block (a := ⟨b, 0, none⟩) (World.putObj_heap_other hbD)).trans hb0, (World.cell?_of_block (a := ⟨b, 1, none⟩) (World.putObj_heap_other hbD)).trans hb1, hBl.os, hBl.tape, hBl.output, ?_, fun k hk => (World.putObj_heap_other (by omega)).trans (hBl.block k (by omega))⟩
  rw [size_putObj]; exact hBl.size
theorem push_at {h : Array Obj} {o : Obj} {i : Nat} (e : i = h.size) : (h.push o)[i]? = some o := by subst e; simp
theorem push_lo {h : Array Obj} {o : Obj} {i : Nat} (hi : i < h.size) : (h.push o)[i]? = h[i]? := by rw [Array.getElem?_push, if_neg (by omega)]
theorem six_get (h : Array Obj) (o0 o1 o2 o3 o4 o5 : Obj) :
    ((((((h.push o0).push o1).push o2).push o3).push o4).push o5)[h.size]? = some o0 ∧ ((((((h.push o0).push o1).push o2).push o3).push o4).push o5)[h.size + 1]? = some o1 ∧ ((((((h.push o0).push o1).push o2).push o3).push o4).push o5)[h.size + 2]? = some o2 ∧
    ((((((h.push o0).push o1).push o2).push o3).push o4).push o5)[h.size + 3]? = some o3 ∧ ((((((h.push o0).push o1).push o2).push o3).push o4).push o5)[h.size + 4]? = some o4 ∧ ((((((h.push o0).push o1).push o2).push o3).push o4).push o5)[h.size + 5]? = some o5 := by
  refine ⟨?_, ?_, ?_, ?_, ?_, ?_⟩
  · rw [push_lo (by simp only [Array.size_push]; omega), push_lo (by simp only [Array.size_push]; omega), push_lo (by simp only [Array.size_push]; omega), push_lo (by simp only [Array.size_push]; omega), push_lo (by simp only [Array.size_push]; omega), push_at (by simp only [Array.size_push])]
  · rw [push_lo (by simp only [Array.size_push]; omega), push_lo (by simp only [Array.size_push]; omega), push_lo (by simp only [Array.size_push]; omega), push_lo (by simp only [Array.size_push]; omega), push_at (by simp only [Array.size_push])]
  · rw [push_lo (by simp only [Array.size_push]; omega), push_lo (by simp only [Array.size_push]; omega), push_lo (by simp only [Array.size_push]; omega), push_at (by simp only [Array.size_push])]
  · rw [push_lo (by simp only [Array.size_push]; omega), push_lo (by simp only [Array.size_push]; omega), push_at (by simp only [Array.size_push])]
  · rw [push_lo (by simp only [Array.size_push]; omega), push_at (by simp only [Array.size_push])]
  · rw [push_at (by simp only [Array.size_push])]
/-- what may change below B: the reader and its map alone -/
structure Near (B R M : Nat) (w w' : World) : Prop where
  os : w'.os = w.os
  tape : w'.tape = w.tape
  output : w'.output = w.output
  size : w.heap.size ≤ w'.heap.size
  block : ∀ b, b < B → b ≠ R → b ≠ M → w'.heap[b]? = w.heap[b]?
theorem Near.of_below {B R M : Nat} {w w' : World} (h : Below B w w') : Near B R M w w' := ⟨h.os, h.tape, h.output, h.size, fun b hb _ _ => h.block b hb⟩
theorem Near.trans {B R M : Nat} {w w' w'' : World} (h : Near B R M w w') (h' : Near B R M w' w'') : Near B R M w w'' :=
  ⟨h'.os.trans h.os, h'.tape.trans h.tape, h'.output.trans h.output, Nat.le_trans h.size h'.size, fun b h1 h2 h3 => (h'.block b h1 h2 h3).trans (h.block b h1 h2 h3)⟩
/-- are a table's columns right? -/
def colsGood (kws : List Bg.Str) (l : List Bg.Str) : Prop := (pairsOf l).all (pairOk kws) = true ∧ ((pairsOf l).map (·.1)).Nodup
/-- the loop over a table's columns: what lies in memory behind k of them (N: the heap's size at table's start) -/
structure TLoop (N R g o cap : Nat) (kws : List Bg.Str) (l : List Bg.Str) (k : Nat) (W A : World) : Prop where
  low : Below N W A
  bR : A.heap[N]? = some (.cells #[.pointer (some ⟨R, 0, none⟩)] 103 (0, 0))
  bT : A.heap[N + 3]? = some (.cells #[.pointer (some ⟨N + 2, 0, none⟩)] 106 (0, 0))
  bF : A.heap[N + 4]? = some (.cells #[.slice (some ⟨g, o + 1, none⟩) l.length (cap - 1)] 40 (0, 0))
  b2 : A.heap[N + 5]? = some (.cells #[.int .i64 2] 3 (0, 0))
  sz : N + 8 ≤ A.heap.size
  pl : keyset A (N + 1) k (((pairsOf l).take k).map (·.1))
  pv : valset A (N + 1) k (placesOf (((pairsOf l).take k).map (·.1)))
  tb : ∃ cv, A.heap[N + 2]? = some (.cells #[cv, .map (some (N + 1)), .slice none 0 0] 189 (0, 0)) ∧ A.ownsRow (N + 8) 195 2 cv k (colCells (colsOf ((pairsOf l).take k)))
  ok : ((pairsOf l).take k).all (pairOk kws) = true
section
variable {N R g o cap : Nat} {kws : List Bg.Str} {l : List Bg.Str} {k : Nat} {W A A' : World}
theorem TLoop.same (h : TLoop N R g o cap kws l k W A) (hs : A.heap.size ≤ A'.heap.size) (h1 : A'.os = A.os) (h2 : A'.tape = A.tape) (h3 : A'.output = A.output) (hb : ∀ b, b < A.heap.size → b ≠ N + 7 → A'.heap[b]? = A.heap[b]?) : TLoop N R g o cap kws l k W A' := by
  obtain ⟨cv, t1, t2⟩ := h.tb
  have hsz := h.sz
  have lo : ∀ b, b < N + 7 → A'.heap[b]? = A.heap[b]? := fun b hb' => hb b (by omega) (by omega)
  refine ⟨⟨h1.trans h.low.os, h2.trans h.low.tape, h3.trans h.low.output, Nat.le_trans h.low.size hs, fun b hb' => (lo b (by omega)).trans (h.low.block b hb')⟩,
    (lo _ (by omega)).trans h.bR, (lo _ (by omega)).trans h.bT, (lo _ (by omega)).trans h.bF, (lo _ (by omega)).trans h.b2, Nat.le_trans hsz hs, keyset_block h.pl (lo _ (by omega)), valset_block h.pv (lo _ (by omega)), ⟨cv, (lo _ (by omega)).trans t1, ?_⟩, h.ok⟩
  refine ⟨t2.1, ?_⟩
  rcases t2.2 with h0 | ⟨g, cap, cu, rfl, hg, hh, r⟩
  · exact .inl h0
  · exact .inr ⟨g, cap, cu, rfl, hg, (hb g (Array.getElem?_eq_some_iff.1 hh).1 (by omega)).trans hh, r⟩
theorem TLoop.put (h : TLoop N R g o cap kws l k W A) (ob : Obj) : TLoop N R g o cap kws l k W (A.putObj (N + 7) ob) :=
  h.same (by rw [size_putObj]; exact Nat.le_refl _) rfl rfl rfl (fun b _ hb => World.putObj_heap_other hb)
theorem TLoop.grow (h : TLoop N R g o cap kws l k W A) (hB : Below A.heap.size A A') : TLoop N R g o cap kws l k W A' :=
  h.same hB.size hB.os hB.tape hB.output (fun b hb _ => hB.block b hb)
theorem TLoop.drewN (h : TLoop N R g o cap kws l k W A) (n : Nat) : TLoop N R g o cap kws l k W (A.drewN n) :=
  h.grow (below_dr (Below.refl _ _) n)
end
theorem pairs_get : ∀ (l : List Bg.Str) (k : Nat) (h : 2 * k + 1 < l.length), (pairsOf l)[k]? = some (l[2 * k]'(by omega), l[2 * k + 1]'h)
  | [], k, h => by simp at h
  | [_], k, h => by simp at h
  | n :: t :: r, 0, h => rfl
  | n :: t :: r, k + 1, h => by
    have ih := pairs_get r k (by simp at h; omega)
    rw [pairsOf, List.getElem?_cons_succ, ih]
    congr 1
theorem pairs_len : ∀ (l : List Bg.Str), (pairsOf l).length = l.length / 2
  | [] => rfl
  | [_] => by simp [pairsOf]
  | n :: t :: r => by rw [pairsOf, List.length_cons, pairs_len r]; simp; omega
theorem take_get {α : Type} : ∀ (l : List α) (k : Nat) (x : α), l[k]? = some x → l.take (k + 1) = l.take k ++ [x]
  | [], k, x, h => by simp at h
  | a :: l, 0, x, h => by simp at h; subst h; rfl
  | a :: l, k + 1, x, h => by
    rw [List.getElem?_cons_succ] at h
    rw [List.take_succ_cons, take_get l k x h]; rfl
end Go.Proofs.YtfkdfplnhlnnoaaGreatDoor
