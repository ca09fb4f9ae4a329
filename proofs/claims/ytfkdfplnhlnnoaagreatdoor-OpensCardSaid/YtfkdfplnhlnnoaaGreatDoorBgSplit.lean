/- strings.SplitSeq at one byte: its iterator, for every loop body that goes on or panics. -/
import Derived.Test.YtfkdfplnhlnnoaaGreatDoorBgRange
import Derived.Test.YtfkdfplnhlnnoaaGreatDoorBgReadD
namespace Go.Proofs.YtfkdfplnhlnnoaaGreatDoor
open Go.RowKit Go.Shelf
set_option linter.unusedSimpArgs false
set_option linter.unusedVariables false
attribute [local go_sem] Oper.semAt_some

namespace Bg
theorem linesFrom_app (x : Str) : ∀ cur, linesFrom cur x = match linesFrom [] x with | [] => [] | y :: r => (cur ++ y) :: r := by
  induction x with
  | nil => intro cur; simp [linesFrom]
  | cons c r ih =>
    intro cur
    by_cases h : c = 10
    · subst h; rw [linesFrom_nl, linesFrom_nl]; simp
    · rw [linesFrom_other _ _ _ h, linesFrom_other _ _ _ h, ih (cur ++ [c]), ih ([] ++ [c])]
      cases linesFrom [] r <;> simp
theorem lines_last (x : Str) (h : Lib.indexByte x 10 = -1) : lines x = [x] := by
  unfold lines
  have key : ∀ (x cur : Str), Lib.indexByte x 10 = -1 → linesFrom cur x = [cur ++ x] := by
    intro x
    induction x with
    | nil => intro cur _; simp [linesFrom]
    | cons c r ih =>
      intro cur h
      unfold Lib.indexByte at h
      by_cases hc : c = 10
      · subst hc; simp at h
      · rw [if_neg (by simpa using hc)] at h
        rw [linesFrom_other _ _ _ hc, ih (cur ++ [c]) (by
          by_cases h2 : Lib.indexByte r 10 = -1
          · exact h2
          · rw [if_neg (by simpa using h2)] at h
            rcases Bg.idx_cases 10 r with ⟨h3, _⟩ | ⟨k, _, h3, _⟩
            · exact h3
            · rw [h3] at h; omega)]
        simp
  simpa using key x [] h
theorem lines_more (x : Str) (k : Nat) (h : Lib.indexByte x 10 = k) : lines x = x.take k :: lines (x.drop (k + 1)) := by
  unfold lines
  have key : ∀ (x cur : Str) (k : Nat), Lib.indexByte x 10 = k → linesFrom cur x = (cur ++ x.take k) :: linesFrom [] (x.drop (k + 1)) := by
    intro x
    induction x with
    | nil => intro cur k h; simp [Lib.indexByte] at h <;> omega
    | cons c r ih =>
      intro cur k h
      unfold Lib.indexByte at h
      by_cases hc : c = 10
      · subst hc
        rw [if_pos (by rfl)] at h
        obtain rfl : k = 0 := by omega
        rw [linesFrom_nl]; simp
      · rw [if_neg (by simpa using hc)] at h
        by_cases h2 : Lib.indexByte r 10 = -1
        · rw [if_pos (by simpa using h2)] at h; omega
        · rw [if_neg (by simpa using h2)] at h
          obtain ⟨k, rfl⟩ : ∃ k', k = k' + 1 := ⟨k - 1, by
            rcases Bg.idx_cases 10 r with ⟨h3, _⟩ | ⟨j, _, h3, _⟩
            · exact absurd h3 h2
            · rw [h3] at h; omega⟩
          rw [linesFrom_other _ _ _ hc, ih (cur ++ [c]) k (by omega)]
          simp
  simpa using key x [] k h
end Bg

set_option maxRecDepth 100000 in
set_option maxHeartbeats 1000000 in
theorem split_iter (l Bs Bp Bv : Nat) (s : Bg.Str) (W : World) (hs : s.length ≤ 90000) (hsp : Bs ≠ Bp) (hsv : Bs ≠ Bv)
    (h0 : W.cell? ⟨Bs, 0, none⟩ = some (.string ⟨s.toArray⟩)) (hf0 : W.frozen? ⟨Bs, 0, none⟩ = false) (h1 : W.cell? ⟨Bp, 0, none⟩ = some (.string ⟨#[10]⟩)) (h2 : W.cell? ⟨Bv, 0, none⟩ = some (.int .i64 0))
    (J : List Bg.Str → World → Prop) (Jp : List PanicEntry → World → Prop)
    (hJ : ∀ pre A v, J pre A → J pre (A.setCell ⟨Bs, 0, none⟩ v)) (hJd : ∀ pre A n, J pre A → J pre (A.drewN n))
    (hY : ∀ pre x post W1, J pre W1 → pre ++ x :: post = Bg.lines s → YieldAt Fence.wide 2 Tryz.prog l #[strV x] W1 fun e W' =>
      (e = .returned (.bool true) ∧ J (pre ++ [x]) W' ∧ W'.heap[Bs]? = W1.heap[Bs]? ∧ W'.heap[Bp]? = W1.heap[Bp]? ∧ W'.heap[Bv]? = W1.heap[Bv]?) ∨ (∃ ch, e = .panicked ch ∧ Jp ch W'))
    (hstart : J [] W) :
    CallsIn Fence.wide 3 Tryz.prog 94 #[.func (.yield l) #[] #[], .pointer (some ⟨Bp, 0, none⟩), .pointer (some ⟨Bs, 0, none⟩), .pointer (some ⟨Bv, 0, none⟩)] W fun e W' =>
      (∃ v, e = .returned v ∧ J (Bg.lines s) W') ∨ (∃ ch, e = .panicked ch ∧ Jp ch W') := by
  have hex := Bg.ext_mk
  refine callsIn_of_wp Tryz.func94 rfl trivial ?_ rfl
  simp only [Tryz.ntmps94, List.size_toArray, List.length_cons, List.length_nil, Nat.reduceAdd, Nat.reduceSub, Array.replicate_succ, Array.replicate_zero, List.push_toArray, List.append_toArray, List.nil_append, List.cons_append]
  have HY := hY
  have HYH : Hid (∀ pre x post W1, J pre W1 → pre ++ x :: post = Bg.lines s → YieldAt Fence.wide 2 Tryz.prog l #[strV x] W1 fun e W' =>
      (e = .returned (.bool true) ∧ J (pre ++ [x]) W' ∧ W'.heap[Bs]? = W1.heap[Bs]? ∧ W'.heap[Bp]? = W1.heap[Bp]? ∧ W'.heap[Bv]? = W1.heap[Bv]?) ∨ (∃ ch, e = .panicked ch ∧ Jp ch W')) := HY
  have HJ : Hid (∀ pre A v, J pre A → J pre (A.setCell ⟨Bs, 0, none⟩ v)) := hJ
  have HJd : Hid (∀ pre A n, J pre A → J pre (A.drewN n)) := hJd
  clear hY HY hJ hJd
  gi_wp2
  gi_loopw [7, 8] (fun _ _ wr => ∃ (x : Bg.Str) (pre : List Bg.Str), x.length ≤ s.length ∧ wr.cell? ⟨Bs, 0, none⟩ = some (.string ⟨x.toArray⟩) ∧ wr.frozen? ⟨Bs, 0, none⟩ = false ∧ wr.cell? ⟨Bp, 0, none⟩ = some (.string ⟨#[10]⟩) ∧ wr.cell? ⟨Bv, 0, none⟩ = some (.int .i64 0) ∧ J pre wr ∧ Hid (pre ++ Bg.lines x = Bg.lines s))
    (fun _ _ wr => match wr.cell? ⟨Bs, 0, none⟩ with | some v => strLen v | none => 0)
  case atStart => exact ⟨s, [], Nat.le_refl _, h0, hf0, h1, h2, hstart, rfl⟩
  case round =>
    clear h0 hf0 h1 h2 hstart
    obtain ⟨x, pre, hx, h0, hf0, h1, h2, hj, hl⟩ := hrel
    rcases Bg.idx_cases 10 x with ⟨hi, _⟩ | ⟨k, hk, hi, _, _⟩
    · have HL : Hid (pre ++ [x] = Bg.lines s) := by show _ = _; rw [← hl.out, Bg.lines_last x hi]
      obtain ⟨fn, tmps, assign, body, hy0, hR⟩ := HYH.out pre x [] wr hj HL.out
      have hy : (Instr.yield l #[.string ⟨x.toArray⟩]).run Tryz.prog wr = .ok (.round l fn tmps assign body) wr := hy0
      have HR : Hid _ := hR
      clear hy0 hR
      gi_wp2_with (refine ⟨trivial, ?_⟩; gi_at_call 95; refine ((callsIn_wide (n := 2)).2 (Tryz.strings_Index_one ⟨x.toArray⟩ 10 _)).mono ?_; rintro e w' ⟨rfl, hw⟩; obtain rfl := hw.symm)
      refine RoundIn.mono HR.out ?_
      rintro e W3 (⟨rfl, hJ3, _⟩ | ⟨ch, rfl, hp⟩)
      · gi_wp2
        go_end0
        rw [HL.out] at hJ3
        exact .inl ⟨_, rfl, hJ3⟩
      · gi_wp2
        exact ⟨rfl, .inr ⟨ch, rfl, hp⟩⟩
    · have HL : Hid (pre ++ x.take k :: Bg.lines (x.drop (k + 1)) = Bg.lines s) := by show _ = _; rw [← hl.out, Bg.lines_more x k hi]
      obtain ⟨fn, tmps, assign, body, hy0, hR⟩ := HYH.out pre (x.take k) _ wr hj HL.out
      have hy : (Instr.yield l #[.string ⟨(x.take k).toArray⟩]).run Tryz.prog wr = .ok (.round l fn tmps assign body) wr := hy0
      have HR : Hid _ := hR
      clear hy0 hR
      gi_wp2_with (refine ⟨trivial, ?_⟩; gi_at_call 95; refine ((callsIn_wide (n := 2)).2 (Tryz.strings_Index_one ⟨x.toArray⟩ 10 _)).mono ?_; rintro e w' ⟨rfl, hw⟩; obtain rfl := hw.symm)
      refine RoundIn.mono HR.out ?_
      rintro e W3 (⟨rfl, hJ3, hb0, hb1, hb2⟩ | ⟨ch, rfl, hp⟩)
      · have c0 : W3.cell? ⟨Bs, 0, none⟩ = some (.string ⟨x.toArray⟩) := (World.cell?_of_block (a := ⟨Bs, 0, none⟩) hb0).trans h0
        have f0 : W3.frozen? ⟨Bs, 0, none⟩ = false := (World.frozen?_of_block (a := ⟨Bs, 0, none⟩) hb0).trans hf0
        have c1 : W3.cell? ⟨Bp, 0, none⟩ = some (.string ⟨#[10]⟩) := (World.cell?_of_block (a := ⟨Bp, 0, none⟩) hb1).trans h1
        have c2 : W3.cell? ⟨Bv, 0, none⟩ = some (.int .i64 0) := (World.cell?_of_block (a := ⟨Bv, 0, none⟩) hb2).trans h2
        clear hb0 hb1 hb2 hy
        gi_wp2
        have et : List.take (List.length x - (k + 1)) (List.drop (k + 1) x) = x.drop (k + 1) := List.take_of_length_le (by rw [List.length_drop]; exact Nat.le_refl _)
        rw [et]
        have cn : (W3.setCell ⟨Bs, 0, none⟩ (.string ⟨(x.drop (k + 1)).toArray⟩)).cell? ⟨Bs, 0, none⟩ = some (.string ⟨(x.drop (k + 1)).toArray⟩) := World.cell?_setCell_same' _ _ _ (by rw [c0]; rfl)
        have q1 : (W3.setCell ⟨Bs, 0, none⟩ (.string ⟨(x.drop (k + 1)).toArray⟩)).cell? ⟨Bp, 0, none⟩ = some (.string ⟨#[10]⟩) :=
          (World.cell?_of_block (w := W3) (a := ⟨Bp, 0, none⟩) (Below.heap_setCell W3 ⟨Bs, 0, none⟩ _ Bp (fun e => hsp e.symm))).trans c1
        have q2 : (W3.setCell ⟨Bs, 0, none⟩ (.string ⟨(x.drop (k + 1)).toArray⟩)).cell? ⟨Bv, 0, none⟩ = some (.int .i64 0) :=
          (World.cell?_of_block (w := W3) (a := ⟨Bv, 0, none⟩) (Below.heap_setCell W3 ⟨Bs, 0, none⟩ _ Bv (fun e => hsv e.symm))).trans c2
        refine ⟨⟨x.drop (k + 1), pre ++ [x.take k], by rw [List.length_drop]; omega, cn, by rw [World.frozen?_setCell]; exact f0, q1, q2, HJ.out _ _ _ hJ3, ?_⟩, ?_⟩
        · show (pre ++ [x.take k]) ++ Bg.lines (x.drop (k + 1)) = Bg.lines s
          rw [← HL.out]; simp
        · rw [cn, h0]
          simp only [strLen, Bg.size_mk, List.length_drop]
          omega
      · gi_wp2
        exact ⟨rfl, .inr ⟨ch, rfl, hp⟩⟩
end Go.Proofs.YtfkdfplnhlnnoaaGreatDoor
