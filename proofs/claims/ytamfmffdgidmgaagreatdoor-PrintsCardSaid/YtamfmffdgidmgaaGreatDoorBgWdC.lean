import Derived.Test.YtamfmffdgidmgaaGreatDoorBgJa06
namespace Go.Proofs.YtamfmffdgidmgaaGreatDoor
open Go.RowKit
namespace Gr
set_option linter.unusedSimpArgs false
set_option linter.unusedVariables false
theorem keyset1.lt {w : World} {b n : Nat} {ks : List Bg.Str} (h : keyset1 w b n ks) : b < w.heap.size := by
  obtain ⟨es, clock, hb, _⟩ := h
  exact (Array.getElem?_eq_some_iff.1 hb).1
theorem keyset1.below {w w' : World} {b n : Nat} {ks : List Bg.Str} (h : keyset1 w b n ks) (hB : Below w.heap.size w w') : keyset1 w' b n ks := keyset1_block h (hB.block _ h.lt)
set_option maxRecDepth 10000 in
set_option maxHeartbeats 1000000 in
theorem w_name (s : Bg.Str) (Kb nk : Nat) (w : World) (hs : s.length ≤ 400) (hd : ¬ 0 < Bg.runs Bg.digits s) (hn : 0 < Bg.runs (Bg.letters ++ Bg.digits) s) (hK : keyset1 w Kb nk kwsAll) :
    Calls Tryz.prog 161 #[.string ⟨s.toArray⟩, .map (some Kb)] w fun e w' => Below w.heap.size w w' ∧ ∃ v n, e = .returned (.tuple #[v, .int .i64 n]) ∧ FirstOk s v n := by
  have hex := Bg.ext_mk
  have hnle : Bg.runs (Bg.letters ++ Bg.digits) s ≤ s.length := Bg.runs_le _ _
  have HR := (show Hid _ from rWord_nam hd hn)
  have hnb := fun w => w_NameBytes s w (by omega)
  rw [if_neg hd] at hnb
  have hk32 : (32 : UInt8) ∉ s.take (Bg.runs (Bg.letters ++ Bg.digits) s) := fun hx => absurd (runs_take _ s _ hx) (by decide)
  have HKW : Hid (kwsAll.contains (s.take (Bg.runs (Bg.letters ++ Bg.digits) s)) = Bg.isKey (s.take (Bg.runs (Bg.letters ++ Bg.digits) s))) := key_kws _ hk32
  clear hk32
  generalize Bg.runs (Bg.letters ++ Bg.digits) s = n at *
  obtain ⟨v, hl, hv1⟩ := look_kind1 (keyset1.below hK (wsum (.cells #[.int .i64 0, .string ⟨#[]⟩, .nilIface] 162))) (s.take n) (by rw [List.length_take]; omega)
  rw [HKW.out] at hl hv1
  obtain ⟨r0, r1, r2, rf⟩ := cells3 (heap_alloc_new w (.cells #[.int .i64 0, .string ⟨#[]⟩, .nilIface] 162))
  cases hk : Bg.isKey (s.take n) with
  | true =>
    rw [hk] at hl
    have hv2 := hv1 hk
    subst hv2
    have HX : Hid (rWord s = (⟨kKey, s.take n, 0⟩, n)) := by show _ = _; rw [HR.out, hk]; rfl
    clear hv1 HR HKW hk
    go_enter Tryz.func161, Tryz.ntmps161
    go_wp2_with fail
    refine (hnb _).mono ?_
    rintro e w' ⟨rfl, rfl⟩
    go_wp2_with fail
    refine bodyPost_ret (v := .tuple #[.agg #[.int .i64 1, .string ⟨(s.take n).toArray⟩, .nilIface], .int .i64 n]) (by simp [results, Tryz.results161, go_sem, r0, r1, r2]) rfl ⟨?_, _, _, rfl, ?_⟩
    · exact wsum _
    · exact ⟨by rw [HX.out], ⟨1, _, _, rfl, .inl rfl⟩, fun _ => by rw [HX.out]; rfl⟩
  | false =>
    rw [hk] at hl
    have HX : Hid (rWord s = (⟨kName, s.take n, 0⟩, n)) := by show _ = _; rw [HR.out, hk]; rfl
    clear hv1 HR HKW hk
    go_enter Tryz.func161, Tryz.ntmps161
    go_wp2_with fail
    refine (hnb _).mono ?_
    rintro e w' ⟨rfl, rfl⟩
    go_wp2_with fail
    refine bodyPost_ret (v := .tuple #[.agg #[.int .i64 2, .string ⟨(s.take n).toArray⟩, .nilIface], .int .i64 n]) (by simp [results, Tryz.results161, go_sem, r0, r1, r2]) rfl ⟨?_, _, _, rfl, ?_⟩
    · exact wsum _
    · exact ⟨by rw [HX.out], ⟨2, _, _, rfl, .inl rfl⟩, fun _ => by rw [HX.out]; rfl⟩
/-- the signs, as the program's variable holds them -/
def sgW : List Bg.Str := [[60, 62], [60, 61], [62, 61], [40], [41], [44], [46], [42], [43], [45], [47], [37], [61], [60], [62]]
def Signs (w : World) : Prop := ∀ k (h : k < sgW.length), w.cell? ⟨3, k, none⟩ = some (.string ⟨sgW[k].toArray⟩)
/-- what begins with no digit, no letter, no quote -/
structure Odd (c : UInt8) (r : Bg.Str) : Prop where
  d : ¬ 0 < Bg.runs Bg.digits (c :: r)
  n : ¬ 0 < Bg.runs (Bg.letters ++ Bg.digits) (c :: r)
  q : c ≠ 39
theorem Odd.word {c : UInt8} {r : Bg.Str} (h : Odd c r) : rWord (c :: r) = if two (c :: r) then (⟨kSign, (c :: r).take 2, 0⟩, 2) else if signSet.contains c then (⟨kSign, [c], 0⟩, 1) else rNone := by
  unfold rWord dLen nLen; rw [if_neg h.d, if_neg h.n, if_neg (by simpa using h.q)]
  simp only [List.take_succ_cons, List.take_zero, Bg.occ_one]
theorem pre1 (c : UInt8) (r : Bg.Str) (a : UInt8) : Lib.hasPrefix (c :: r) [a] = (c == a) := by
  simp [Lib.hasPrefix, List.isPrefixOf, Bool.beq_comm (a := c)]
theorem sign_two {c : UInt8} {r : Bg.Str} (h : Odd c r) {x y : UInt8} (hxy : [x, y] ∈ [[60, 62], [60, 61], [62, 61]]) (hp : Lib.hasPrefix (c :: r) [x, y] = true) : rWord (c :: r) = (⟨kSign, [x, y], 0⟩, 2) := by
  rw [pre2] at hp
  have e : (c :: r).take 2 = [x, y] := by simpa using hp
  have ht : two (c :: r) = true := by
    unfold two; rw [e]
    simp only [List.mem_cons, List.not_mem_nil, or_false] at hxy
    rcases hxy with h | h | h <;> rw [h] <;> rfl
  rw [h.word, if_pos ht, e]
theorem two_no {c : UInt8} {r : Bg.Str} (h2 : ∀ k (hk : k < sgW.length), k < 3 → Lib.hasPrefix (c :: r) sgW[k] = false) : ¬ two (c :: r) = true := by
  have a0 := h2 0 (by decide) (by decide)
  have a1 := h2 1 (by decide) (by decide)
  have a2 := h2 2 (by decide) (by decide)
  simp only [sgW, List.getElem_cons_zero, List.getElem_cons_succ, pre2] at a0 a1 a2
  unfold two
  rw [a0, a1, a2]; decide
theorem sign_one {c : UInt8} {r : Bg.Str} (h : Odd c r) (h2 : ∀ k (hk : k < sgW.length), k < 3 → Lib.hasPrefix (c :: r) sgW[k] = false) {x : UInt8} (hx : signSet.contains x = true) (hp : Lib.hasPrefix (c :: r) [x] = true) : rWord (c :: r) = (⟨kSign, [x], 0⟩, 1) := by
  rw [pre1] at hp
  obtain rfl : c = x := by simpa using hp
  rw [h.word, if_neg (two_no h2), if_pos hx]
theorem sign_none {c : UInt8} {r : Bg.Str} (h : Odd c r) (hall : ∀ k (hk : k < sgW.length), Lib.hasPrefix (c :: r) sgW[k] = false) : rWord (c :: r) = rNone := by
  rw [h.word, if_neg (two_no (fun k hk _ => hall k hk)), if_neg]
  intro hc
  have hm : c ∈ signSet := by simpa using hc
  have : ∀ x ∈ signSet, ∃ k, ∃ hk : k < sgW.length, sgW[k] = [x] := by decide
  obtain ⟨k, hk, e⟩ := this c hm
  have := hall k hk
  rw [e, pre1] at this
  simp at this
theorem idx0 (w : World) : (Instr.index 300 (.agg #[.string ⟨#[60, 62]⟩, .string ⟨#[60, 61]⟩, .string ⟨#[62, 61]⟩, .string ⟨#[40]⟩, .string ⟨#[41]⟩, .string ⟨#[44]⟩, .string ⟨#[46]⟩, .string ⟨#[42]⟩, .string ⟨#[43]⟩, .string ⟨#[45]⟩, .string ⟨#[47]⟩, .string ⟨#[37]⟩, .string ⟨#[61]⟩, .string ⟨#[60]⟩, .string ⟨#[62]⟩]) (.int .i64 0)).run Tryz.prog w = .ok (.string ⟨#[60, 62]⟩) w := by kernel_rfl
theorem idx1 (w : World) : (Instr.index 300 (.agg #[.string ⟨#[60, 62]⟩, .string ⟨#[60, 61]⟩, .string ⟨#[62, 61]⟩, .string ⟨#[40]⟩, .string ⟨#[41]⟩, .string ⟨#[44]⟩, .string ⟨#[46]⟩, .string ⟨#[42]⟩, .string ⟨#[43]⟩, .string ⟨#[45]⟩, .string ⟨#[47]⟩, .string ⟨#[37]⟩, .string ⟨#[61]⟩, .string ⟨#[60]⟩, .string ⟨#[62]⟩]) (.int .i64 1)).run Tryz.prog w = .ok (.string ⟨#[60, 61]⟩) w := by kernel_rfl
theorem idx2 (w : World) : (Instr.index 300 (.agg #[.string ⟨#[60, 62]⟩, .string ⟨#[60, 61]⟩, .string ⟨#[62, 61]⟩, .string ⟨#[40]⟩, .string ⟨#[41]⟩, .string ⟨#[44]⟩, .string ⟨#[46]⟩, .string ⟨#[42]⟩, .string ⟨#[43]⟩, .string ⟨#[45]⟩, .string ⟨#[47]⟩, .string ⟨#[37]⟩, .string ⟨#[61]⟩, .string ⟨#[60]⟩, .string ⟨#[62]⟩]) (.int .i64 2)).run Tryz.prog w = .ok (.string ⟨#[62, 61]⟩) w := by kernel_rfl
theorem idx3 (w : World) : (Instr.index 300 (.agg #[.string ⟨#[60, 62]⟩, .string ⟨#[60, 61]⟩, .string ⟨#[62, 61]⟩, .string ⟨#[40]⟩, .string ⟨#[41]⟩, .string ⟨#[44]⟩, .string ⟨#[46]⟩, .string ⟨#[42]⟩, .string ⟨#[43]⟩, .string ⟨#[45]⟩, .string ⟨#[47]⟩, .string ⟨#[37]⟩, .string ⟨#[61]⟩, .string ⟨#[60]⟩, .string ⟨#[62]⟩]) (.int .i64 3)).run Tryz.prog w = .ok (.string ⟨#[40]⟩) w := by kernel_rfl
theorem idx4 (w : World) : (Instr.index 300 (.agg #[.string ⟨#[60, 62]⟩, .string ⟨#[60, 61]⟩, .string ⟨#[62, 61]⟩, .string ⟨#[40]⟩, .string ⟨#[41]⟩, .string ⟨#[44]⟩, .string ⟨#[46]⟩, .string ⟨#[42]⟩, .string ⟨#[43]⟩, .string ⟨#[45]⟩, .string ⟨#[47]⟩, .string ⟨#[37]⟩, .string ⟨#[61]⟩, .string ⟨#[60]⟩, .string ⟨#[62]⟩]) (.int .i64 4)).run Tryz.prog w = .ok (.string ⟨#[41]⟩) w := by kernel_rfl
theorem idx5 (w : World) : (Instr.index 300 (.agg #[.string ⟨#[60, 62]⟩, .string ⟨#[60, 61]⟩, .string ⟨#[62, 61]⟩, .string ⟨#[40]⟩, .string ⟨#[41]⟩, .string ⟨#[44]⟩, .string ⟨#[46]⟩, .string ⟨#[42]⟩, .string ⟨#[43]⟩, .string ⟨#[45]⟩, .string ⟨#[47]⟩, .string ⟨#[37]⟩, .string ⟨#[61]⟩, .string ⟨#[60]⟩, .string ⟨#[62]⟩]) (.int .i64 5)).run Tryz.prog w = .ok (.string ⟨#[44]⟩) w := by kernel_rfl
theorem idx6 (w : World) : (Instr.index 300 (.agg #[.string ⟨#[60, 62]⟩, .string ⟨#[60, 61]⟩, .string ⟨#[62, 61]⟩, .string ⟨#[40]⟩, .string ⟨#[41]⟩, .string ⟨#[44]⟩, .string ⟨#[46]⟩, .string ⟨#[42]⟩, .string ⟨#[43]⟩, .string ⟨#[45]⟩, .string ⟨#[47]⟩, .string ⟨#[37]⟩, .string ⟨#[61]⟩, .string ⟨#[60]⟩, .string ⟨#[62]⟩]) (.int .i64 6)).run Tryz.prog w = .ok (.string ⟨#[46]⟩) w := by kernel_rfl
theorem idx7 (w : World) : (Instr.index 300 (.agg #[.string ⟨#[60, 62]⟩, .string ⟨#[60, 61]⟩, .string ⟨#[62, 61]⟩, .string ⟨#[40]⟩, .string ⟨#[41]⟩, .string ⟨#[44]⟩, .string ⟨#[46]⟩, .string ⟨#[42]⟩, .string ⟨#[43]⟩, .string ⟨#[45]⟩, .string ⟨#[47]⟩, .string ⟨#[37]⟩, .string ⟨#[61]⟩, .string ⟨#[60]⟩, .string ⟨#[62]⟩]) (.int .i64 7)).run Tryz.prog w = .ok (.string ⟨#[42]⟩) w := by kernel_rfl
theorem idx8 (w : World) : (Instr.index 300 (.agg #[.string ⟨#[60, 62]⟩, .string ⟨#[60, 61]⟩, .string ⟨#[62, 61]⟩, .string ⟨#[40]⟩, .string ⟨#[41]⟩, .string ⟨#[44]⟩, .string ⟨#[46]⟩, .string ⟨#[42]⟩, .string ⟨#[43]⟩, .string ⟨#[45]⟩, .string ⟨#[47]⟩, .string ⟨#[37]⟩, .string ⟨#[61]⟩, .string ⟨#[60]⟩, .string ⟨#[62]⟩]) (.int .i64 8)).run Tryz.prog w = .ok (.string ⟨#[43]⟩) w := by kernel_rfl
theorem idx9 (w : World) : (Instr.index 300 (.agg #[.string ⟨#[60, 62]⟩, .string ⟨#[60, 61]⟩, .string ⟨#[62, 61]⟩, .string ⟨#[40]⟩, .string ⟨#[41]⟩, .string ⟨#[44]⟩, .string ⟨#[46]⟩, .string ⟨#[42]⟩, .string ⟨#[43]⟩, .string ⟨#[45]⟩, .string ⟨#[47]⟩, .string ⟨#[37]⟩, .string ⟨#[61]⟩, .string ⟨#[60]⟩, .string ⟨#[62]⟩]) (.int .i64 9)).run Tryz.prog w = .ok (.string ⟨#[45]⟩) w := by kernel_rfl
theorem idx10 (w : World) : (Instr.index 300 (.agg #[.string ⟨#[60, 62]⟩, .string ⟨#[60, 61]⟩, .string ⟨#[62, 61]⟩, .string ⟨#[40]⟩, .string ⟨#[41]⟩, .string ⟨#[44]⟩, .string ⟨#[46]⟩, .string ⟨#[42]⟩, .string ⟨#[43]⟩, .string ⟨#[45]⟩, .string ⟨#[47]⟩, .string ⟨#[37]⟩, .string ⟨#[61]⟩, .string ⟨#[60]⟩, .string ⟨#[62]⟩]) (.int .i64 10)).run Tryz.prog w = .ok (.string ⟨#[47]⟩) w := by kernel_rfl
theorem idx11 (w : World) : (Instr.index 300 (.agg #[.string ⟨#[60, 62]⟩, .string ⟨#[60, 61]⟩, .string ⟨#[62, 61]⟩, .string ⟨#[40]⟩, .string ⟨#[41]⟩, .string ⟨#[44]⟩, .string ⟨#[46]⟩, .string ⟨#[42]⟩, .string ⟨#[43]⟩, .string ⟨#[45]⟩, .string ⟨#[47]⟩, .string ⟨#[37]⟩, .string ⟨#[61]⟩, .string ⟨#[60]⟩, .string ⟨#[62]⟩]) (.int .i64 11)).run Tryz.prog w = .ok (.string ⟨#[37]⟩) w := by kernel_rfl
theorem idx12 (w : World) : (Instr.index 300 (.agg #[.string ⟨#[60, 62]⟩, .string ⟨#[60, 61]⟩, .string ⟨#[62, 61]⟩, .string ⟨#[40]⟩, .string ⟨#[41]⟩, .string ⟨#[44]⟩, .string ⟨#[46]⟩, .string ⟨#[42]⟩, .string ⟨#[43]⟩, .string ⟨#[45]⟩, .string ⟨#[47]⟩, .string ⟨#[37]⟩, .string ⟨#[61]⟩, .string ⟨#[60]⟩, .string ⟨#[62]⟩]) (.int .i64 12)).run Tryz.prog w = .ok (.string ⟨#[61]⟩) w := by kernel_rfl
theorem idx13 (w : World) : (Instr.index 300 (.agg #[.string ⟨#[60, 62]⟩, .string ⟨#[60, 61]⟩, .string ⟨#[62, 61]⟩, .string ⟨#[40]⟩, .string ⟨#[41]⟩, .string ⟨#[44]⟩, .string ⟨#[46]⟩, .string ⟨#[42]⟩, .string ⟨#[43]⟩, .string ⟨#[45]⟩, .string ⟨#[47]⟩, .string ⟨#[37]⟩, .string ⟨#[61]⟩, .string ⟨#[60]⟩, .string ⟨#[62]⟩]) (.int .i64 13)).run Tryz.prog w = .ok (.string ⟨#[60]⟩) w := by kernel_rfl
theorem idx14 (w : World) : (Instr.index 300 (.agg #[.string ⟨#[60, 62]⟩, .string ⟨#[60, 61]⟩, .string ⟨#[62, 61]⟩, .string ⟨#[40]⟩, .string ⟨#[41]⟩, .string ⟨#[44]⟩, .string ⟨#[46]⟩, .string ⟨#[42]⟩, .string ⟨#[43]⟩, .string ⟨#[45]⟩, .string ⟨#[47]⟩, .string ⟨#[37]⟩, .string ⟨#[61]⟩, .string ⟨#[60]⟩, .string ⟨#[62]⟩]) (.int .i64 14)).run Tryz.prog w = .ok (.string ⟨#[62]⟩) w := by kernel_rfl
set_option maxRecDepth 10000 in
set_option maxHeartbeats 4000000 in
theorem w_sign (c : UInt8) (r : Bg.Str) (w : World) (hs : (c :: r).length ≤ 400) (hO : Odd c r) (hS : Signs w) :
    Calls Tryz.prog 163 #[.string ⟨(c :: r).toArray⟩] w fun e w' => Below w.heap.size w w' ∧ ∃ v n, e = .returned (.tuple #[v, .int .i64 n]) ∧ FirstOk (c :: r) v n := by
  have hex := Bg.ext_mk
  have c0 := hS 0 (by decide)
  have c1 := hS 1 (by decide)
  have c2 := hS 2 (by decide)
  have c3 := hS 3 (by decide)
  have c4 := hS 4 (by decide)
  have c5 := hS 5 (by decide)
  have c6 := hS 6 (by decide)
  have c7 := hS 7 (by decide)
  have c8 := hS 8 (by decide)
  have c9 := hS 9 (by decide)
  have c10 := hS 10 (by decide)
  have c11 := hS 11 (by decide)
  have c12 := hS 12 (by decide)
  have c13 := hS 13 (by decide)
  have c14 := hS 14 (by decide)
  have hlt : 3 < w.heap.size := World.block_lt_of_cell? _ _ c0
  simp only [sgW, List.getElem_cons_zero, List.getElem_cons_succ] at c0 c1 c2 c3 c4 c5 c6 c7 c8 c9 c10 c11 c12 c13 c14
  obtain ⟨r0, r1, r2, rf⟩ := cells3 (heap_alloc_new w (.cells #[.int .i64 0, .string ⟨#[]⟩, .nilIface] 162))
  go_enter Tryz.func163, Tryz.ntmps163
  go_wp2_with fail
  clear c0 c1 c2 c3 c4 c5 c6 c7 c8 c9 c10 c11 c12 c13 c14
  have hB : Below w.heap.size w (w.alloc (.cells #[.int .i64 0, .string ⟨#[]⟩, .nilIface] 162)) := wsum _
  have rf0 := rf 0
  have rf1 := rf 1
  have rf2 := rf 2
  clear rf
  generalize w.alloc (.cells #[.int .i64 0, .string ⟨#[]⟩, .nilIface] 162) = w0 at hB r0 r1 r2 rf0 rf1 rf2 ⊢
  go_loopg [7] (15 + 1) (fun gk iv wr => ∃ k : Nat, k ≤ 15 ∧ gk = 15 - k + 1 ∧ iv = .int .i64 k ∧ w0 = wr ∧ Hid (∀ k' (hk : k' < sgW.length), k' < k → Lib.hasPrefix (c :: r) sgW[k'] = false))
  case atStart => exact ⟨0, by omega, by omega, rfl, rfl, fun k' _ h => by omega⟩
  case round =>
    obtain ⟨k, hk, rfl, rfl, rfl, hno⟩ := hrel
    by_cases hkl : k < 15
    · rcases k with _ | _ | _ | _ | _ | _ | _ | _ | _ | _ | _ | _ | _ | _ | _ | k
      · have hix := idx0
        go_wp2_with fail
        refine (Tryz.strings_HasPrefix _ _ _).mono ?_
        rintro e w' ⟨rfl, hw⟩
        obtain rfl := hw.symm
        rw [show (ByteArray.mk (c :: r).toArray).data.toList = c :: r from rfl, show (ByteArray.mk #[60, 62]).data.toList = [60, 62] from rfl]
        cases hp : Lib.hasPrefix (c :: r) [60, 62] with
        | true =>
          have HX : Hid (rWord (c :: r) = (⟨kSign, [60, 62], 0⟩, 2)) := sign_two hO (by decide) hp
          clear hp
          go_wp2_with fail
          refine bodyPost_ret (v := .tuple #[.agg #[.int .i64 1, .string ⟨#[60, 62]⟩, .nilIface], .int .i64 2]) (by simp [results, Tryz.results163, go_sem, r0, r1, r2]) rfl ⟨?_, _, _, rfl, ?_⟩
          · exact ((hB.setCell (p := ⟨w.heap.size, 0, none⟩) (Nat.le_refl _) _).setCell (p := ⟨w.heap.size, 1, none⟩) (Nat.le_refl _) _).setCell (p := ⟨w.heap.size, 2, none⟩) (Nat.le_refl _) _
          · exact ⟨by rw [HX.out]; rfl, ⟨1, _, _, rfl, .inl rfl⟩, fun _ => by rw [HX.out]; rfl⟩
        | false =>
          have HN : Hid (∀ k' (hk : k' < sgW.length), k' < 1 → Lib.hasPrefix (c :: r) sgW[k'] = false) := fun k' hk h => by
            by_cases e : k' = 0
            · subst e; exact hp
            · exact hno.out k' hk (by omega)
          clear hp
          go_wp2_with fail
          go_roundg (15 - 1 + 1)
          case measure => omega
          case rel => exact ⟨1, by omega, rfl, rfl, rfl, HN⟩
      · have hix := idx1
        go_wp2_with fail
        refine (Tryz.strings_HasPrefix _ _ _).mono ?_
        rintro e w' ⟨rfl, hw⟩
        obtain rfl := hw.symm
        rw [show (ByteArray.mk (c :: r).toArray).data.toList = c :: r from rfl, show (ByteArray.mk #[60, 61]).data.toList = [60, 61] from rfl]
        cases hp : Lib.hasPrefix (c :: r) [60, 61] with
        | true =>
          have HX : Hid (rWord (c :: r) = (⟨kSign, [60, 61], 0⟩, 2)) := sign_two hO (by decide) hp
          clear hp
          go_wp2_with fail
          refine bodyPost_ret (v := .tuple #[.agg #[.int .i64 1, .string ⟨#[60, 61]⟩, .nilIface], .int .i64 2]) (by simp [results, Tryz.results163, go_sem, r0, r1, r2]) rfl ⟨?_, _, _, rfl, ?_⟩
          · exact ((hB.setCell (p := ⟨w.heap.size, 0, none⟩) (Nat.le_refl _) _).setCell (p := ⟨w.heap.size, 1, none⟩) (Nat.le_refl _) _).setCell (p := ⟨w.heap.size, 2, none⟩) (Nat.le_refl _) _
          · exact ⟨by rw [HX.out]; rfl, ⟨1, _, _, rfl, .inl rfl⟩, fun _ => by rw [HX.out]; rfl⟩
        | false =>
          have HN : Hid (∀ k' (hk : k' < sgW.length), k' < 2 → Lib.hasPrefix (c :: r) sgW[k'] = false) := fun k' hk h => by
            by_cases e : k' = 1
            · subst e; exact hp
            · exact hno.out k' hk (by omega)
          clear hp
          go_wp2_with fail
          go_roundg (15 - 2 + 1)
          case measure => omega
          case rel => exact ⟨2, by omega, rfl, rfl, rfl, HN⟩
      · have hix := idx2
        go_wp2_with fail
        refine (Tryz.strings_HasPrefix _ _ _).mono ?_
        rintro e w' ⟨rfl, hw⟩
        obtain rfl := hw.symm
        rw [show (ByteArray.mk (c :: r).toArray).data.toList = c :: r from rfl, show (ByteArray.mk #[62, 61]).data.toList = [62, 61] from rfl]
        cases hp : Lib.hasPrefix (c :: r) [62, 61] with
        | true =>
          have HX : Hid (rWord (c :: r) = (⟨kSign, [62, 61], 0⟩, 2)) := sign_two hO (by decide) hp
          clear hp
          go_wp2_with fail
          refine bodyPost_ret (v := .tuple #[.agg #[.int .i64 1, .string ⟨#[62, 61]⟩, .nilIface], .int .i64 2]) (by simp [results, Tryz.results163, go_sem, r0, r1, r2]) rfl ⟨?_, _, _, rfl, ?_⟩
          · exact ((hB.setCell (p := ⟨w.heap.size, 0, none⟩) (Nat.le_refl _) _).setCell (p := ⟨w.heap.size, 1, none⟩) (Nat.le_refl _) _).setCell (p := ⟨w.heap.size, 2, none⟩) (Nat.le_refl _) _
          · exact ⟨by rw [HX.out]; rfl, ⟨1, _, _, rfl, .inl rfl⟩, fun _ => by rw [HX.out]; rfl⟩
        | false =>
          have HN : Hid (∀ k' (hk : k' < sgW.length), k' < 3 → Lib.hasPrefix (c :: r) sgW[k'] = false) := fun k' hk h => by
            by_cases e : k' = 2
            · subst e; exact hp
            · exact hno.out k' hk (by omega)
          clear hp
          go_wp2_with fail
          go_roundg (15 - 3 + 1)
          case measure => omega
          case rel => exact ⟨3, by omega, rfl, rfl, rfl, HN⟩
      · have hix := idx3
        go_wp2_with fail
        refine (Tryz.strings_HasPrefix _ _ _).mono ?_
        rintro e w' ⟨rfl, hw⟩
        obtain rfl := hw.symm
        rw [show (ByteArray.mk (c :: r).toArray).data.toList = c :: r from rfl, show (ByteArray.mk #[40]).data.toList = [40] from rfl]
        cases hp : Lib.hasPrefix (c :: r) [40] with
        | true =>
          have HX : Hid (rWord (c :: r) = (⟨kSign, [40], 0⟩, 1)) := sign_one hO (fun k' hk h => hno.out k' hk (by omega)) (by decide) hp
          clear hp
          go_wp2_with fail
          refine bodyPost_ret (v := .tuple #[.agg #[.int .i64 1, .string ⟨#[40]⟩, .nilIface], .int .i64 1]) (by simp [results, Tryz.results163, go_sem, r0, r1, r2]) rfl ⟨?_, _, _, rfl, ?_⟩
          · exact ((hB.setCell (p := ⟨w.heap.size, 0, none⟩) (Nat.le_refl _) _).setCell (p := ⟨w.heap.size, 1, none⟩) (Nat.le_refl _) _).setCell (p := ⟨w.heap.size, 2, none⟩) (Nat.le_refl _) _
          · exact ⟨by rw [HX.out]; rfl, ⟨1, _, _, rfl, .inl rfl⟩, fun _ => by rw [HX.out]; rfl⟩
        | false =>
          have HN : Hid (∀ k' (hk : k' < sgW.length), k' < 4 → Lib.hasPrefix (c :: r) sgW[k'] = false) := fun k' hk h => by
            by_cases e : k' = 3
            · subst e; exact hp
            · exact hno.out k' hk (by omega)
          clear hp
          go_wp2_with fail
          go_roundg (15 - 4 + 1)
          case measure => omega
          case rel => exact ⟨4, by omega, rfl, rfl, rfl, HN⟩
      · have hix := idx4
        go_wp2_with fail
        refine (Tryz.strings_HasPrefix _ _ _).mono ?_
        rintro e w' ⟨rfl, hw⟩
        obtain rfl := hw.symm
        rw [show (ByteArray.mk (c :: r).toArray).data.toList = c :: r from rfl, show (ByteArray.mk #[41]).data.toList = [41] from rfl]
        cases hp : Lib.hasPrefix (c :: r) [41] with
        | true =>
          have HX : Hid (rWord (c :: r) = (⟨kSign, [41], 0⟩, 1)) := sign_one hO (fun k' hk h => hno.out k' hk (by omega)) (by decide) hp
          clear hp
          go_wp2_with fail
          refine bodyPost_ret (v := .tuple #[.agg #[.int .i64 1, .string ⟨#[41]⟩, .nilIface], .int .i64 1]) (by simp [results, Tryz.results163, go_sem, r0, r1, r2]) rfl ⟨?_, _, _, rfl, ?_⟩
          · exact ((hB.setCell (p := ⟨w.heap.size, 0, none⟩) (Nat.le_refl _) _).setCell (p := ⟨w.heap.size, 1, none⟩) (Nat.le_refl _) _).setCell (p := ⟨w.heap.size, 2, none⟩) (Nat.le_refl _) _
          · exact ⟨by rw [HX.out]; rfl, ⟨1, _, _, rfl, .inl rfl⟩, fun _ => by rw [HX.out]; rfl⟩
        | false =>
          have HN : Hid (∀ k' (hk : k' < sgW.length), k' < 5 → Lib.hasPrefix (c :: r) sgW[k'] = false) := fun k' hk h => by
            by_cases e : k' = 4
            · subst e; exact hp
            · exact hno.out k' hk (by omega)
          clear hp
          go_wp2_with fail
          go_roundg (15 - 5 + 1)
          case measure => omega
          case rel => exact ⟨5, by omega, rfl, rfl, rfl, HN⟩
      · have hix := idx5
        go_wp2_with fail
        refine (Tryz.strings_HasPrefix _ _ _).mono ?_
        rintro e w' ⟨rfl, hw⟩
        obtain rfl := hw.symm
        rw [show (ByteArray.mk (c :: r).toArray).data.toList = c :: r from rfl, show (ByteArray.mk #[44]).data.toList = [44] from rfl]
        cases hp : Lib.hasPrefix (c :: r) [44] with
        | true =>
          have HX : Hid (rWord (c :: r) = (⟨kSign, [44], 0⟩, 1)) := sign_one hO (fun k' hk h => hno.out k' hk (by omega)) (by decide) hp
          clear hp
          go_wp2_with fail
          refine bodyPost_ret (v := .tuple #[.agg #[.int .i64 1, .string ⟨#[44]⟩, .nilIface], .int .i64 1]) (by simp [results, Tryz.results163, go_sem, r0, r1, r2]) rfl ⟨?_, _, _, rfl, ?_⟩
          · exact ((hB.setCell (p := ⟨w.heap.size, 0, none⟩) (Nat.le_refl _) _).setCell (p := ⟨w.heap.size, 1, none⟩) (Nat.le_refl _) _).setCell (p := ⟨w.heap.size, 2, none⟩) (Nat.le_refl _) _
          · exact ⟨by rw [HX.out]; rfl, ⟨1, _, _, rfl, .inl rfl⟩, fun _ => by rw [HX.out]; rfl⟩
        | false =>
          have HN : Hid (∀ k' (hk : k' < sgW.length), k' < 6 → Lib.hasPrefix (c :: r) sgW[k'] = false) := fun k' hk h => by
            by_cases e : k' = 5
            · subst e; exact hp
            · exact hno.out k' hk (by omega)
          clear hp
          go_wp2_with fail
          go_roundg (15 - 6 + 1)
          case measure => omega
          case rel => exact ⟨6, by omega, rfl, rfl, rfl, HN⟩
      · have hix := idx6
        go_wp2_with fail
        refine (Tryz.strings_HasPrefix _ _ _).mono ?_
        rintro e w' ⟨rfl, hw⟩
        obtain rfl := hw.symm
        rw [show (ByteArray.mk (c :: r).toArray).data.toList = c :: r from rfl, show (ByteArray.mk #[46]).data.toList = [46] from rfl]
        cases hp : Lib.hasPrefix (c :: r) [46] with
        | true =>
          have HX : Hid (rWord (c :: r) = (⟨kSign, [46], 0⟩, 1)) := sign_one hO (fun k' hk h => hno.out k' hk (by omega)) (by decide) hp
          clear hp
          go_wp2_with fail
          refine bodyPost_ret (v := .tuple #[.agg #[.int .i64 1, .string ⟨#[46]⟩, .nilIface], .int .i64 1]) (by simp [results, Tryz.results163, go_sem, r0, r1, r2]) rfl ⟨?_, _, _, rfl, ?_⟩
          · exact ((hB.setCell (p := ⟨w.heap.size, 0, none⟩) (Nat.le_refl _) _).setCell (p := ⟨w.heap.size, 1, none⟩) (Nat.le_refl _) _).setCell (p := ⟨w.heap.size, 2, none⟩) (Nat.le_refl _) _
          · exact ⟨by rw [HX.out]; rfl, ⟨1, _, _, rfl, .inl rfl⟩, fun _ => by rw [HX.out]; rfl⟩
        | false =>
          have HN : Hid (∀ k' (hk : k' < sgW.length), k' < 7 → Lib.hasPrefix (c :: r) sgW[k'] = false) := fun k' hk h => by
            by_cases e : k' = 6
            · subst e; exact hp
            · exact hno.out k' hk (by omega)
          clear hp
          go_wp2_with fail
          go_roundg (15 - 7 + 1)
          case measure => omega
          case rel => exact ⟨7, by omega, rfl, rfl, rfl, HN⟩
      · have hix := idx7
        go_wp2_with fail
        refine (Tryz.strings_HasPrefix _ _ _).mono ?_
        rintro e w' ⟨rfl, hw⟩
        obtain rfl := hw.symm
        rw [show (ByteArray.mk (c :: r).toArray).data.toList = c :: r from rfl, show (ByteArray.mk #[42]).data.toList = [42] from rfl]
        cases hp : Lib.hasPrefix (c :: r) [42] with
        | true =>
          have HX : Hid (rWord (c :: r) = (⟨kSign, [42], 0⟩, 1)) := sign_one hO (fun k' hk h => hno.out k' hk (by omega)) (by decide) hp
          clear hp
          go_wp2_with fail
          refine bodyPost_ret (v := .tuple #[.agg #[.int .i64 1, .string ⟨#[42]⟩, .nilIface], .int .i64 1]) (by simp [results, Tryz.results163, go_sem, r0, r1, r2]) rfl ⟨?_, _, _, rfl, ?_⟩
          · exact ((hB.setCell (p := ⟨w.heap.size, 0, none⟩) (Nat.le_refl _) _).setCell (p := ⟨w.heap.size, 1, none⟩) (Nat.le_refl _) _).setCell (p := ⟨w.heap.size, 2, none⟩) (Nat.le_refl _) _
          · exact ⟨by rw [HX.out]; rfl, ⟨1, _, _, rfl, .inl rfl⟩, fun _ => by rw [HX.out]; rfl⟩
        | false =>
          have HN : Hid (∀ k' (hk : k' < sgW.length), k' < 8 → Lib.hasPrefix (c :: r) sgW[k'] = false) := fun k' hk h => by
            by_cases e : k' = 7
            · subst e; exact hp
            · exact hno.out k' hk (by omega)
          clear hp
          go_wp2_with fail
          go_roundg (15 - 8 + 1)
          case measure => omega
          case rel => exact ⟨8, by omega, rfl, rfl, rfl, HN⟩
      · have hix := idx8
        go_wp2_with fail
        refine (Tryz.strings_HasPrefix _ _ _).mono ?_
        rintro e w' ⟨rfl, hw⟩
        obtain rfl := hw.symm
        rw [show (ByteArray.mk (c :: r).toArray).data.toList = c :: r from rfl, show (ByteArray.mk #[43]).data.toList = [43] from rfl]
        cases hp : Lib.hasPrefix (c :: r) [43] with
        | true =>
          have HX : Hid (rWord (c :: r) = (⟨kSign, [43], 0⟩, 1)) := sign_one hO (fun k' hk h => hno.out k' hk (by omega)) (by decide) hp
          clear hp
          go_wp2_with fail
          refine bodyPost_ret (v := .tuple #[.agg #[.int .i64 1, .string ⟨#[43]⟩, .nilIface], .int .i64 1]) (by simp [results, Tryz.results163, go_sem, r0, r1, r2]) rfl ⟨?_, _, _, rfl, ?_⟩
          · exact ((hB.setCell (p := ⟨w.heap.size, 0, none⟩) (Nat.le_refl _) _).setCell (p := ⟨w.heap.size, 1, none⟩) (Nat.le_refl _) _).setCell (p := ⟨w.heap.size, 2, none⟩) (Nat.le_refl _) _
          · exact ⟨by rw [HX.out]; rfl, ⟨1, _, _, rfl, .inl rfl⟩, fun _ => by rw [HX.out]; rfl⟩
        | false =>
          have HN : Hid (∀ k' (hk : k' < sgW.length), k' < 9 → Lib.hasPrefix (c :: r) sgW[k'] = false) := fun k' hk h => by
            by_cases e : k' = 8
            · subst e; exact hp
            · exact hno.out k' hk (by omega)
          clear hp
          go_wp2_with fail
          go_roundg (15 - 9 + 1)
          case measure => omega
          case rel => exact ⟨9, by omega, rfl, rfl, rfl, HN⟩
      · have hix := idx9
        go_wp2_with fail
        refine (Tryz.strings_HasPrefix _ _ _).mono ?_
        rintro e w' ⟨rfl, hw⟩
        obtain rfl := hw.symm
        rw [show (ByteArray.mk (c :: r).toArray).data.toList = c :: r from rfl, show (ByteArray.mk #[45]).data.toList = [45] from rfl]
        cases hp : Lib.hasPrefix (c :: r) [45] with
        | true =>
          have HX : Hid (rWord (c :: r) = (⟨kSign, [45], 0⟩, 1)) := sign_one hO (fun k' hk h => hno.out k' hk (by omega)) (by decide) hp
          clear hp
          go_wp2_with fail
          refine bodyPost_ret (v := .tuple #[.agg #[.int .i64 1, .string ⟨#[45]⟩, .nilIface], .int .i64 1]) (by simp [results, Tryz.results163, go_sem, r0, r1, r2]) rfl ⟨?_, _, _, rfl, ?_⟩
          · exact ((hB.setCell (p := ⟨w.heap.size, 0, none⟩) (Nat.le_refl _) _).setCell (p := ⟨w.heap.size, 1, none⟩) (Nat.le_refl _) _).setCell (p := ⟨w.heap.size, 2, none⟩) (Nat.le_refl _) _
          · exact ⟨by rw [HX.out]; rfl, ⟨1, _, _, rfl, .inl rfl⟩, fun _ => by rw [HX.out]; rfl⟩
        | false =>
          have HN : Hid (∀ k' (hk : k' < sgW.length), k' < 10 → Lib.hasPrefix (c :: r) sgW[k'] = false) := fun k' hk h => by
            by_cases e : k' = 9
            · subst e; exact hp
            · exact hno.out k' hk (by omega)
          clear hp
          go_wp2_with fail
          go_roundg (15 - 10 + 1)
          case measure => omega
          case rel => exact ⟨10, by omega, rfl, rfl, rfl, HN⟩
      · have hix := idx10
        go_wp2_with fail
        refine (Tryz.strings_HasPrefix _ _ _).mono ?_
        rintro e w' ⟨rfl, hw⟩
        obtain rfl := hw.symm
        rw [show (ByteArray.mk (c :: r).toArray).data.toList = c :: r from rfl, show (ByteArray.mk #[47]).data.toList = [47] from rfl]
        cases hp : Lib.hasPrefix (c :: r) [47] with
        | true =>
          have HX : Hid (rWord (c :: r) = (⟨kSign, [47], 0⟩, 1)) := sign_one hO (fun k' hk h => hno.out k' hk (by omega)) (by decide) hp
          clear hp
          go_wp2_with fail
          refine bodyPost_ret (v := .tuple #[.agg #[.int .i64 1, .string ⟨#[47]⟩, .nilIface], .int .i64 1]) (by simp [results, Tryz.results163, go_sem, r0, r1, r2]) rfl ⟨?_, _, _, rfl, ?_⟩
          · exact ((hB.setCell (p := ⟨w.heap.size, 0, none⟩) (Nat.le_refl _) _).setCell (p := ⟨w.heap.size, 1, none⟩) (Nat.le_refl _) _).setCell (p := ⟨w.heap.size, 2, none⟩) (Nat.le_refl _) _
          · exact ⟨by rw [HX.out]; rfl, ⟨1, _, _, rfl, .inl rfl⟩, fun _ => by rw [HX.out]; rfl⟩
        | false =>
          have HN : Hid (∀ k' (hk : k' < sgW.length), k' < 11 → Lib.hasPrefix (c :: r) sgW[k'] = false) := fun k' hk h => by
            by_cases e : k' = 10
            · subst e; exact hp
            · exact hno.out k' hk (by omega)
          clear hp
          go_wp2_with fail
          go_roundg (15 - 11 + 1)
          case measure => omega
          case rel => exact ⟨11, by omega, rfl, rfl, rfl, HN⟩
      · have hix := idx11
        go_wp2_with fail
        refine (Tryz.strings_HasPrefix _ _ _).mono ?_
        rintro e w' ⟨rfl, hw⟩
        obtain rfl := hw.symm
        rw [show (ByteArray.mk (c :: r).toArray).data.toList = c :: r from rfl, show (ByteArray.mk #[37]).data.toList = [37] from rfl]
        cases hp : Lib.hasPrefix (c :: r) [37] with
        | true =>
          have HX : Hid (rWord (c :: r) = (⟨kSign, [37], 0⟩, 1)) := sign_one hO (fun k' hk h => hno.out k' hk (by omega)) (by decide) hp
          clear hp
          go_wp2_with fail
          refine bodyPost_ret (v := .tuple #[.agg #[.int .i64 1, .string ⟨#[37]⟩, .nilIface], .int .i64 1]) (by simp [results, Tryz.results163, go_sem, r0, r1, r2]) rfl ⟨?_, _, _, rfl, ?_⟩
          · exact ((hB.setCell (p := ⟨w.heap.size, 0, none⟩) (Nat.le_refl _) _).setCell (p := ⟨w.heap.size, 1, none⟩) (Nat.le_refl _) _).setCell (p := ⟨w.heap.size, 2, none⟩) (Nat.le_refl _) _
          · exact ⟨by rw [HX.out]; rfl, ⟨1, _, _, rfl, .inl rfl⟩, fun _ => by rw [HX.out]; rfl⟩
        | false =>
          have HN : Hid (∀ k' (hk : k' < sgW.length), k' < 12 → Lib.hasPrefix (c :: r) sgW[k'] = false) := fun k' hk h => by
            by_cases e : k' = 11
            · subst e; exact hp
            · exact hno.out k' hk (by omega)
          clear hp
          go_wp2_with fail
          go_roundg (15 - 12 + 1)
          case measure => omega
          case rel => exact ⟨12, by omega, rfl, rfl, rfl, HN⟩
      · have hix := idx12
        go_wp2_with fail
        refine (Tryz.strings_HasPrefix _ _ _).mono ?_
        rintro e w' ⟨rfl, hw⟩
        obtain rfl := hw.symm
        rw [show (ByteArray.mk (c :: r).toArray).data.toList = c :: r from rfl, show (ByteArray.mk #[61]).data.toList = [61] from rfl]
        cases hp : Lib.hasPrefix (c :: r) [61] with
        | true =>
          have HX : Hid (rWord (c :: r) = (⟨kSign, [61], 0⟩, 1)) := sign_one hO (fun k' hk h => hno.out k' hk (by omega)) (by decide) hp
          clear hp
          go_wp2_with fail
          refine bodyPost_ret (v := .tuple #[.agg #[.int .i64 1, .string ⟨#[61]⟩, .nilIface], .int .i64 1]) (by simp [results, Tryz.results163, go_sem, r0, r1, r2]) rfl ⟨?_, _, _, rfl, ?_⟩
          · exact ((hB.setCell (p := ⟨w.heap.size, 0, none⟩) (Nat.le_refl _) _).setCell (p := ⟨w.heap.size, 1, none⟩) (Nat.le_refl _) _).setCell (p := ⟨w.heap.size, 2, none⟩) (Nat.le_refl _) _
          · exact ⟨by rw [HX.out]; rfl, ⟨1, _, _, rfl, .inl rfl⟩, fun _ => by rw [HX.out]; rfl⟩
        | false =>
          have HN : Hid (∀ k' (hk : k' < sgW.length), k' < 13 → Lib.hasPrefix (c :: r) sgW[k'] = false) := fun k' hk h => by
            by_cases e : k' = 12
            · subst e; exact hp
            · exact hno.out k' hk (by omega)
          clear hp
          go_wp2_with fail
          go_roundg (15 - 13 + 1)
          case measure => omega
          case rel => exact ⟨13, by omega, rfl, rfl, rfl, HN⟩
      · have hix := idx13
        go_wp2_with fail
        refine (Tryz.strings_HasPrefix _ _ _).mono ?_
        rintro e w' ⟨rfl, hw⟩
        obtain rfl := hw.symm
        rw [show (ByteArray.mk (c :: r).toArray).data.toList = c :: r from rfl, show (ByteArray.mk #[60]).data.toList = [60] from rfl]
        cases hp : Lib.hasPrefix (c :: r) [60] with
        | true =>
          have HX : Hid (rWord (c :: r) = (⟨kSign, [60], 0⟩, 1)) := sign_one hO (fun k' hk h => hno.out k' hk (by omega)) (by decide) hp
          clear hp
          go_wp2_with fail
          refine bodyPost_ret (v := .tuple #[.agg #[.int .i64 1, .string ⟨#[60]⟩, .nilIface], .int .i64 1]) (by simp [results, Tryz.results163, go_sem, r0, r1, r2]) rfl ⟨?_, _, _, rfl, ?_⟩
          · exact ((hB.setCell (p := ⟨w.heap.size, 0, none⟩) (Nat.le_refl _) _).setCell (p := ⟨w.heap.size, 1, none⟩) (Nat.le_refl _) _).setCell (p := ⟨w.heap.size, 2, none⟩) (Nat.le_refl _) _
          · exact ⟨by rw [HX.out]; rfl, ⟨1, _, _, rfl, .inl rfl⟩, fun _ => by rw [HX.out]; rfl⟩
        | false =>
          have HN : Hid (∀ k' (hk : k' < sgW.length), k' < 14 → Lib.hasPrefix (c :: r) sgW[k'] = false) := fun k' hk h => by
            by_cases e : k' = 13
            · subst e; exact hp
            · exact hno.out k' hk (by omega)
          clear hp
          go_wp2_with fail
          go_roundg (15 - 14 + 1)
          case measure => omega
          case rel => exact ⟨14, by omega, rfl, rfl, rfl, HN⟩
      · have hix := idx14
        go_wp2_with fail
        refine (Tryz.strings_HasPrefix _ _ _).mono ?_
        rintro e w' ⟨rfl, hw⟩
        obtain rfl := hw.symm
        rw [show (ByteArray.mk (c :: r).toArray).data.toList = c :: r from rfl, show (ByteArray.mk #[62]).data.toList = [62] from rfl]
        cases hp : Lib.hasPrefix (c :: r) [62] with
        | true =>
          have HX : Hid (rWord (c :: r) = (⟨kSign, [62], 0⟩, 1)) := sign_one hO (fun k' hk h => hno.out k' hk (by omega)) (by decide) hp
          clear hp
          go_wp2_with fail
          refine bodyPost_ret (v := .tuple #[.agg #[.int .i64 1, .string ⟨#[62]⟩, .nilIface], .int .i64 1]) (by simp [results, Tryz.results163, go_sem, r0, r1, r2]) rfl ⟨?_, _, _, rfl, ?_⟩
          · exact ((hB.setCell (p := ⟨w.heap.size, 0, none⟩) (Nat.le_refl _) _).setCell (p := ⟨w.heap.size, 1, none⟩) (Nat.le_refl _) _).setCell (p := ⟨w.heap.size, 2, none⟩) (Nat.le_refl _) _
          · exact ⟨by rw [HX.out]; rfl, ⟨1, _, _, rfl, .inl rfl⟩, fun _ => by rw [HX.out]; rfl⟩
        | false =>
          have HN : Hid (∀ k' (hk : k' < sgW.length), k' < 15 → Lib.hasPrefix (c :: r) sgW[k'] = false) := fun k' hk h => by
            by_cases e : k' = 14
            · subst e; exact hp
            · exact hno.out k' hk (by omega)
          clear hp
          go_wp2_with fail
          go_roundg (15 - 15 + 1)
          case measure => omega
          case rel => exact ⟨15, by omega, rfl, rfl, rfl, HN⟩
      · omega
    · obtain rfl : k = 15 := by omega
      have HX : Hid (rWord (c :: r) = rNone) := sign_none hO (fun k' hk => hno.out k' hk hk)
      go_wp2_with fail
      refine bodyPost_ret (v := .tuple #[.agg #[.int .i64 0, .string ⟨#[]⟩, .nilIface], .int .i64 0]) (by simp [results, Tryz.results163, go_sem, r0, r1, r2]) rfl ⟨?_, _, _, rfl, ?_⟩
      · exact ((hB.setCell (p := ⟨w.heap.size, 0, none⟩) (Nat.le_refl _) _).setCell (p := ⟨w.heap.size, 1, none⟩) (Nat.le_refl _) _).setCell (p := ⟨w.heap.size, 2, none⟩) (Nat.le_refl _) _
      · exact ⟨by rw [HX.out]; rfl, ⟨0, [], _, rfl, .inl rfl⟩, fun h => absurd (by rw [HX.out]; rfl) h⟩
end Gr
end Go.Proofs.YtamfmffdgidmgaaGreatDoor
