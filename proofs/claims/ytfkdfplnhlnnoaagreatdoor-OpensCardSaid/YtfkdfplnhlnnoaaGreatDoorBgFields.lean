/- strings.FieldsSeq's iterator over ASCII, for every loop body that goes on or panics. -/
import Derived.Test.YtfkdfplnhlnnoaaGreatDoorBgLoops
import Derived.Test.YtfkdfplnhlnnoaaGreatDoorBgStep
namespace Go.Proofs.YtfkdfplnhlnnoaaGreatDoor
open Go.RowKit Go.Shelf
set_option linter.unusedSimpArgs false
set_option linter.unusedVariables false
attribute [local go_sem] Oper.semAt_some

def isSp (c : UInt8) : Bool := c == 9 || c == 10 || c == 11 || c == 12 || c == 13 || c == 32
/-- how far a reader of words has come behind k bytes: the words; where the one under way began (below 0: none is) -/
def fsAt (s : Bg.Str) : Nat → List Bg.Str × Int
  | 0 => ([], -1)
  | k + 1 => if isSp (s.getD k 0) then (if 0 ≤ (fsAt s k).2 then ((fsAt s k).1 ++ [(s.drop (fsAt s k).2.toNat).take (k - (fsAt s k).2.toNat)], -1) else fsAt s k) else ((fsAt s k).1, if (fsAt s k).2 < 0 then (k : Int) else (fsAt s k).2)
theorem fsAt_succ (s : Bg.Str) (k : Nat) : fsAt s (k + 1) = if isSp (s.getD k 0) then (if 0 ≤ (fsAt s k).2 then ((fsAt s k).1 ++ [(s.drop (fsAt s k).2.toNat).take (k - (fsAt s k).2.toNat)], -1) else fsAt s k) else ((fsAt s k).1, if (fsAt s k).2 < 0 then (k : Int) else (fsAt s k).2) := rfl
def fsEnd (s : Bg.Str) : List Bg.Str := if 0 ≤ (fsAt s s.length).2 then (fsAt s s.length).1 ++ [s.drop (fsAt s s.length).2.toNat] else (fsAt s s.length).1
theorem fsAt_start (s : Bg.Str) : ∀ k, (fsAt s k).2 = -1 ∨ ∃ j : Nat, (fsAt s k).2 = j ∧ j < k
  | 0 => .inl rfl
  | k + 1 => by
    have ih := fsAt_start s k
    rw [fsAt_succ]
    split
    · split
      · exact .inl rfl
      · rcases ih with h | ⟨j, h, h2⟩
        · exact .inl h
        · exact .inr ⟨j, h, by omega⟩
    · rcases ih with h | ⟨j, h, h2⟩
      · rw [h]; exact .inr ⟨k, rfl, by omega⟩
      · rw [h]
        refine .inr ⟨j, ?_, by omega⟩
        show (if (j : Int) < 0 then (k : Int) else j) = j
        rw [if_neg (by omega)]
theorem fsAt_len (s : Bg.Str) : ∀ k, (fsAt s k).1.length ≤ k
  | 0 => Nat.le_refl _
  | k + 1 => by
    have ih := fsAt_len s k
    rw [fsAt_succ]
    split
    · split
      · simp; omega
      · omega
    · show (fsAt s k).1.length ≤ k + 1
      omega
theorem fsEnd_kw : fsEnd kwText = kwsAll := by decide +kernel
theorem kw_asc : ∀ c ∈ kwText, c.toNat < 128 := by decide +kernel

set_option maxRecDepth 100000 in
set_option maxHeartbeats 1000000 in
theorem fields_iter (l Bs : Nat) (s : Bg.Str) (W : World) (hs : s.length ≤ 90000) (hasc : ∀ c ∈ s, c.toNat < 128)
    (J : List Bg.Str → World → Prop) (Jp : List PanicEntry → World → Prop) (hJd : ∀ pre A n, J pre A → J pre (A.drewN n))
    (hJ0 : ∀ pre A, J pre A → A.cell? ⟨Bs, 0, none⟩ = some (.string ⟨s.toArray⟩) ∧ ∀ c : UInt8, c.toNat < 128 → A.cell? ⟨1, c.toNat, none⟩ = some (.int .u8 (if isSp c then 1 else 0)))
    (hY : ∀ pre x W1, J pre W1 → pre.length ≤ s.length → x.length ≤ s.length → YieldAt Fence.wide 2 Tryz.prog l #[strV x] W1 fun e W' => (e = .returned (.bool true) ∧ J (pre ++ [x]) W') ∨ (∃ ch, e = .panicked ch ∧ Jp ch W'))
    (hstart : J [] W) :
    CallsIn Fence.wide 3 Tryz.prog 91 #[.func (.yield l) #[] #[], .pointer (some ⟨Bs, 0, none⟩)] W fun e W' =>
      (∃ v, e = .returned v ∧ J (fsEnd s) W') ∨ (∃ ch, e = .panicked ch ∧ Jp ch W') := by
  have hex := Bg.ext_mk
  refine callsIn_of_wp Tryz.func91 rfl trivial ?_ rfl
  simp only [Tryz.ntmps91, List.size_toArray, List.length_cons, List.length_nil, Nat.reduceAdd, Nat.reduceSub, Array.replicate_succ, Array.replicate_zero, List.push_toArray, List.append_toArray, List.nil_append, List.cons_append]
  have HYH : Hid (∀ pre x W1, J pre W1 → pre.length ≤ s.length → x.length ≤ s.length → YieldAt Fence.wide 2 Tryz.prog l #[strV x] W1 fun e W' => (e = .returned (.bool true) ∧ J (pre ++ [x]) W') ∨ (∃ ch, e = .panicked ch ∧ Jp ch W')) := hY
  have HJd : Hid (∀ pre A n, J pre A → J pre (A.drewN n)) := hJd
  have HJ0 : Hid (∀ pre A, J pre A → A.cell? ⟨Bs, 0, none⟩ = some (.string ⟨s.toArray⟩) ∧ ∀ c : UInt8, c.toNat < 128 → A.cell? ⟨1, c.toNat, none⟩ = some (.int .u8 (if isSp c then 1 else 0))) := hJ0
  have HASC : Hid (∀ c ∈ s, c.toNat < 128) := hasc
  clear hY hJd hJ0 hasc
  gi_wp2
  gi_loopw [3, 4] (fun st i wr => ∃ k : Nat, k ≤ s.length ∧ i = .int .i64 k ∧ st = .int .i64 (fsAt s k).2 ∧ J (fsAt s k).1 wr) (fun _ i _ => s.length - (intOf i).toNat)
  case atStart => exact ⟨0, by omega, rfl, rfl, hstart⟩
  case round =>
    clear hstart
    obtain ⟨k, hk, rfl, rfl, hj⟩ := hrel
    obtain ⟨hcs, hca⟩ := HJ0.out _ _ hj
    have hst := fsAt_start s k
    have hle := fsAt_len s k
    by_cases hlt : k < s.length
    · have hsz : k < (ByteArray.mk s.toArray).size := hlt
      obtain ⟨c, hc⟩ : ∃ c, (ByteArray.mk s.toArray)[k]'hsz = c := ⟨_, rfl⟩
      have hc128 : c.toNat < 128 := by rw [← hc]; exact HASC.out _ (List.getElem_mem (l := s) hlt)
      have HC : Hid (s.getD k 0 = c) := by
        show s.getD k 0 = c
        rw [← hc, List.getD_eq_getElem?_getD, List.getElem?_eq_getElem hlt]; rfl
      have hcc := hca c hc128
      have hnot : ¬ (128 : Int) ≤ (c.toNat : Int) := by omega
      clear hca
      have hsucc := fsAt_succ s k
      rw [HC.out] at hsucc
      obtain ⟨q, hq⟩ : ∃ q, fsAt s k = q := ⟨_, rfl⟩
      rw [hq] at hst hle hj hsucc ⊢
      obtain ⟨pre, stt⟩ := q
      simp only at hst hle hj hsucc ⊢
      cases hsp : isSp c
      · rw [hsp] at hcc hsucc
        simp only [Bool.false_eq_true, if_false] at hcc hsucc
        have HSU : Hid (fsAt s (k + 1) = (pre, if stt < 0 then (k : Int) else stt)) := hsucc
        clear hsucc hsp hq
        rcases hst with rfl | ⟨j, rfl, hjk⟩
        · gi_wp2
          refine ⟨⟨k + 1, by omega, by go_num, ?_, ?_⟩, by simp [intOf] <;> omega⟩
          · rw [HSU.out]; rfl
          · rw [HSU.out]; exact hj
        · have hj0 : ¬ (j : Int) < 0 := by omega
          gi_wp2
          refine ⟨⟨k + 1, by omega, by go_num, ?_, ?_⟩, by simp [intOf] <;> omega⟩
          · rw [HSU.out, if_neg hj0]
          · rw [HSU.out]; exact hj
      · rw [hsp] at hcc hsucc
        simp only [if_true] at hcc hsucc
        rcases hst with rfl | ⟨j, rfl, hjk⟩
        · have HSU : Hid (fsAt s (k + 1) = (pre, -1)) := by show _ = _; rw [hsucc, if_neg (by omega)]
          clear hsucc hsp hq
          gi_wp2
          refine ⟨⟨k + 1, by omega, by go_num, ?_, ?_⟩, by simp [intOf] <;> omega⟩
          · rw [HSU.out]
          · rw [HSU.out]; exact hj
        · have HSU : Hid (fsAt s (k + 1) = (pre ++ [(s.drop j).take (k - j)], -1)) := by show _ = _; rw [hsucc, if_pos (by omega)]; rfl
          clear hsucc hsp hq
          have hj0 : (0 : Int) ≤ (j : Int) := by omega
          obtain ⟨fn, tmps, assign, body, hy0, hR⟩ := HYH.out pre ((s.drop j).take (k - j)) wr hj (by omega) (by rw [List.length_take, List.length_drop]; omega)
          have hy : (Instr.yield l #[.string ⟨((s.drop j).take (k - j)).toArray⟩]).run Tryz.prog wr = .ok (.round l fn tmps assign body) wr := hy0
          have HR : Hid _ := hR
          clear hy0 hR
          gi_wp2
          refine RoundIn.mono HR.out ?_
          rintro e W3 (⟨rfl, hJ3⟩ | ⟨ch, rfl, hp⟩)
          · clear hy
            gi_wp2
            refine ⟨⟨k + 1, by omega, by go_num, ?_, ?_⟩, by simp [intOf] <;> omega⟩
            · rw [HSU.out]
            · rw [HSU.out]; exact hJ3
          · gi_wp2
            exact ⟨rfl, .inr ⟨ch, rfl, hp⟩⟩
    · obtain rfl : k = s.length := by omega
      have HE : Hid (fsEnd s = if 0 ≤ (fsAt s s.length).2 then (fsAt s s.length).1 ++ [s.drop (fsAt s s.length).2.toNat] else (fsAt s s.length).1) := rfl
      obtain ⟨q, hq⟩ : ∃ q, fsAt s s.length = q := ⟨_, rfl⟩
      rw [hq] at hst hle hj HE ⊢
      obtain ⟨pre, stt⟩ := q
      simp only at hst hle hj HE ⊢
      clear hca hq
      rcases hst with rfl | ⟨j, rfl, hjk⟩
      · gi_wp2
        go_end0
        refine .inl ⟨_, rfl, ?_⟩
        rw [HE.out, if_neg (by omega)]; exact hj
      · have hj0 : (0 : Int) ≤ (j : Int) := by omega
        obtain ⟨fn, tmps, assign, body, hy0, hR⟩ := HYH.out pre (s.drop j) wr hj (by omega) (by rw [List.length_drop]; omega)
        have hy : (Instr.yield l #[.string ⟨(s.drop j).toArray⟩]).run Tryz.prog wr = .ok (.round l fn tmps assign body) wr := hy0
        have HR : Hid _ := hR
        clear hy0 hR
        have et : List.take (s.length - j) (List.drop j s) = s.drop j := List.take_of_length_le (by rw [List.length_drop]; exact Nat.le_refl _)
        gi_wp2
        refine RoundIn.mono HR.out ?_
        rintro e W3 (⟨rfl, hJ3⟩ | ⟨ch, rfl, hp⟩)
        · clear hy
          gi_wp2
          go_end0
          refine .inl ⟨_, rfl, ?_⟩
          rw [HE.out, if_pos hj0]; exact hJ3
        · gi_wp2
          exact ⟨rfl, .inr ⟨ch, rfl, hp⟩⟩

set_option maxRecDepth 100000 in
theorem wpB_fields {bf : FuncId} {fnb : Func} {Q : Exit → Act → World → Prop} {a : Act} {w : World} {g : Operand} {ps : Array Tmp} {assign body : Code} (Bs : Nat) (s : Bg.Str) (J : List Bg.Str → World → Prop) (Jp : List PanicEntry → World → Prop)
    (hfn : Tryz.prog.funcs[bf]? = some fnb) (hg : a.eval g = .func (.func 91) #[] #[.pointer (some ⟨Bs, 0, none⟩)]) (hps : ps.size = 1) (hs : s.length ≤ 90000) (hasc : ∀ c ∈ s, c.toNat < 128)
    (hJd : ∀ pre A n, J pre A → J pre (A.drewN n))
    (hJ0 : ∀ pre A, J pre A → A.cell? ⟨Bs, 0, none⟩ = some (.string ⟨s.toArray⟩) ∧ ∀ c : UInt8, c.toNat < 128 → A.cell? ⟨1, c.toNat, none⟩ = some (.int .u8 (if isSp c then 1 else 0)))
    (hJ00 : J [] (rangeW w bf a.tmps ps assign body))
    (hround : ∀ pre x A rb A2, J pre A → pre.length ≤ s.length → x.length ≤ s.length → OffL (w.heap.size + 1) A A2 → A2.heap[w.heap.size + 1]? = some (.loop rb) → A2.heap[w.heap.size]? = some (.deferred (some [])) →
      assign.wpIn (Fence.wide.inRound (w.heap.size + 1)) 2 Tryz.prog (Exit.then (fun a₁ w₁ => w₁ = A ∧ body.wpIn (Fence.wide.inRound (w.heap.size + 1)) 2 Tryz.prog
        (bodyQ (w.heap.size + 1) w.heap.size rb (fun A' => J (pre ++ [x]) A') Jp) a₁ A2) (fun _ _ _ => False))
        { tmps := (ps.zip #[strV x]).foldl (fun tmps (t, a) => tmps.setIfInBounds t a) a.tmps, defers := [] } A)
    (hdone : ∀ A A2, J (fsEnd s) A → OffL (w.heap.size + 1) A A2 → A2.heap[w.heap.size]? = some (.deferred (some [])) →
      Q .normal { a with defers := { target := .collected w.heap.size, args := #[] } :: a.defers } A2)
    (hpan : ∀ ch A, Jp ch A → Q (.panic ch) { a with defers := { target := .collected w.heap.size, args := #[] } :: a.defers } A) :
    wpB bf Tryz.prog (Code.rangeFunc g ps assign body) Q a w := by
  refine wpB_range (gf := 91) hg (fun _ _ => rfl) ?_
  refine Calls.mono ((callsIn_wide (n := 3)).1 (fields_iter (w.heap.size + 1) Bs s (rangeW w bf a.tmps ps assign body) hs hasc
    (fun k A => J k A ∧ A.heap[w.heap.size + 1]? = some (.loop (recOf bf a.tmps ps assign body w.heap.size .ready)) ∧ A.heap[w.heap.size]? = some (.deferred (some []))) Jp ?_ ?_ ?_ ?_)) ?_
  · rintro k A n ⟨h1, h2, h3⟩
    exact ⟨hJd k A n h1, by rw [heap_drewN]; exact h2, by rw [heap_drewN]; exact h3⟩
  · rintro pre A ⟨h1, _, _⟩
    exact hJ0 pre A h1
  · rintro pre x A ⟨hj, hL, hD⟩ hpl hxl
    have hy := yield_body (P := Tryz.prog) (n := 2) (l := w.heap.size + 1) (D := w.heap.size) (args := #[strV x]) hL hD (by omega) (by show 1 = ps.size; omega) rfl rfl hfn (fun rb A2 h1 h2 h3 => hround pre x A rb A2 hj hpl hxl h1 h2 h3)
    obtain ⟨fn, tmps, asg, bd, hyr, hR⟩ := hy
    refine ⟨fn, tmps, asg, bd, hyr, RoundIn.mono hR ?_⟩
    rintro e W' (⟨rfl, h1, h4, h5⟩ | h)
    · exact .inl ⟨rfl, h1, h4, h5⟩
    · exact .inr h
  · exact ⟨hJ00, rangeW_rec .., rangeW_def ..⟩
  · rintro e W' (⟨v, rfl, hj, hL, hD⟩ | ⟨ch, rfl, hp⟩)
    · exact ⟨hL, hdone W' _ hj (OffL.put ..) ((World.putObj_heap_other (by omega)).trans hD)⟩
    · exact hpan ch W' hp
end Go.Proofs.YtfkdfplnhlnnoaaGreatDoor
