import Derived.Test.YtfkdfplnhlnnoaaGreatDoorBgJa05
section
namespace Go.Proofs.YtfkdfplnhlnnoaaGreatDoor
open Go.RowKit Go.Shelf
set_option linter.unusedSimpArgs false
set_option linter.unusedVariables false
attribute [local go_sem] Oper.semAt_some
def isSp (c : UInt8) : Bool := c == 9 || c == 10 || c == 11 || c == 12 || c == 13 || c == 32
/-- how far a reader of words has come behind k bytes: the words; where the one under way began (below 0: none is) -/
def fsAt (s : Bg.Str) : Nat → List Bg.Str × Int
  | 0 => ([], -1)
  | k + 1 => if isSp (s.getD k 0) then (if 0 ≤ (fsAt s k).2 then ((fsAt s k).1 ++ [(s.drop (fsAt s k).2.toNat).take (k - (fsAt s k).2.toNat)], -1) else fsAt s k) else ((fsAt s k).1, if (fsAt s k).2 < 0 then (k : Int) else (fsAt s k).2)
theorem fsAt_succ (s : Bg.Str) (k : Nat) : fsAt s (k + 1) = if isSp (s.getD k 0) then (if 0 ≤ (fsAt s k).2 then ((fsAt s k).1 ++ [(s.drop (fsAt s k).2.toNat).take (k - (fsAt s k).2.toNat)], -1) else fsAt s k) else ((fsAt s k).1, if (fsAt s k).2 < 0 then (k : Int) else (fsAt s k).2) := rfl
def fsEnd (s : Bg.Str) : List Bg.Str := if 0 ≤ (fsAt s s.length).2 then (fsAt s s.length).1 ++ [s.drop (fsAt s s.length).2.toNat] else (fsAt s s.length).1
theorem fsAt_start (s : Bg.Str) : ∀ k, (fsAt s k).2 = -1 ∨ ∃ j : Nat, (fsAt s k).2 = j ∧ j < k
  | 0 => .inl rfl
  | k + 1 => by
    have ih := fsAt_start s k
    rw [fsAt_succ]
    split
    · split
      · exact .inl rfl
      · rcases ih with h | ⟨j, h, h2⟩
        · exact .inl h
        · exact .inr ⟨j, h, by omega⟩
    · rcases ih with h | ⟨j, h, h2⟩
      · rw [h]; exact .inr ⟨k, rfl, by omega⟩
      · rw [h]
        refine .inr ⟨j, ?_, by omega⟩
        show (if (j : Int) < 0 then (k : Int) else j) = j
        rw [if_neg (by omega)]
theorem fsAt_len (s : Bg.Str) : ∀ k, (fsAt s k).1.length ≤ k
  | 0 => Nat.le_refl _
  | k + 1 => by
    have ih := fsAt_len s k
    rw [fsAt_succ]
    split
    · split
      · simp; omega
      · omega
    · show (fsAt s k).1.length ≤ k + 1
      omega
theorem fsEnd_kw : fsEnd kwText = kwsAll := by decide +kernel
theorem kw_asc : ∀ c ∈ kwText, c.toNat < 128 := by decide +kernel
set_option maxRecDepth 100000 in
set_option maxHeartbeats 1000000 in
theorem fields_iter (l Bs : Nat) (s : Bg.Str) (W : World) (hs : s.length ≤ 90000) (hasc : ∀ c ∈ s, c.toNat < 128)
    (J : List Bg.Str → World → Prop) (Jp : List PanicEntry → World → Prop) (hJd : ∀ pre A n, J pre A → J pre (A.drewN n))
    (hJ0 : ∀ pre A, J pre A → A.cell? ⟨Bs, 0, none⟩ = some (.string ⟨s.toArray⟩) ∧ ∀ c : UInt8, c.toNat < 128 → A.cell? ⟨1, c.toNat, none⟩ = some (.int .u8 (if isSp c then 1 else 0)))
    (hY : ∀ pre x W1, J pre W1 → pre.length ≤ s.length → x.length ≤ s.length → YieldAt Fence.wide 2 Tryz.prog l #[strV x] W1 fun e W' => (e = .returned (.bool true) ∧ J (pre ++ [x]) W') ∨ (∃ ch, e = .panicked ch ∧ Jp ch W'))
    (hstart : J [] W) :
    CallsIn Fence.wide 3 Tryz.prog 91 #[.func (.yield l) #[] #[], .pointer (some ⟨Bs, 0, none⟩)] W fun e W' =>
      (∃ v, e = .returned v ∧ J (fsEnd s) W') ∨ (∃ ch, e = .panicked ch ∧ Jp ch W') := by
  have hex := Bg.ext_mk
  refine callsIn_of_wp Tryz.func91 rfl trivial ?_ rfl
  simp only [Tryz.ntmps91, List.size_toArray, List.length_cons, List.length_nil, Nat.reduceAdd, Nat.reduceSub, Array.replicate_succ, Array.replicate_zero, List.push_toArray, List.append_toArray, List.nil_append, List.cons_append]
  have HYH : Hid (∀ pre x W1, J pre W1 → pre.length ≤ s.length → x.length ≤ s.length → YieldAt Fence.wide 2 Tryz.prog l #[strV x] W1 fun e W' => (e = .returned (.bool true) ∧ J (pre ++ [x]) W') ∨ (∃ ch, e = .panicked ch ∧ Jp ch W')) := hY
  have HJd : Hid (∀ pre A n, J pre A → J pre (A.drewN n)) := hJd
  have HJ0 : Hid (∀ pre A, J pre A → A.cell? ⟨Bs, 0, none⟩ = some (.string ⟨s.toArray⟩) ∧ ∀ c : UInt8, c.toNat < 128 → A.cell? ⟨1, c.toNat, none⟩ = some (.int .u8 (if isSp c then 1 else 0))) := hJ0
  have HASC : Hid (∀ c ∈ s, c.toNat < 128) := hasc
  clear hY hJd hJ0 hasc
  gi_wp2
  gi_loopw [3, 4] (fun st i wr => ∃ k : Nat, k ≤ s.length ∧ i = .int .i64 k ∧ st = .int .i64 (fsAt s k).2 ∧ J (fsAt s k).1 wr) (fun _ i _ => s.length - (intOf i).toNat)
  case atStart => exact ⟨0, by omega, rfl, rfl, hstart⟩
  case round =>
    clear hstart
    obtain ⟨k, hk, rfl, rfl, hj⟩ := hrel
    obtain ⟨hcs, hca⟩ := HJ0.out _ _ hj
    have hst := fsAt_start s k
    have hle := fsAt_len s k
    by_cases hlt : k < s.length
    · have hsz : k < (ByteArray.mk s.toArray).size := hlt
      obtain ⟨c, hc⟩ : ∃ c, (ByteArray.mk s.toArray)[k]'hsz = c := ⟨_, rfl⟩
      have hc128 : c.toNat < 128 := by rw [← hc]; exact HASC.out _ (List.getElem_mem (l := s) hlt)
      have HC : Hid (s.getD k 0 = c) := by
        show s.getD k 0 = c
        rw [← hc, List.getD_eq_getElem?_getD, List.getElem?_eq_getElem hlt]; rfl
      have hcc := hca c hc128
      have hnot : ¬ (128 : Int) ≤ (c.toNat : Int) := by omega
      clear hca
      have hsucc := fsAt_succ s k
      rw [HC.out] at hsucc
      obtain ⟨q, hq⟩ : ∃ q, fsAt s k = q := ⟨_, rfl⟩
      rw [hq] at hst hle hj hsucc ⊢
      obtain ⟨pre, stt⟩ := q
      simp only at hst hle hj hsucc ⊢
      cases hsp : isSp c
      · rw [hsp] at hcc hsucc
        simp only [Bool.false_eq_true, if_false] at hcc hsucc
        have HSU : Hid (fsAt s (k + 1) = (pre, if stt < 0 then (k : Int) else stt)) := hsucc
        clear hsucc hsp hq
        rcases hst with rfl | ⟨j, rfl, hjk⟩
        · gi_wp2
          refine ⟨⟨k + 1, by omega, by go_num, ?_, ?_⟩, by simp [intOf] <;> omega⟩
          · rw [HSU.out]; rfl
          · rw [HSU.out]; exact hj
        · have hj0 : ¬ (j : Int) < 0 := by omega
          gi_wp2
          refine ⟨⟨k + 1, by omega, by go_num, ?_, ?_⟩, by simp [intOf] <;> omega⟩
          · rw [HSU.out, if_neg hj0]
          · rw [HSU.out]; exact hj
      · rw [hsp] at hcc hsucc
        simp only [if_true] at hcc hsucc
        rcases hst with rfl | ⟨j, rfl, hjk⟩
        · have HSU : Hid (fsAt s (k + 1) = (pre, -1)) := by show _ = _; rw [hsucc, if_neg (by omega)]
          clear hsucc hsp hq
          gi_wp2
          refine ⟨⟨k + 1, by omega, by go_num, ?_, ?_⟩, by simp [intOf] <;> omega⟩
          · rw [HSU.out]
          · rw [HSU.out]; exact hj
        · have HSU : Hid (fsAt s (k + 1) = (pre ++ [(s.drop j).take (k - j)], -1)) := by show _ = _; rw [hsucc, if_pos (by omega)]; rfl
          clear hsucc hsp hq
          have hj0 : (0 : Int) ≤ (j : Int) := by omega
          obtain ⟨fn, tmps, assign, body, hy0, hR⟩ := HYH.out pre ((s.drop j).take (k - j)) wr hj (by omega) (by rw [List.length_take, List.length_drop]; omega)
          have hy : (Instr.yield l #[.string ⟨((s.drop j).take (k - j)).toArray⟩]).run Tryz.prog wr = .ok (.round l fn tmps assign body) wr := hy0
          have HR : Hid _ := hR
          clear hy0 hR
          gi_wp2
          refine RoundIn.mono HR.out ?_
          rintro e W3 (⟨rfl, hJ3⟩ | ⟨ch, rfl, hp⟩)
          · clear hy
            gi_wp2
            refine ⟨⟨k + 1, by omega, by go_num, ?_, ?_⟩, by simp [intOf] <;> omega⟩
            · rw [HSU.out]
            · rw [HSU.out]; exact hJ3
          · gi_wp2
            exact ⟨rfl, .inr ⟨ch, rfl, hp⟩⟩
    · obtain rfl : k = s.length := by omega
      have HE : Hid (fsEnd s = if 0 ≤ (fsAt s s.length).2 then (fsAt s s.length).1 ++ [s.drop (fsAt s s.length).2.toNat] else (fsAt s s.length).1) := rfl
      obtain ⟨q, hq⟩ : ∃ q, fsAt s s.length = q := ⟨_, rfl⟩
      rw [hq] at hst hle hj HE ⊢
      obtain ⟨pre, stt⟩ := q
      simp only at hst hle hj HE ⊢
      clear hca hq
      rcases hst with rfl | ⟨j, rfl, hjk⟩
      · gi_wp2
        go_end0
        refine .inl ⟨_, rfl, ?_⟩
        rw [HE.out, if_neg (by omega)]; exact hj
      · have hj0 : (0 : Int) ≤ (j : Int) := by omega
        obtain ⟨fn, tmps, assign, body, hy0, hR⟩ := HYH.out pre (s.drop j) wr hj (by omega) (by rw [List.length_drop]; omega)
        have hy : (Instr.yield l #[.string ⟨(s.drop j).toArray⟩]).run Tryz.prog wr = .ok (.round l fn tmps assign body) wr := hy0
        have HR : Hid _ := hR
        clear hy0 hR
        have et : List.take (s.length - j) (List.drop j s) = s.drop j := List.take_of_length_le (by rw [List.length_drop]; exact Nat.le_refl _)
        gi_wp2
        refine RoundIn.mono HR.out ?_
        rintro e W3 (⟨rfl, hJ3⟩ | ⟨ch, rfl, hp⟩)
        · clear hy
          gi_wp2
          go_end0
          refine .inl ⟨_, rfl, ?_⟩
          rw [HE.out, if_pos hj0]; exact hJ3
        · gi_wp2
          exact ⟨rfl, .inr ⟨ch, rfl, hp⟩⟩
set_option maxRecDepth 100000 in
theorem wpB_fields {bf : FuncId} {fnb : Func} {Q : Exit → Act → World → Prop} {a : Act} {w : World} {g : Operand} {ps : Array Tmp} {assign body : Code} (Bs : Nat) (s : Bg.Str) (J : List Bg.Str → World → Prop) (Jp : List PanicEntry → World → Prop)
    (hfn : Tryz.prog.funcs[bf]? = some fnb) (hg : a.eval g = .func (.func 91) #[] #[.pointer (some ⟨Bs, 0, none⟩)]) (hps : ps.size = 1) (hs : s.length ≤ 90000) (hasc : ∀ c ∈ s, c.toNat < 128)
    (hJd : ∀ pre A n, J pre A → J pre (A.drewN n))
    (hJ0 : ∀ pre A, J pre A → A.cell? ⟨Bs, 0, none⟩ = some (.string ⟨s.toArray⟩) ∧ ∀ c : UInt8, c.toNat < 128 → A.cell? ⟨1, c.toNat, none⟩ = some (.int .u8 (if isSp c then 1 else 0)))
    (hJ00 : J [] (rangeW w bf a.tmps ps assign body))
    (hround : ∀ pre x A rb A2, J pre A → pre.length ≤ s.length → x.length ≤ s.length → OffL (w.heap.size + 1) A A2 → A2.heap[w.heap.size + 1]? = some (.loop rb) → A2.heap[w.heap.size]? = some (.deferred (some [])) →
      assign.wpIn (Fence.wide.inRound (w.heap.size + 1)) 2 Tryz.prog (Exit.then (fun a₁ w₁ => w₁ = A ∧ body.wpIn (Fence.wide.inRound (w.heap.size + 1)) 2 Tryz.prog
        (bodyQ (w.heap.size + 1) w.heap.size rb (fun A' => J (pre ++ [x]) A') Jp) a₁ A2) (fun _ _ _ => False))
        { tmps := (ps.zip #[strV x]).foldl (fun tmps (t, a) => tmps.setIfInBounds t a) a.tmps, defers := [] } A)
    (hdone : ∀ A A2, J (fsEnd s) A → OffL (w.heap.size + 1) A A2 → A2.heap[w.heap.size]? = some (.deferred (some [])) →
      Q .normal { a with defers := { target := .collected w.heap.size, args := #[] } :: a.defers } A2)
    (hpan : ∀ ch A, Jp ch A → Q (.panic ch) { a with defers := { target := .collected w.heap.size, args := #[] } :: a.defers } A) :
    wpB bf Tryz.prog (Code.rangeFunc g ps assign body) Q a w := by
  refine wpB_range (gf := 91) hg (fun _ _ => rfl) ?_
  refine Calls.mono ((callsIn_wide (n := 3)).1 (fields_iter (w.heap.size + 1) Bs s (rangeW w bf a.tmps ps assign body) hs hasc
    (fun k A => J k A ∧ A.heap[w.heap.size + 1]? = some (.loop (recOf bf a.tmps ps assign body w.heap.size .ready)) ∧ A.heap[w.heap.size]? = some (.deferred (some []))) Jp ?_ ?_ ?_ ?_)) ?_
  · rintro k A n ⟨h1, h2, h3⟩
    exact ⟨hJd k A n h1, by rw [heap_drewN]; exact h2, by rw [heap_drewN]; exact h3⟩
  · rintro pre A ⟨h1, _, _⟩
    exact hJ0 pre A h1
  · rintro pre x A ⟨hj, hL, hD⟩ hpl hxl
    have hy := yield_body (P := Tryz.prog) (n := 2) (l := w.heap.size + 1) (D := w.heap.size) (args := #[strV x]) hL hD (by omega) (by show 1 = ps.size; omega) rfl rfl hfn (fun rb A2 h1 h2 h3 => hround pre x A rb A2 hj hpl hxl h1 h2 h3)
    obtain ⟨fn, tmps, asg, bd, hyr, hR⟩ := hy
    refine ⟨fn, tmps, asg, bd, hyr, RoundIn.mono hR ?_⟩
    rintro e W' (⟨rfl, h1, h4, h5⟩ | h)
    · exact .inl ⟨rfl, h1, h4, h5⟩
    · exact .inr h
  · exact ⟨hJ00, rangeW_rec .., rangeW_def ..⟩
  · rintro e W' (⟨v, rfl, hj, hL, hD⟩ | ⟨ch, rfl, hp⟩)
    · exact ⟨hL, hdone W' _ hj (OffL.put ..) ((World.putObj_heap_other (by omega)).trans hD)⟩
    · exact hpan ch W' hp
end Go.Proofs.YtfkdfplnhlnnoaaGreatDoor
end
section
namespace Go.Proofs.YtfkdfplnhlnnoaaGreatDoor
open Go.RowKit
set_option linter.unusedSimpArgs false
set_option linter.unusedVariables false
theorem size_putObj (w : World) (r : Nat) (o : Obj) : (w.putObj r o).heap.size = w.heap.size := by simp [World.putObj]
theorem cell_two (w : World) (a b : Value) (ty : TypeId) : ∀ j u, [a, b][j]? = some u → (w.alloc (.cells #[a, b] ty)).cell? ((⟨w.heap.size, 0, none⟩ : Addr).add j) = some u := by
  intro j u h
  match j with
  | 0 => simp at h; subst h; simp [Addr.add]
  | 1 => simp at h; subst h; simp [Addr.add]
  | n + 2 => simp at h
theorem push_at {h : Array Obj} {o : Obj} {i : Nat} (e : i = h.size) : (h.push o)[i]? = some o := by subst e; simp
theorem push_lo {h : Array Obj} {o : Obj} {i : Nat} (hi : i < h.size) : (h.push o)[i]? = h[i]? := by rw [Array.getElem?_push, if_neg (by omega)]
/-- what may change below B: the reader and its map alone -/
structure Near (B R M : Nat) (w w' : World) : Prop where
  os : w'.os = w.os
  tape : w'.tape = w.tape
  output : w'.output = w.output
  size : w.heap.size ≤ w'.heap.size
  block : ∀ b, b < B → b ≠ R → b ≠ M → w'.heap[b]? = w.heap[b]?
theorem Near.of_below {B R M : Nat} {w w' : World} (h : Below B w w') : Near B R M w w' := ⟨h.os, h.tape, h.output, h.size, fun b hb _ _ => h.block b hb⟩
theorem Near.trans {B R M : Nat} {w w' w'' : World} (h : Near B R M w w') (h' : Near B R M w' w'') : Near B R M w w'' :=
  ⟨h'.os.trans h.os, h'.tape.trans h.tape, h'.output.trans h.output, Nat.le_trans h.size h'.size, fun b h1 h2 h3 => (h'.block b h1 h2 h3).trans (h.block b h1 h2 h3)⟩
/-- the loop over a table's columns: what lies in memory behind k of them (N: the heap's size at table's start) -/
structure TLoop (N R g o cap : Nat) (kws : List Bg.Str) (l : List Bg.Str) (k : Nat) (W A : World) : Prop where
  low : Below N W A
  bR : A.heap[N]? = some (.cells #[.pointer (some ⟨R, 0, none⟩)] 103 (0, 0))
  bT : A.heap[N + 3]? = some (.cells #[.pointer (some ⟨N + 2, 0, none⟩)] 106 (0, 0))
  bF : A.heap[N + 4]? = some (.cells #[.slice (some ⟨g, o + 1, none⟩) l.length (cap - 1)] 40 (0, 0))
  b2 : A.heap[N + 5]? = some (.cells #[.int .i64 2] 3 (0, 0))
  sz : N + 8 ≤ A.heap.size
  pl : keyset A (N + 1) k (((pairsOf l).take k).map (·.1))
  pv : valset A (N + 1) k (placesOf (((pairsOf l).take k).map (·.1)))
  tb : ∃ cv, A.heap[N + 2]? = some (.cells #[cv, .map (some (N + 1)), .slice none 0 0] 189 (0, 0)) ∧ A.ownsRow (N + 8) 195 2 cv k (colCells (colsOf ((pairsOf l).take k)))
  ok : ((pairsOf l).take k).all (pairOk kws) = true
section
variable {N R g o cap : Nat} {kws : List Bg.Str} {l : List Bg.Str} {k : Nat} {W A A' : World}
theorem TLoop.same (h : TLoop N R g o cap kws l k W A) (hs : A.heap.size ≤ A'.heap.size) (h1 : A'.os = A.os) (h2 : A'.tape = A.tape) (h3 : A'.output = A.output) (hb : ∀ b, b < A.heap.size → b ≠ N + 7 → A'.heap[b]? = A.heap[b]?) : TLoop N R g o cap kws l k W A' := by
  obtain ⟨cv, t1, t2⟩ := h.tb
  have hsz := h.sz
  have lo : ∀ b, b < N + 7 → A'.heap[b]? = A.heap[b]? := fun b hb' => hb b (by omega) (by omega)
  refine ⟨⟨h1.trans h.low.os, h2.trans h.low.tape, h3.trans h.low.output, Nat.le_trans h.low.size hs, fun b hb' => (lo b (by omega)).trans (h.low.block b hb')⟩,
    (lo _ (by omega)).trans h.bR, (lo _ (by omega)).trans h.bT, (lo _ (by omega)).trans h.bF, (lo _ (by omega)).trans h.b2, Nat.le_trans hsz hs, keyset_block h.pl (lo _ (by omega)), valset_block h.pv (lo _ (by omega)), ⟨cv, (lo _ (by omega)).trans t1, ?_⟩, h.ok⟩
  refine ⟨t2.1, ?_⟩
  rcases t2.2 with h0 | ⟨g, cap, cu, rfl, hg, hh, r⟩
  · exact .inl h0
  · exact .inr ⟨g, cap, cu, rfl, hg, (hb g (Array.getElem?_eq_some_iff.1 hh).1 (by omega)).trans hh, r⟩
theorem TLoop.put (h : TLoop N R g o cap kws l k W A) (ob : Obj) : TLoop N R g o cap kws l k W (A.putObj (N + 7) ob) :=
  h.same (by rw [size_putObj]; exact Nat.le_refl _) rfl rfl rfl (fun b _ hb => World.putObj_heap_other hb)
theorem TLoop.grow (h : TLoop N R g o cap kws l k W A) (hB : Below A.heap.size A A') : TLoop N R g o cap kws l k W A' :=
  h.same hB.size hB.os hB.tape hB.output (fun b hb _ => hB.block b hb)
theorem TLoop.drewN (h : TLoop N R g o cap kws l k W A) (n : Nat) : TLoop N R g o cap kws l k W (A.drewN n) :=
  h.grow (below_dr (Below.refl _ _) n)
end
end Go.Proofs.YtfkdfplnhlnnoaaGreatDoor
end
section
namespace Go.Proofs.YtfkdfplnhlnnoaaGreatDoor
open Go.RowKit Go.Shelf
set_option linter.unusedSimpArgs false
set_option linter.unusedVariables false
attribute [local go_sem] Oper.semAt_some
/-- package strings' table of blanks, as it is laid -/
def Spaces (w : World) : Prop := 1 < w.heap.size ∧ ∀ c : UInt8, c.toNat < 128 → w.cell? ⟨1, c.toNat, none⟩ = some (.int .u8 (if isSp c then 1 else 0))
/-- the loop over the keywords -/
structure KLoop (N : Nat) (pre : List Bg.Str) (W A : World) : Prop where
  low : Below N W A
  b1 : A.heap[N + 1]? = some (.cells #[.map (some N)] 104 (0, 0))
  b2 : A.heap[N + 2]? = some (.cells #[.string ⟨kwText.toArray⟩] 9 (0, 0))
  sz : N + 5 ≤ A.heap.size
  ks : keyset A N pre.length pre
theorem KLoop.same {N : Nat} {pre : List Bg.Str} {W A A' : World} (h : KLoop N pre W A) (hs : A.heap.size ≤ A'.heap.size) (h1 : A'.os = A.os) (h2 : A'.tape = A.tape) (h3 : A'.output = A.output) (hb : ∀ b, b < N + 4 → A'.heap[b]? = A.heap[b]?) : KLoop N pre W A' :=
  ⟨⟨h1.trans h.low.os, h2.trans h.low.tape, h3.trans h.low.output, Nat.le_trans h.low.size hs, fun b hb' => (hb b (by omega)).trans (h.low.block b hb')⟩, (hb _ (by omega)).trans h.b1, (hb _ (by omega)).trans h.b2, Nat.le_trans h.sz hs, keyset_block h.ks (hb _ (by omega))⟩
theorem three_get (h : Array Obj) (o0 o1 o2 : Obj) : (((h.push o0).push o1).push o2)[h.size]? = some o0 ∧ (((h.push o0).push o1).push o2)[h.size + 1]? = some o1 ∧ (((h.push o0).push o1).push o2)[h.size + 2]? = some o2 := by
  refine ⟨?_, ?_, ?_⟩
  · rw [push_lo (by simp only [Array.size_push]; omega), push_lo (by simp only [Array.size_push]; omega), push_at (by simp only [Array.size_push])]
  · rw [push_lo (by simp only [Array.size_push]; omega), push_at (by simp only [Array.size_push])]
  · rw [push_at (by simp only [Array.size_push])]
end Go.Proofs.YtfkdfplnhlnnoaaGreatDoor
end
section
namespace Go.Proofs.YtfkdfplnhlnnoaaGreatDoor
open Go.RowKit Go.Shelf
set_option linter.unusedSimpArgs false
set_option linter.unusedVariables false
attribute [local go_sem] Oper.semAt_some
/-- a keyword's kind: Fixed -/
def kwElem : Value → Option (DataW Unit × List MemPlace)
  | .int .i64 1 => some (.agg [], [])
  | .int .i64 0 => some (.lit (.bool false), [])
  | _ => none
def keyset1 (w : World) (b n : Nat) (ks : List Bg.Str) : Prop := w.ownsMap Tryz.prog 9 kwElem b n (keyD ks)
theorem keyset1_block {w w' : World} {b n : Nat} {ks : List Bg.Str} (h : keyset1 w b n ks) (hB : w'.heap[b]? = w.heap[b]?) : keyset1 w' b n ks := by
  obtain ⟨es, clock, hb, r⟩ := h
  exact ⟨es, clock, hB.trans hb, r⟩
theorem put_isMap {D : DataW Unit} (h : Maps.IsMap D) (k : Lit) (d : DataW Unit) : Maps.IsMap (D.put k d) := by
  obtain ⟨es, rfl⟩ := h; exact ⟨_, rfl⟩
theorem atKey_fold (u z : DataW Unit) (k : Lit) (hk : WideAt.IsKeyLit k) : ∀ (acc : List Lit) (m : DataW Unit), Maps.IsMap m → k ∈ acc ∨ m.atKey k z = u → (acc.foldl (fun m x => m.put x u) m).atKey k z = u
  | [], m, _, h => by
    rcases h with h | h
    · cases h
    · exact h
  | x :: r, m, hm, h => by
    rw [List.foldl_cons]
    refine atKey_fold u z k hk r _ (put_isMap hm x u) ?_
    by_cases hx : k = x
    · subst hx; exact .inr (Maps.atKey_put_same hm hk u z)
    · rcases h with h | h
      · rcases List.mem_cons.1 h with h | h
        · exact absurd h hx
        · exact .inl h
      · exact .inr ((Maps.atKey_put_other hx u z).trans h)
theorem look_kind1 {w : World} {Kb n : Nat} {ks : List Bg.Str} (h : keyset1 w Kb n ks) (s : Bg.Str) (hs : s.length ≤ 100000) :
    ∃ v, (Instr.lookup 104 (.map (some Kb)) (.string ⟨s.toArray⟩) true).run Tryz.prog w = .ok (.tuple #[v, .bool (ks.contains s)]) w ∧ (ks.contains s = true → v = .int .i64 1) := by
  obtain ⟨v, ps, hrun, hv⟩ := World.ownsMap.look_ok (R := kwElem) (D := keyD ks) h strKeyed Tryz.underlying104 (zeroKind w) rfl (strKey s hs)
  rw [has_keys] at hrun
  refine ⟨v, hrun, fun hc => ?_⟩
  unfold keyD Maps.setOf at hv
  rw [atKey_fold (.agg []) _ (keyL s) (show WideAt.IsKeyLit (keyL s) from trivial) _ _ ⟨[], rfl⟩ (.inl (List.mem_map.2 ⟨s, by simpa using hc, rfl⟩))] at hv
  unfold kwElem at hv
  split at hv
  · rfl
  · cases hv
  · cases hv
/-- the loop over the keywords -/
structure KLoop1 (N : Nat) (pre : List Bg.Str) (W A : World) : Prop where
  low : Below N W A
  b1 : A.heap[N + 1]? = some (.cells #[.map (some N)] 104 (0, 0))
  b2 : A.heap[N + 2]? = some (.cells #[.string ⟨kwText.toArray⟩] 9 (0, 0))
  sz : N + 5 ≤ A.heap.size
  ks : keyset1 A N pre.length pre
theorem KLoop1.same {N : Nat} {pre : List Bg.Str} {W A A' : World} (h : KLoop1 N pre W A) (hs : A.heap.size ≤ A'.heap.size) (h1 : A'.os = A.os) (h2 : A'.tape = A.tape) (h3 : A'.output = A.output) (hb : ∀ b, b < N + 4 → A'.heap[b]? = A.heap[b]?) : KLoop1 N pre W A' :=
  ⟨⟨h1.trans h.low.os, h2.trans h.low.tape, h3.trans h.low.output, Nat.le_trans h.low.size hs, fun b hb' => (hb b (by omega)).trans (h.low.block b hb')⟩, (hb _ (by omega)).trans h.b1, (hb _ (by omega)).trans h.b2, Nat.le_trans h.sz hs, keyset1_block h.ks (hb _ (by omega))⟩
set_option maxRecDepth 100000 in
set_option maxHeartbeats 1000000 in
theorem w_keywords1 (W : World) (hS : Spaces W) :
    Calls Tryz.prog 45 #[] W fun e W' => e = .returned (.map (some W.heap.size)) ∧ keyset1 W' W.heap.size 100 kwsAll ∧ Below W.heap.size W W' ∧ W.heap.size < W'.heap.size := by
  have hmm := @run_makeMap Tryz.prog
  have hmf : ∀ (fn : Fn) (first cap : Array Value) (w : World), (Instr.makeFunc fn first cap).run Tryz.prog w = .ok (.func fn first cap) w := fun _ _ _ _ => rfl
  refine calls_of_wpB Tryz.func45 rfl ?_
  simp only [Tryz.ntmps45, List.size_toArray, List.length_cons, List.length_nil, Nat.reduceAdd, Nat.reduceSub, Array.replicate_succ, Array.replicate_zero, List.push_toArray, List.append_toArray, List.nil_append, List.cons_append]
  refine wpB_seq (wpB_wp ?_)
  go_wp2
  refine wpB_seq (wpB_wp ?_)
  go_wp2
  refine wpB_seq (wpB_seq (wpB_wp ?_))
  go_wp2
  refine wpB_block ?_
  change wpB _ _ _ _ _ (((W.alloc (.map #[] 0)).alloc (.cells #[.map (some W.heap.size)] 104)).alloc (.cells #[.string ⟨kwText.toArray⟩] 9))
  obtain ⟨w3, hw3⟩ : ∃ w3, ((W.alloc (.map #[] 0)).alloc (.cells #[.map (some W.heap.size)] 104)).alloc (.cells #[.string ⟨kwText.toArray⟩] 9) = w3 := ⟨_, rfl⟩
  rw [hw3]
  have hs3 : w3.heap.size = W.heap.size + 3 := by rw [← hw3]; simp
  have hB3 : Below W.heap.size W w3 := by
    rw [← hw3]
    exact (((Below.refl _ W).alloc (Nat.le_refl _) _).alloc (by simp) _).alloc (by simp; omega) _
  have k0 : w3.heap[W.heap.size]? = some (.map #[] 0) := by rw [← hw3]; exact (three_get W.heap _ _ _).1
  have k1 : w3.heap[W.heap.size + 1]? = some (.cells #[.map (some W.heap.size)] 104 (0, 0)) := by rw [← hw3]; exact (three_get W.heap _ _ _).2.1
  have k2 : w3.heap[W.heap.size + 2]? = some (.cells #[.string ⟨kwText.toArray⟩] 9 (0, 0)) := by rw [← hw3]; exact (three_get W.heap _ _ _).2.2
  clear hw3
  refine wpB_fields (W.heap.size + 2) kwText (fun pre A => KLoop1 W.heap.size pre W A) (fun _ _ => False) Tryz.func45 rfl rfl (by decide) kw_asc ?_ ?_ ?_ ?_ ?_ (fun _ _ h => h.elim)
  · intro pre A n h
    have hd := below_dr (Below.refl A.heap.size A) n
    exact h.same hd.size hd.os hd.tape hd.output (fun b _ => by rw [heap_drewN])
  · intro pre A h
    refine ⟨by simp [World.cell?, h.b2], fun c hc => ?_⟩
    exact (h.low.cell (p := ⟨1, c.toNat, none⟩) hS.1).trans (hS.2 c hc)
  · have lo : ∀ b, b < W.heap.size + 3 → ∀ (tmps : Array Value) (ps : Array Tmp) (asg bd : Code), (rangeW w3 45 tmps ps asg bd).heap[b]? = w3.heap[b]? := fun b hb _ _ _ _ => rangeW_low (by omega)
    refine ⟨⟨hB3.os, hB3.tape, hB3.output, ?_, fun b hb => (lo _ (by omega) ..).trans (hB3.block b hb)⟩, (lo _ (by omega) ..).trans k1, (lo _ (by omega) ..).trans k2, ?_, ?_⟩
    · simp [rangeW]; omega
    · simp [rangeW]; omega
    · refine keyset1_block (w := w3) ?_ (lo _ (by omega) ..)
      exact ⟨#[], 0, k0, ⟨by simp, MapKept.stamped_empty 0, by simp⟩, Nat.le_refl _, rfl⟩
  · intro pre x A rb A2 hT hpl hxl hOff hL hD
    rw [hs3] at hOff hL hD
    have hkl : kwText.length ≤ 200 := by decide
    have hT2 : KLoop1 W.heap.size pre W A2 := hT.same (Nat.le_of_eq hOff.size.symm) hOff.os hOff.tape hOff.output (fun b hb => hOff.block b (by omega))
    obtain ⟨w8, hr8, ho8, hg8⟩ := World.ownsMap.update (w := A2) (val := .int .i64 1) hT2.ks strKeyed Tryz.underlying104 (by unfold maxLen; omega) (strKey x (by omega)) rfl
    have hr8s : (Instr.mapUpdate 104 (.map (some W.heap.size)) (strV x) (.int .i64 1)).run Tryz.prog A2 = .ok () w8 := hr8
    have p1 : A2.cell? ⟨W.heap.size + 1, 0, none⟩ = some (.map (some W.heap.size)) := by simp [World.cell?, hT2.b1]
    have lo8 : ∀ b, b < A2.heap.size → b ≠ W.heap.size → w8.heap[b]? = A2.heap[b]? := fun b hb hne => hg8.block b hb (fun e => hne (Option.some.inj e))
    have hs2 := hT2.sz
    have HT8 : Hid (KLoop1 W.heap.size (pre ++ [x]) W w8) := by
      refine ⟨hT2.low.grown hg8 (by omega) (fun b e => by have := Option.some.inj e; omega), (lo8 _ (by omega) (by omega)).trans hT2.b1, (lo8 _ (by omega) (by omega)).trans hT2.b2, Nat.le_trans hs2 hg8.size, ?_⟩
      rw [put_keys] at ho8
      rw [List.length_append]
      exact ho8
    have HL8 : Hid (w8.heap[W.heap.size + 4]? = some (.loop rb)) := (lo8 _ (by omega) (by omega)).trans hL
    have HD8 : Hid (w8.heap[W.heap.size + 3]? = some (.deferred (some []))) := (lo8 _ (by omega) (by omega)).trans hD
    clear hT hT2 hOff hL hD ho8 hg8 lo8 k0 k1 k2
    refine round_list rfl (by rintro ⟨_, _, h⟩; exact h) ?_
    go_wp2
    try refine ⟨trivial, ?_⟩
    refine wpIn_block ?_
    refine round_list rfl (by rintro ⟨_, _, h⟩; exact h) ?_
    go_wp2
    have y1 := HL8.out
    have y2 := HD8.out
    refine ⟨by first | exact y1 | (rw [hs3]; exact y1), by first | exact y2 | (rw [hs3]; exact y2), fun A' hO => ?_⟩
    exact HT8.out.same (Nat.le_of_eq hO.size.symm) hO.os hO.tape hO.output (fun b hb => hO.block b (by first | omega | (rw [hs3]; omega)))
  · intro A A2 hT hOff hD
    rw [hs3] at hOff hD
    rw [fsEnd_kw] at hT
    have hT2 : KLoop1 W.heap.size kwsAll W A2 := hT.same (Nat.le_of_eq hOff.size.symm) hOff.os hOff.tape hOff.output (fun b hb => hOff.block b (by omega))
    have p1 : A2.cell? ⟨W.heap.size + 1, 0, none⟩ = some (.map (some W.heap.size)) := by simp [World.cell?, hT2.b1]
    have HT2 : Hid (KLoop1 W.heap.size kwsAll W A2) := hT2
    have HD2 : Hid (A2.heap[W.heap.size + 3]? = some (.deferred (some []))) := hD
    clear hT hT2 hOff hD k0 k1 k2
    refine wpB_wp ?_
    go_wp2
    have hlow := HT2.out.low
    have hsz := HT2.out.sz
    refine leave_ret (v := .map (some W.heap.size)) HD2.out (by simp [results, Tryz.results45]) ⟨rfl, ?_, ?_, ?_⟩
    · exact keyset1_block (HT2.out.ks.mono (by decide)) (World.putObj_heap_other (by omega))
    · exact ⟨hlow.os, hlow.tape, hlow.output, by rw [size_putObj]; exact hlow.size, fun b hb => (World.putObj_heap_other (by omega)).trans (hlow.block b hb)⟩
    · rw [size_putObj]; omega
end Go.Proofs.YtfkdfplnhlnnoaaGreatDoor
end
