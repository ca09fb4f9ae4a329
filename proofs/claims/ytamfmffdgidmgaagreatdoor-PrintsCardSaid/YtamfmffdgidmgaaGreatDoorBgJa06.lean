import Derived.Test.YtamfmffdgidmgaaGreatDoorBgJa05
section
namespace Go.Proofs.YtamfmffdgidmgaaGreatDoor
open Go.RowKit
set_option linter.unusedSimpArgs false
set_option linter.unusedVariables false
theorem size_putObj (w : World) (r : Nat) (o : Obj) : (w.putObj r o).heap.size = w.heap.size := by simp [World.putObj]
theorem cell_two (w : World) (a b : Value) (ty : TypeId) : ∀ j u, [a, b][j]? = some u → (w.alloc (.cells #[a, b] ty)).cell? ((⟨w.heap.size, 0, none⟩ : Addr).add j) = some u := by
  intro j u h
  match j with
  | 0 => simp at h; subst h; simp [Addr.add]
  | 1 => simp at h; subst h; simp [Addr.add]
  | n + 2 => simp at h
theorem push_at {h : Array Obj} {o : Obj} {i : Nat} (e : i = h.size) : (h.push o)[i]? = some o := by subst e; simp
theorem push_lo {h : Array Obj} {o : Obj} {i : Nat} (hi : i < h.size) : (h.push o)[i]? = h[i]? := by rw [Array.getElem?_push, if_neg (by omega)]
/-- what may change below B: the reader and its map alone -/
structure Near (B R M : Nat) (w w' : World) : Prop where
  os : w'.os = w.os
  tape : w'.tape = w.tape
  output : w'.output = w.output
  size : w.heap.size ≤ w'.heap.size
  block : ∀ b, b < B → b ≠ R → b ≠ M → w'.heap[b]? = w.heap[b]?
theorem Near.of_below {B R M : Nat} {w w' : World} (h : Below B w w') : Near B R M w w' := ⟨h.os, h.tape, h.output, h.size, fun b hb _ _ => h.block b hb⟩
theorem Near.trans {B R M : Nat} {w w' w'' : World} (h : Near B R M w w') (h' : Near B R M w' w'') : Near B R M w w'' :=
  ⟨h'.os.trans h.os, h'.tape.trans h.tape, h'.output.trans h.output, Nat.le_trans h.size h'.size, fun b h1 h2 h3 => (h'.block b h1 h2 h3).trans (h.block b h1 h2 h3)⟩
/-- the loop over a table's columns: what lies in memory behind k of them (N: the heap's size at table's start) -/
structure TLoop (N R g o cap : Nat) (kws : List Bg.Str) (l : List Bg.Str) (k : Nat) (W A : World) : Prop where
  low : Below N W A
  bR : A.heap[N]? = some (.cells #[.pointer (some ⟨R, 0, none⟩)] 127 (0, 0))
  bT : A.heap[N + 3]? = some (.cells #[.pointer (some ⟨N + 2, 0, none⟩)] 130 (0, 0))
  bF : A.heap[N + 4]? = some (.cells #[.slice (some ⟨g, o + 1, none⟩) l.length (cap - 1)] 44 (0, 0))
  b2 : A.heap[N + 5]? = some (.cells #[.int .i64 2] 3 (0, 0))
  sz : N + 8 ≤ A.heap.size
  pl : keyset A (N + 1) k (((pairsOf l).take k).map (·.1))
  tb : ∃ cv, A.heap[N + 2]? = some (.cells #[cv, .map (some (N + 1)), .slice none 0 0] 256 (0, 0)) ∧ A.ownsRow (N + 8) 262 2 cv k (colCells (colsOf ((pairsOf l).take k)))
  ok : ((pairsOf l).take k).all (pairOk kws) = true
section
variable {N R g o cap : Nat} {kws : List Bg.Str} {l : List Bg.Str} {k : Nat} {W A A' : World}
theorem TLoop.same (h : TLoop N R g o cap kws l k W A) (hs : A.heap.size ≤ A'.heap.size) (h1 : A'.os = A.os) (h2 : A'.tape = A.tape) (h3 : A'.output = A.output) (hb : ∀ b, b < A.heap.size → b ≠ N + 7 → A'.heap[b]? = A.heap[b]?) : TLoop N R g o cap kws l k W A' := by
  obtain ⟨cv, t1, t2⟩ := h.tb
  have hsz := h.sz
  have lo : ∀ b, b < N + 7 → A'.heap[b]? = A.heap[b]? := fun b hb' => hb b (by omega) (by omega)
  refine ⟨⟨h1.trans h.low.os, h2.trans h.low.tape, h3.trans h.low.output, Nat.le_trans h.low.size hs, fun b hb' => (lo b (by omega)).trans (h.low.block b hb')⟩,
    (lo _ (by omega)).trans h.bR, (lo _ (by omega)).trans h.bT, (lo _ (by omega)).trans h.bF, (lo _ (by omega)).trans h.b2, Nat.le_trans hsz hs, keyset_block h.pl (lo _ (by omega)), ⟨cv, (lo _ (by omega)).trans t1, ?_⟩, h.ok⟩
  refine ⟨t2.1, ?_⟩
  rcases t2.2 with h0 | ⟨g, cap, cu, rfl, hg, hh, r⟩
  · exact .inl h0
  · exact .inr ⟨g, cap, cu, rfl, hg, (hb g (Array.getElem?_eq_some_iff.1 hh).1 (by omega)).trans hh, r⟩
theorem TLoop.put (h : TLoop N R g o cap kws l k W A) (ob : Obj) : TLoop N R g o cap kws l k W (A.putObj (N + 7) ob) :=
  h.same (by rw [size_putObj]; exact Nat.le_refl _) rfl rfl rfl (fun b _ hb => World.putObj_heap_other hb)
theorem TLoop.grow (h : TLoop N R g o cap kws l k W A) (hB : Below A.heap.size A A') : TLoop N R g o cap kws l k W A' :=
  h.same hB.size hB.os hB.tape hB.output (fun b hb _ => hB.block b hb)
theorem TLoop.drewN (h : TLoop N R g o cap kws l k W A) (n : Nat) : TLoop N R g o cap kws l k W (A.drewN n) :=
  h.grow (below_dr (Below.refl _ _) n)
end
end Go.Proofs.YtamfmffdgidmgaaGreatDoor
end
section
namespace Go.Proofs.YtamfmffdgidmgaaGreatDoor
open Go.RowKit Go.Shelf
set_option linter.unusedSimpArgs false
set_option linter.unusedVariables false
attribute [local go_sem] Oper.semAt_some
/-- package strings' table of blanks, as it is laid -/
def Spaces (w : World) : Prop := 1 < w.heap.size ∧ ∀ c : UInt8, c.toNat < 128 → w.cell? ⟨1, c.toNat, none⟩ = some (.int .u8 (if isSp c then 1 else 0))
/-- the loop over the keywords -/
structure KLoop (N : Nat) (pre : List Bg.Str) (W A : World) : Prop where
  low : Below N W A
  b1 : A.heap[N + 1]? = some (.cells #[.map (some N)] 128 (0, 0))
  b2 : A.heap[N + 2]? = some (.cells #[.string ⟨kwText.toArray⟩] 9 (0, 0))
  sz : N + 5 ≤ A.heap.size
  ks : keyset A N pre.length pre
theorem KLoop.same {N : Nat} {pre : List Bg.Str} {W A A' : World} (h : KLoop N pre W A) (hs : A.heap.size ≤ A'.heap.size) (h1 : A'.os = A.os) (h2 : A'.tape = A.tape) (h3 : A'.output = A.output) (hb : ∀ b, b < N + 4 → A'.heap[b]? = A.heap[b]?) : KLoop N pre W A' :=
  ⟨⟨h1.trans h.low.os, h2.trans h.low.tape, h3.trans h.low.output, Nat.le_trans h.low.size hs, fun b hb' => (hb b (by omega)).trans (h.low.block b hb')⟩, (hb _ (by omega)).trans h.b1, (hb _ (by omega)).trans h.b2, Nat.le_trans h.sz hs, keyset_block h.ks (hb _ (by omega))⟩
theorem three_get (h : Array Obj) (o0 o1 o2 : Obj) : (((h.push o0).push o1).push o2)[h.size]? = some o0 ∧ (((h.push o0).push o1).push o2)[h.size + 1]? = some o1 ∧ (((h.push o0).push o1).push o2)[h.size + 2]? = some o2 := by
  refine ⟨?_, ?_, ?_⟩
  · rw [push_lo (by simp only [Array.size_push]; omega), push_lo (by simp only [Array.size_push]; omega), push_at (by simp only [Array.size_push])]
  · rw [push_lo (by simp only [Array.size_push]; omega), push_at (by simp only [Array.size_push])]
  · rw [push_at (by simp only [Array.size_push])]
end Go.Proofs.YtamfmffdgidmgaaGreatDoor
end
section
namespace Go.Proofs.YtamfmffdgidmgaaGreatDoor
open Go.RowKit Go.Shelf
set_option linter.unusedSimpArgs false
set_option linter.unusedVariables false
attribute [local go_sem] Oper.semAt_some
/-- a keyword's kind: Fixed -/
def kwElem : Value → Option (DataW Unit × List MemPlace)
  | .int .i64 1 => some (.agg [], [])
  | .int .i64 0 => some (.lit (.bool false), [])
  | _ => none
def keyset1 (w : World) (b n : Nat) (ks : List Bg.Str) : Prop := w.ownsMap Tryz.prog 9 kwElem b n (keyD ks)
theorem keyset1_block {w w' : World} {b n : Nat} {ks : List Bg.Str} (h : keyset1 w b n ks) (hB : w'.heap[b]? = w.heap[b]?) : keyset1 w' b n ks := by
  obtain ⟨es, clock, hb, r⟩ := h
  exact ⟨es, clock, hB.trans hb, r⟩
theorem put_isMap {D : DataW Unit} (h : Maps.IsMap D) (k : Lit) (d : DataW Unit) : Maps.IsMap (D.put k d) := by
  obtain ⟨es, rfl⟩ := h; exact ⟨_, rfl⟩
theorem atKey_fold (u z : DataW Unit) (k : Lit) (hk : WideAt.IsKeyLit k) : ∀ (acc : List Lit) (m : DataW Unit), Maps.IsMap m → k ∈ acc ∨ m.atKey k z = u → (acc.foldl (fun m x => m.put x u) m).atKey k z = u
  | [], m, _, h => by
    rcases h with h | h
    · cases h
    · exact h
  | x :: r, m, hm, h => by
    rw [List.foldl_cons]
    refine atKey_fold u z k hk r _ (put_isMap hm x u) ?_
    by_cases hx : k = x
    · subst hx; exact .inr (Maps.atKey_put_same hm hk u z)
    · rcases h with h | h
      · rcases List.mem_cons.1 h with h | h
        · exact absurd h hx
        · exact .inl h
      · exact .inr ((Maps.atKey_put_other hx u z).trans h)
theorem look_kind1 {w : World} {Kb n : Nat} {ks : List Bg.Str} (h : keyset1 w Kb n ks) (s : Bg.Str) (hs : s.length ≤ 100000) :
    ∃ v, (Instr.lookup 128 (.map (some Kb)) (.string ⟨s.toArray⟩) true).run Tryz.prog w = .ok (.tuple #[v, .bool (ks.contains s)]) w ∧ (ks.contains s = true → v = .int .i64 1) := by
  obtain ⟨v, ps, hrun, hv⟩ := World.ownsMap.look_ok (R := kwElem) (D := keyD ks) h strKeyed Tryz.underlying128 (zeroKind w) rfl (strKey s hs)
  rw [has_keys] at hrun
  refine ⟨v, hrun, fun hc => ?_⟩
  unfold keyD Maps.setOf at hv
  rw [atKey_fold (.agg []) _ (keyL s) (show WideAt.IsKeyLit (keyL s) from trivial) _ _ ⟨[], rfl⟩ (.inl (List.mem_map.2 ⟨s, by simpa using hc, rfl⟩))] at hv
  unfold kwElem at hv
  split at hv
  · rfl
  · cases hv
  · cases hv
/-- the loop over the keywords -/
structure KLoop1 (N : Nat) (pre : List Bg.Str) (W A : World) : Prop where
  low : Below N W A
  b1 : A.heap[N + 1]? = some (.cells #[.map (some N)] 128 (0, 0))
  b2 : A.heap[N + 2]? = some (.cells #[.string ⟨kwText.toArray⟩] 9 (0, 0))
  sz : N + 5 ≤ A.heap.size
  ks : keyset1 A N pre.length pre
theorem KLoop1.same {N : Nat} {pre : List Bg.Str} {W A A' : World} (h : KLoop1 N pre W A) (hs : A.heap.size ≤ A'.heap.size) (h1 : A'.os = A.os) (h2 : A'.tape = A.tape) (h3 : A'.output = A.output) (hb : ∀ b, b < N + 4 → A'.heap[b]? = A.heap[b]?) : KLoop1 N pre W A' :=
  ⟨⟨h1.trans h.low.os, h2.trans h.low.tape, h3.trans h.low.output, Nat.le_trans h.low.size hs, fun b hb' => (hb b (by omega)).trans (h.low.block b hb')⟩, (hb _ (by omega)).trans h.b1, (hb _ (by omega)).trans h.b2, Nat.le_trans h.sz hs, keyset1_block h.ks (hb _ (by omega))⟩
set_option maxRecDepth 100000 in
set_option maxHeartbeats 1000000 in
theorem w_keywords1 (W : World) (hS : Spaces W) :
    Calls Tryz.prog 63 #[] W fun e W' => e = .returned (.map (some W.heap.size)) ∧ keyset1 W' W.heap.size 100 kwsAll ∧ Below W.heap.size W W' ∧ W.heap.size < W'.heap.size := by
  have hmm := @run_makeMap Tryz.prog
  have hmf : ∀ (fn : Fn) (first cap : Array Value) (w : World), (Instr.makeFunc fn first cap).run Tryz.prog w = .ok (.func fn first cap) w := fun _ _ _ _ => rfl
  refine calls_of_wpB Tryz.func63 rfl ?_
  simp only [Tryz.ntmps63, List.size_toArray, List.length_cons, List.length_nil, Nat.reduceAdd, Nat.reduceSub, Array.replicate_succ, Array.replicate_zero, List.push_toArray, List.append_toArray, List.nil_append, List.cons_append]
  refine wpB_seq (wpB_wp ?_)
  go_wp2
  refine wpB_seq (wpB_wp ?_)
  go_wp2
  refine wpB_seq (wpB_seq (wpB_wp ?_))
  go_wp2
  refine wpB_block ?_
  change wpB _ _ _ _ _ (((W.alloc (.map #[] 0)).alloc (.cells #[.map (some W.heap.size)] 128)).alloc (.cells #[.string ⟨kwText.toArray⟩] 9))
  obtain ⟨w3, hw3⟩ : ∃ w3, ((W.alloc (.map #[] 0)).alloc (.cells #[.map (some W.heap.size)] 128)).alloc (.cells #[.string ⟨kwText.toArray⟩] 9) = w3 := ⟨_, rfl⟩
  rw [hw3]
  have hs3 : w3.heap.size = W.heap.size + 3 := by rw [← hw3]; simp
  have hB3 : Below W.heap.size W w3 := by
    rw [← hw3]
    exact (((Below.refl _ W).alloc (Nat.le_refl _) _).alloc (by simp) _).alloc (by simp; omega) _
  have k0 : w3.heap[W.heap.size]? = some (.map #[] 0) := by rw [← hw3]; exact (three_get W.heap _ _ _).1
  have k1 : w3.heap[W.heap.size + 1]? = some (.cells #[.map (some W.heap.size)] 128 (0, 0)) := by rw [← hw3]; exact (three_get W.heap _ _ _).2.1
  have k2 : w3.heap[W.heap.size + 2]? = some (.cells #[.string ⟨kwText.toArray⟩] 9 (0, 0)) := by rw [← hw3]; exact (three_get W.heap _ _ _).2.2
  clear hw3
  refine wpB_fields (W.heap.size + 2) kwText (fun pre A => KLoop1 W.heap.size pre W A) (fun _ _ => False) Tryz.func63 rfl rfl (by decide) kw_asc ?_ ?_ ?_ ?_ ?_ (fun _ _ h => h.elim)
  · intro pre A n h
    have hd := below_dr (Below.refl A.heap.size A) n
    exact h.same hd.size hd.os hd.tape hd.output (fun b _ => by rw [heap_drewN])
  · intro pre A h
    refine ⟨by simp [World.cell?, h.b2], fun c hc => ?_⟩
    exact (h.low.cell (p := ⟨1, c.toNat, none⟩) hS.1).trans (hS.2 c hc)
  · have lo : ∀ b, b < W.heap.size + 3 → ∀ (tmps : Array Value) (ps : Array Tmp) (asg bd : Code), (rangeW w3 63 tmps ps asg bd).heap[b]? = w3.heap[b]? := fun b hb _ _ _ _ => rangeW_low (by omega)
    refine ⟨⟨hB3.os, hB3.tape, hB3.output, ?_, fun b hb => (lo _ (by omega) ..).trans (hB3.block b hb)⟩, (lo _ (by omega) ..).trans k1, (lo _ (by omega) ..).trans k2, ?_, ?_⟩
    · simp [rangeW]; omega
    · simp [rangeW]; omega
    · refine keyset1_block (w := w3) ?_ (lo _ (by omega) ..)
      exact ⟨#[], 0, k0, ⟨by simp, MapKept.stamped_empty 0, by simp⟩, Nat.le_refl _, rfl⟩
  · intro pre x A rb A2 hT hpl hxl hOff hL hD
    rw [hs3] at hOff hL hD
    have hkl : kwText.length ≤ 200 := by decide
    have hT2 : KLoop1 W.heap.size pre W A2 := hT.same (Nat.le_of_eq hOff.size.symm) hOff.os hOff.tape hOff.output (fun b hb => hOff.block b (by omega))
    obtain ⟨w8, hr8, ho8, hg8⟩ := World.ownsMap.update (w := A2) (val := .int .i64 1) hT2.ks strKeyed Tryz.underlying128 (by unfold maxLen; omega) (strKey x (by omega)) rfl
    have hr8s : (Instr.mapUpdate 128 (.map (some W.heap.size)) (strV x) (.int .i64 1)).run Tryz.prog A2 = .ok () w8 := hr8
    have p1 : A2.cell? ⟨W.heap.size + 1, 0, none⟩ = some (.map (some W.heap.size)) := by simp [World.cell?, hT2.b1]
    have lo8 : ∀ b, b < A2.heap.size → b ≠ W.heap.size → w8.heap[b]? = A2.heap[b]? := fun b hb hne => hg8.block b hb (fun e => hne (Option.some.inj e))
    have hs2 := hT2.sz
    have HT8 : Hid (KLoop1 W.heap.size (pre ++ [x]) W w8) := by
      refine ⟨hT2.low.grown hg8 (by omega) (fun b e => by have := Option.some.inj e; omega), (lo8 _ (by omega) (by omega)).trans hT2.b1, (lo8 _ (by omega) (by omega)).trans hT2.b2, Nat.le_trans hs2 hg8.size, ?_⟩
      rw [put_keys] at ho8
      rw [List.length_append]
      exact ho8
    have HL8 : Hid (w8.heap[W.heap.size + 4]? = some (.loop rb)) := (lo8 _ (by omega) (by omega)).trans hL
    have HD8 : Hid (w8.heap[W.heap.size + 3]? = some (.deferred (some []))) := (lo8 _ (by omega) (by omega)).trans hD
    clear hT hT2 hOff hL hD ho8 hg8 lo8 k0 k1 k2
    refine round_list rfl (by rintro ⟨_, _, h⟩; exact h) ?_
    go_wp2
    try refine ⟨trivial, ?_⟩
    refine wpIn_block ?_
    refine round_list rfl (by rintro ⟨_, _, h⟩; exact h) ?_
    go_wp2
    have y1 := HL8.out
    have y2 := HD8.out
    refine ⟨by first | exact y1 | (rw [hs3]; exact y1), by first | exact y2 | (rw [hs3]; exact y2), fun A' hO => ?_⟩
    exact HT8.out.same (Nat.le_of_eq hO.size.symm) hO.os hO.tape hO.output (fun b hb => hO.block b (by first | omega | (rw [hs3]; omega)))
  · intro A A2 hT hOff hD
    rw [hs3] at hOff hD
    rw [fsEnd_kw] at hT
    have hT2 : KLoop1 W.heap.size kwsAll W A2 := hT.same (Nat.le_of_eq hOff.size.symm) hOff.os hOff.tape hOff.output (fun b hb => hOff.block b (by omega))
    have p1 : A2.cell? ⟨W.heap.size + 1, 0, none⟩ = some (.map (some W.heap.size)) := by simp [World.cell?, hT2.b1]
    have HT2 : Hid (KLoop1 W.heap.size kwsAll W A2) := hT2
    have HD2 : Hid (A2.heap[W.heap.size + 3]? = some (.deferred (some []))) := hD
    clear hT hT2 hOff hD k0 k1 k2
    refine wpB_wp ?_
    go_wp2
    have hlow := HT2.out.low
    have hsz := HT2.out.sz
    refine leave_ret (v := .map (some W.heap.size)) HD2.out (by simp [results, Tryz.results63]) ⟨rfl, ?_, ?_, ?_⟩
    · exact keyset1_block (HT2.out.ks.mono (by decide)) (World.putObj_heap_other (by omega))
    · exact ⟨hlow.os, hlow.tape, hlow.output, by rw [size_putObj]; exact hlow.size, fun b hb => (World.putObj_heap_other (by omega)).trans (hlow.block b hb)⟩
    · rw [size_putObj]; omega
end Go.Proofs.YtamfmffdgidmgaaGreatDoor
end
section
namespace Go.Proofs.YtamfmffdgidmgaaGreatDoor
open Go.RowKit
namespace Gr
set_option linter.unusedSimpArgs false
set_option linter.unusedVariables false
/-- the program's word of a document's word -/
def pKind (w : RW) : Int := if w.sort = kName then 2 else if w.sort = kNum ∨ w.sort = kText then 3 else 1
def pSpelt (w : RW) : Bg.Str := if w.sort = kNum ∨ w.sort = kText then [] else w.text
def pVal (w : RW) : Value := if w.sort = kNum then .iface 233 (.int .i64 w.num) else if w.sort = kText then .iface 170 (.string ⟨w.text.toArray⟩) else .nilIface
def pword (w : RW) : Value := .agg #[.int .i64 (pKind w), .string ⟨(pSpelt w).toArray⟩, pVal w]
/-- what first answers -/
def FirstOk (rest : Bg.Str) (v : Value) (n : Int) : Prop := n = (rWord rest).2 ∧ (∃ (a : Int) (b : Bg.Str) (c : Value), v = .agg #[.int .i64 a, .string ⟨b.toArray⟩, c] ∧ (c = .nilIface ∨ ∃ t x, c = .iface t x)) ∧ ((rWord rest).2 ≠ 0 → v = pword (rWord rest).1)
theorem parse_num (c : UInt8) (r : Bg.Str) (hd : Bg.runs Bg.digits (c :: r) = (c :: r).length) :
    (∃ v, Lib.parseIntB 64 (c :: r) = .ok v ∧ Bg.number (c :: r) false = (v, true)) ∨ ((∀ v, Lib.parseIntB 64 (c :: r) ≠ .ok v) ∧ (Bg.number (c :: r) false).2 = false) := by
  have had := Bg.allDig_of hd
  have hn := Bg.dig_not had.1.1
  have n1 : ¬ c.toNat = 43 := fun e => hn.2.1 (UInt8.toNat_inj.1 e)
  have n2 : ¬ c.toNat = 45 := fun e => hn.1 (UInt8.toNat_inj.1 e)
  have hp : Lib.parseIntB 64 (c :: r) = (match Lib.parseUintM 18446744073709551615 0 (c :: r) with
      | .syntax => .syntax
      | .range => .range
      | .ok u => if 9223372036854775808 ≤ u then .range else .ok (u : Int)) := by
    simp [Lib.parseIntB, Lib.parseUintB, n1, n2]
    generalize Lib.parseUintM 18446744073709551615 0 (c :: r) = q; cases q <;> rfl
  rw [Bg.uint_val _ 0 had (by omega)] at hp
  have h := Bg.negNum_val (c :: r) 0 had (by omega)
  rw [show -((0 : Nat) : Int) = 0 from rfl] at h
  have hok := Bg.number_ok had false
  generalize Bg.val 0 (c :: r) = V at hp h hok
  by_cases h2 : 9223372036854775808 ≤ V
  · right
    refine ⟨fun v e => ?_, by rw [hok]; simp; omega⟩
    rw [hp] at e
    by_cases h1 : V ≤ 18446744073709551615
    · rw [if_pos h1] at e; simp only at e; rw [if_pos h2] at e; cases e
    · rw [if_neg h1] at e; cases e
  · left
    refine ⟨(V : Int), ?_, ?_⟩
    · rw [hp, if_pos (by omega)]; simp only; rw [if_neg h2]
    · rw [if_pos (by omega)] at h
      rw [Bg.number_pos h, if_neg (by omega)]
      simp; omega
theorem rWord_num {s : Bg.Str} (hd : 0 < Bg.runs Bg.digits s) : rWord s = if (Bg.number (s.take (Bg.runs Bg.digits s)) false).2 then (⟨kNum, [], (Bg.number (s.take (Bg.runs Bg.digits s)) false).1⟩, Bg.runs Bg.digits s) else rNone := by
  unfold rWord dLen; rw [if_pos hd]
theorem rWord_nam {s : Bg.Str} (hd : ¬ 0 < Bg.runs Bg.digits s) (hn : 0 < Bg.runs (Bg.letters ++ Bg.digits) s) : rWord s = (⟨if Bg.isKey (s.take (Bg.runs (Bg.letters ++ Bg.digits) s)) then kKey else kName, s.take (Bg.runs (Bg.letters ++ Bg.digits) s), 0⟩, Bg.runs (Bg.letters ++ Bg.digits) s) := by
  unfold rWord dLen nLen; rw [if_neg hd, if_pos hn]
theorem wsum {w : World} (o : Obj) : Below w.heap.size w (w.alloc o) := (Below.refl _ w).alloc (Nat.le_refl _) o
set_option maxRecDepth 10000 in
set_option maxHeartbeats 1000000 in
theorem w_number (s : Bg.Str) (w : World) (hs : s.length ≤ 400) (hd : 0 < Bg.runs Bg.digits s) (hv : NumVars w) (hG : 13 ≤ w.heap.size) :
    Calls Tryz.prog 159 #[.string ⟨s.toArray⟩] w fun e w' => Below w.heap.size w w' ∧ ∃ v n, e = .returned (.tuple #[v, .int .i64 n]) ∧ FirstOk s v n := by
  have hex := Bg.ext_mk
  have hdle : Bg.runs Bg.digits s ≤ s.length := Bg.runs_le _ _
  have HF : Hid (Bg.runs Bg.digits (s.take (Bg.runs Bg.digits s)) = (s.take (Bg.runs Bg.digits s)).length) := by
    show _ = _
    exact Bg.runs_all Bg.digits _ (fun j hj => runs_take Bg.digits s _ (List.getElem_mem hj))
  have HR := (show Hid _ from rWord_num hd)
  go_enter Tryz.func159, Tryz.ntmps159
  go_wp2_with fail
  refine (w_Digits s _ (by omega)).mono ?_
  rintro e w' ⟨rfl, rfl⟩
  have HP : Hid ((∃ v, Lib.parseIntB 64 (s.take (Bg.runs Bg.digits s)) = .ok v ∧ Bg.number (s.take (Bg.runs Bg.digits s)) false = (v, true)) ∨ ((∀ v, Lib.parseIntB 64 (s.take (Bg.runs Bg.digits s)) ≠ .ok v) ∧ (Bg.number (s.take (Bg.runs Bg.digits s)) false).2 = false)) := by
    have hF := HF.out
    cases ht : s.take (Bg.runs Bg.digits s) with
    | nil =>
      have := congrArg List.length ht
      rw [List.length_take, List.length_nil] at this
      omega
    | cons c r => rw [ht] at hF; exact parse_num c r hF
  generalize Bg.runs Bg.digits s = d at *
  go_wp2_with fail
  refine (parseInt (s.take d) _ (by rw [List.length_take]; omega) (hv.below (wsum _) hG)).mono ?_
  rintro e w1 ⟨hB1, hcase⟩
  have hB : Below w.heap.size w w1 := (wsum _).trans (hB1.mono (by simp))
  have hlt : w.heap.size < w1.heap.size := Nat.lt_of_lt_of_le (by simp) hB1.size
  obtain ⟨r0, r1, r2, rf⟩ := cells3 ((hB1.block w.heap.size (by simp)).trans (heap_alloc_new w _))
  have rf0 := rf 0
  have rf1 := rf 1
  have rf2 := rf 2
  rcases hcase with ⟨v, hv1, rfl⟩ | ⟨hv1, v, t, p, rfl⟩
  · have HX : Hid (Bg.number (s.take d) false = (v, true)) := by
      rcases HP.out with ⟨v', e1, e2⟩ | ⟨e1, _⟩
      · rw [hv1] at e1; cases e1; exact e2
      · exact absurd hv1 (e1 v)
    clear hv1
    go_wp2_with fail
    refine bodyPost_ret (v := .tuple #[.agg #[.int .i64 3, .string ⟨#[]⟩, .iface 233 (.int .i64 v)], .int .i64 d]) (by simp [results, Tryz.results159, go_sem, r0, r1, r2]) rfl ⟨?_, _, _, rfl, ?_⟩
    · exact ((hB.setCell (p := ⟨w.heap.size, 0, none⟩) (Nat.le_refl _) _).setCell (p := ⟨w.heap.size, 1, none⟩) (Nat.le_refl _) _).setCell (p := ⟨w.heap.size, 2, none⟩) (Nat.le_refl _) _
    · have e := HR.out
      rw [HX.out] at e
      exact ⟨by rw [e]; rfl, ⟨3, [], _, rfl, .inr ⟨_, _, rfl⟩⟩, fun _ => by rw [e]; rfl⟩
  · have HX : Hid ((Bg.number (s.take d) false).2 = false) := by
      rcases HP.out with ⟨v', e1, e2⟩ | ⟨_, e2⟩
      · exact absurd e1 (hv1 v')
      · exact e2
    clear hv1
    go_wp2_with fail
    refine bodyPost_ret (v := .tuple #[.agg #[.int .i64 0, .string ⟨#[]⟩, .nilIface], .int .i64 0]) (by simp [results, Tryz.results159, go_sem, r0, r1, r2]) rfl ⟨?_, _, _, rfl, ?_⟩
    · exact ((hB.setCell (p := ⟨w.heap.size, 0, none⟩) (Nat.le_refl _) _).setCell (p := ⟨w.heap.size, 1, none⟩) (Nat.le_refl _) _).setCell (p := ⟨w.heap.size, 2, none⟩) (Nat.le_refl _) _
    · have e := HR.out
      rw [HX.out] at e
      exact ⟨by rw [e]; rfl, ⟨0, [], _, rfl, .inl rfl⟩, fun h => absurd (by rw [e]; rfl) h⟩
end Gr
end Go.Proofs.YtamfmffdgidmgaaGreatDoor
end
