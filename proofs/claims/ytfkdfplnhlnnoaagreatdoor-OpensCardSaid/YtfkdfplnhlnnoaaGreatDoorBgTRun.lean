/- package tables: Read, the whole. -/
import Derived.Test.YtfkdfplnhlnnoaaGreatDoorBgTRead
namespace Go.Proofs.YtfkdfplnhlnnoaaGreatDoor
open Go.RowKit Go.Shelf
set_option linter.unusedSimpArgs false
set_option linter.unusedVariables false
attribute [local go_sem] Oper.semAt_some

theorem strings_Clone (s : Bg.Str) (w : World) (hs : s.length ≤ 90000) :
    Calls Tryz.prog 47 #[.string ⟨s.toArray⟩] w fun e w' => e = .returned (.string ⟨s.toArray⟩) ∧ Below w.heap.size w w' := by
  go_enter Tryz.func47, Tryz.ntmps47
  go_wp2_with fail
  refine (Tryz.stringslite_Clone ⟨s.toArray⟩ _ (by rw [Bg.size_mk]; omega)).mono ?_
  rintro e w' ⟨rfl, hB⟩
  go_wp2
  go_ret
  exact ⟨rfl, hB⟩

/-- what Read ends in -/
def dataPost (s : Bg.Str) (n0 : Nat) (W : World) (e : Ending) (W' : World) : Prop :=
  Below n0 W W' ∧ ((refData s = -1 ∧ ∃ M, e = .returned (.map (some M)) ∧ n0 ≤ M ∧ ∃ st B, codeAfter kwsAll ⟨[], none, []⟩ (Bg.lines s) = some st ∧ n0 ≤ B ∧ TabsM B W' M st.names st.tabs) ∨ (0 ≤ refData s ∧ ∃ b, e = .panicked (thrown b) ∧ W'.cell? ⟨b, 0, none⟩ = some (.int .i64 1) ∧ W'.cell? ⟨b, 1, none⟩ = some (.int .i64 (refData s))))

set_option maxRecDepth 100000 in
set_option maxHeartbeats 1000000 in
theorem t_Read_long (s : Bg.Str) (W : World) (hs : s.length ≤ 90000) (hlong : s.length > 4000) :
    Calls Tryz.prog 29 #[.string ⟨s.toArray⟩] W fun e W' => dataPost s W.heap.size W e W' := by
  have HD : Hid (refData s = 0) := by show refData s = 0; unfold refData; rw [if_pos hlong]
  refine calls_of_wpB Tryz.func29 rfl ?_
  simp only [Tryz.ntmps29, List.size_toArray, List.length_cons, List.length_nil, Nat.reduceAdd, Nat.reduceSub, Array.replicate_succ, Array.replicate_zero, List.push_toArray, List.append_toArray, List.nil_append, List.cons_append]
  refine wpB_seq (wpB_wp ?_)
  go_wp2
  refine wpB_seq (wpB_wp ?_)
  go_wp2_with fail
  refine (throw_any 1 0 _).mono ?_
  rintro e w' ⟨rfl, rfl⟩
  go_wp2
  refine leave_panic0 rfl ⟨(Below.refl _ W).alloc (Nat.le_refl _) _, .inr ⟨by rw [HD.out]; omega, W.heap.size, rfl, by simp, by rw [HD.out]; simp⟩⟩

set_option maxRecDepth 100000 in
set_option maxHeartbeats 1000000 in
theorem t_Read_go (s : Bg.Str) (W : World) (hs : s.length ≤ 4000) (hS : Spaces W) (hnv : NumVars W) (hG : 13 ≤ W.heap.size) :
    Calls Tryz.prog 29 #[.string ⟨s.toArray⟩] W fun e W' => dataPost s W.heap.size W e W' := by
  have hmm := @run_makeMap Tryz.prog
  have hmf : ∀ (fn : Fn) (first cap : Array Value) (w : World), (Instr.makeFunc fn first cap).run Tryz.prog w = .ok (.func fn first cap) w := fun _ _ _ _ => rfl
  have hlen : ¬ (4000 : Int) < (s.length : Int) := by omega
  refine calls_of_wpB Tryz.func29 rfl ?_
  simp only [Tryz.ntmps29, List.size_toArray, List.length_cons, List.length_nil, Nat.reduceAdd, Nat.reduceSub, Array.replicate_succ, Array.replicate_zero, List.push_toArray, List.append_toArray, List.nil_append, List.cons_append]
  refine wpB_seq (wpB_wp ?_)
  go_wp2
  refine wpB_seq (wpB_wp ?_)
  go_wp2
  refine wpB_seq (wpB_wp ?_)
  go_wp2_with fail
  refine (w_keywords _ (hS.below ((Below.refl _ W).alloc (Nat.le_refl _) _) hG)).mono ?_
  rintro e w2 ⟨rfl, hK, hB2, hsz2⟩
  go_wp2
  refine wpB_seq (wpB_seq (wpB_wp ?_))
  go_wp2_with fail
  refine (strings_Clone s _ (by omega)).mono ?_
  rintro e w3 ⟨rfl, hB3⟩
  go_wp2
  refine wpB_block ?_
  have hN1 : (W.alloc (.map #[] 0)).heap.size = W.heap.size + 1 := by simp
  rw [hN1] at hK hB2 hsz2
  obtain ⟨R, hRe⟩ : ∃ R, w2.heap.size = R := ⟨_, rfl⟩
  rw [hRe] at hsz2 hB3 ⊢
  have hw4 : ((w2.alloc (.cells #[.int .i64 0, .map (some W.heap.size), .pointer none, .map (some (W.heap.size + 1))] 108)).alloc (.cells #[.pointer (some ⟨R, 0, none⟩)] 103)).heap.size = R + 2 := by simp; omega
  rw [hw4] at hB3
  have hs3 : R + 2 ≤ w3.heap.size := by have := hB3.size; rw [hw4] at this; exact this
  -- below R the world behind Keywords lies still
  have lo3 : ∀ b, b < R → w3.heap[b]? = w2.heap[b]? := fun b hb => (hB3.block b (by omega)).trans ((Below.heap_alloc _ _ b (by simp; omega)).trans (Below.heap_alloc _ _ b (by omega)))
  have hR3 : w3.heap[R]? = some (.cells #[.int .i64 0, .map (some W.heap.size), .pointer none, .map (some (W.heap.size + 1))] 108 (0, 0)) := by
    refine (hB3.block R (by omega)).trans ((Below.heap_alloc _ _ R (by simp; omega)).trans ?_)
    rw [← hRe]; exact heap_alloc_new w2 _
  have hRb3 : w3.heap[R + 1]? = some (.cells #[.pointer (some ⟨R, 0, none⟩)] 103 (0, 0)) := by
    refine (hB3.block (R + 1) (by omega)).trans ?_
    have := heap_alloc_new (w2.alloc (.cells #[.int .i64 0, .map (some W.heap.size), .pointer none, .map (some (W.heap.size + 1))] 108)) (.cells #[.pointer (some ⟨R, 0, none⟩)] 103)
    rw [World.size_alloc, hRe] at this
    exact this
  have hM3 : w3.heap[W.heap.size]? = some (.map #[] 0) := (lo3 _ (by omega)).trans ((hB2.block _ (by omega)).trans (heap_alloc_new W _))
  have hK3 : keyset w3 (W.heap.size + 1) 100 kwsAll := keyset_block hK (lo3 _ (by omega))
  have hBW3 : Below W.heap.size W w3 := by
    have h1 : Below W.heap.size W w2 := ((Below.refl _ W).alloc (Nat.le_refl _) _).trans (hB2.mono (by omega))
    have h2 : Below W.heap.size W ((w2.alloc (.cells #[.int .i64 0, .map (some W.heap.size), .pointer none, .map (some (W.heap.size + 1))] 108)).alloc (.cells #[.pointer (some ⟨R, 0, none⟩)] 103)) := (h1.alloc (by omega) _).alloc (by simp; omega) _
    exact h2.trans (hB3.mono (by omega))
  obtain ⟨w5, hw5⟩ : ∃ w5, ((w3.alloc (.cells #[.string ⟨s.toArray⟩] 9)).alloc (.cells #[.string ⟨#[10]⟩] 9)).alloc (.cells #[.int .i64 0] 3) = w5 := ⟨_, rfl⟩
  rw [hw5]
  have hs5 : w5.heap.size = w3.heap.size + 3 := by rw [← hw5]; simp
  have k0 : w5.heap[w3.heap.size]? = some (.cells #[.string ⟨s.toArray⟩] 9 (0, 0)) := by rw [← hw5]; exact (three_get w3.heap _ _ _).1
  have k1 : w5.heap[w3.heap.size + 1]? = some (.cells #[.string ⟨#[10]⟩] 9 (0, 0)) := by rw [← hw5]; exact (three_get w3.heap _ _ _).2.1
  have k2 : w5.heap[w3.heap.size + 2]? = some (.cells #[.int .i64 0] 3 (0, 0)) := by rw [← hw5]; exact (three_get w3.heap _ _ _).2.2
  have lo5 : ∀ b, b < w3.heap.size → w5.heap[b]? = w3.heap[b]? := fun b hb => by
    rw [← hw5]
    exact (Below.heap_alloc _ _ b (by simp; omega)).trans ((Below.heap_alloc _ _ b (by simp; omega)).trans (Below.heap_alloc _ _ b hb))
  have hB5 : Below W.heap.size W w5 := by
    rw [← hw5]
    exact ((hBW3.alloc (by omega) _).alloc (by simp; omega) _).alloc (by simp; omega) _
  have hR5 := (lo5 R (by omega)).trans hR3
  have hRb5 := (lo5 (R + 1) (by omega)).trans hRb3
  have hM5 := (lo5 W.heap.size (by omega)).trans hM3
  have hK5 : keyset w5 (W.heap.size + 1) 100 kwsAll := keyset_block hK3 (lo5 _ (by omega))
  clear hw5 lo3 hR3 hRb3 hM3 hK3 hBW3 lo5 hK hB2 hB3 hw4 hRe hN1
  obtain ⟨Bs, hBs⟩ : ∃ Bs, w3.heap.size = Bs := ⟨_, rfl⟩
  rw [hBs] at hs3 hs5 k0 k1 k2
  have hside : R < w5.heap.size ∧ W.heap.size < w5.heap.size ∧ W.heap.size + 1 < w5.heap.size ∧ R ≠ Bs ∧ W.heap.size ≠ Bs ∧ W.heap.size + 1 ≠ Bs := by omega
  have hBsl : Bs < w5.heap.size := by omega
  have low : ∀ pre A, RLoop W.heap.size R (W.heap.size + 1) Bs pre w5 A → Below W.heap.size W A := fun pre A h =>
    ⟨h.os.trans hB5.os, h.tape.trans hB5.tape, h.output.trans hB5.output, by have := h.size; omega, fun b hb => (h.keep b (by omega) (by omega) (by omega) (by omega)).trans (hB5.block b hb)⟩
  have HLOW : Hid (∀ pre A, RLoop W.heap.size R (W.heap.size + 1) Bs pre w5 A → Below W.heap.size W A) := low
  have HNV : Hid (NumVars W) := hnv
  have hll := Bg.lines_len s
  clear low hnv hS
  refine wpB_split Bs (Bs + 1) (Bs + 2) s (fun pre A => RLoop W.heap.size R (W.heap.size + 1) Bs pre w5 A) (fun ch A => ∃ b, ch = thrown b ∧ A.cell? ⟨b, 0, none⟩ = some (.int .i64 1) ∧ A.cell? ⟨b, 1, none⟩ = some (.int .i64 (refData s)) ∧ 0 ≤ refData s ∧ Below W.heap.size W A ∧ A.heap[w5.heap.size]? = some (.deferred (some [])))
    Tryz.func29 (by rw [← hBs]; rfl) rfl (by omega) (by omega) (by omega) (by simp [World.cell?, k0]) (by simp [World.frozen?, k0]) (by simp [World.cell?, k1]) (by simp [World.cell?, k2]) ?_ ?_ ?_ ?_ ?_ ?_
  · intro pre A v h
    exact h.same (by simp) rfl rfl rfl hside hBsl (fun b _ hb _ _ => Below.heap_setCell A ⟨Bs, 0, none⟩ v b hb)
  · intro pre A n h
    have hd := below_dr (Below.refl A.heap.size A) n
    exact h.same hd.size hd.os hd.tape hd.output hside hBsl (fun b _ _ _ _ => by rw [heap_drewN])
  · have lo : ∀ b, b < w5.heap.size → ∀ (tmps : Array Value) (ps : Array Tmp) (asg bd : Code), (rangeW w5 29 tmps ps asg bd).heap[b]? = w5.heap[b]? := fun b hb _ _ _ _ => rangeW_low hb
    have hszr : ∀ (tmps : Array Value) (ps : Array Tmp) (asg bd : Code), (rangeW w5 29 tmps ps asg bd).heap.size = w5.heap.size + 2 := fun _ _ _ _ => by simp [rangeW]
    refine ⟨⟨⟨[], none, []⟩, rfl, ⟨by omega, by omega, by omega, by omega, by omega, by omega, ?_, List.nodup_nil, ?_, ?_, ⟨rfl, [], rfl, valset_nil ((lo _ (by omega) ..).trans hM5), fun p hp => by cases hp⟩, ⟨_, (lo R (by omega) ..).trans hR5, rfl⟩⟩⟩, rfl, rfl, rfl, ?_, fun b hb _ _ _ => lo b hb ..⟩
    · rw [hszr]; exact Nat.le_refl _
    · exact ⟨#[], 0, (lo _ (by omega) ..).trans hM5, ⟨by simp, MapKept.stamped_empty 0, by simp⟩, Nat.le_refl _, rfl⟩
    · exact keyset_block hK5 (lo _ (by omega) ..)
    · rw [hszr]; exact Nat.le_refl _
  · intro pre x post A rb A2 hJ hl hOff hL hD
    have hJ2 : RLoop W.heap.size R (W.heap.size + 1) Bs pre w5 A2 := hJ.same (Nat.le_of_eq hOff.size.symm) hOff.os hOff.tape hOff.output hside hBsl (fun b _ _ hb _ => hOff.block b hb)
    obtain ⟨st, hst, hI⟩ := hJ2.st
    have hb1 : A2.cell? ⟨R + 1, 0, none⟩ = some (.pointer (some ⟨R, 0, none⟩)) := by
      have := (hJ2.keep (R + 1) (by omega) (by omega) (by omega) (by omega)).trans hRb5
      simp [World.cell?, this]
    obtain ⟨v, hR, _⟩ := hI.last
    have c0 : A2.cell? ⟨R, 0, none⟩ = some (.int .i64 pre.length) := by simp [World.cell?, hR]
    have f0 : A2.frozen? ⟨R, 0, none⟩ = false := by simp [World.frozen?, hR]
    have hxl : x.length ≤ 90000 := by
      have := Bg.lines_mem (s := s) (x := x) (by rw [← hl]; simp)
      omega
    have hpl : pre.length + 1 ≤ 4001 := by
      have := congrArg List.length hl
      simp at this
      omega
    have hb3 : (A2.setCell ⟨R, 0, none⟩ (.int .i64 (pre.length + 1))).cell? ⟨R + 1, 0, none⟩ = some (.pointer (some ⟨R, 0, none⟩)) := (World.cell?_of_block (a := ⟨R + 1, 0, none⟩) (Below.heap_setCell A2 ⟨R, 0, none⟩ _ (R + 1) (by show R + 1 ≠ R; omega))).trans hb1
    have HF1 : Hid (A2.heap[Bs]? = A.heap[Bs]? ∧ A2.heap[Bs + 1]? = A.heap[Bs + 1]? ∧ A2.heap[Bs + 2]? = A.heap[Bs + 2]?) := ⟨hOff.block _ (by omega), hOff.block _ (by omega), hOff.block _ (by omega)⟩
    have HJ2 : Hid (RLoop W.heap.size R (W.heap.size + 1) Bs pre w5 A2) := hJ2
    have HL2 : Hid (A2.heap[w5.heap.size + 1]? = some (.loop rb)) := hL
    have HD2 : Hid (A2.heap[w5.heap.size]? = some (.deferred (some []))) := hD
    have HST : Hid (codeAfter kwsAll ⟨[], none, []⟩ pre = some st) := hst
    have HLN : Hid (pre ++ x :: post = Bg.lines s) := hl
    have hI3 : RInv (w5.heap.size + 2) R W.heap.size (W.heap.size + 1) kwsAll (pre.length + 1) st (A2.setCell ⟨R, 0, none⟩ (.int .i64 (pre.length + 1))) := hI.line
    have HI3 : Hid (RInv (w5.heap.size + 2) R W.heap.size (W.heap.size + 1) kwsAll (pre.length + 1) st (A2.setCell ⟨R, 0, none⟩ (.int .i64 (pre.length + 1)))) := hI3
    have hsz2' : w5.heap.size + 2 ≤ A2.heap.size := hJ2.size
    clear hJ hJ2 hst hI hR hl hOff hL hD hI3 k0 k1 k2 hR5 hRb5 hM5 hK5
    refine round_list rfl (by rintro ⟨_, _, h⟩; exact h) ?_
    go_wp2
    try refine ⟨trivial, ?_⟩
    refine wpIn_block ?_
    refine wpIn_seq ?_
    refine round_list rfl (by rintro ⟨_, _, h⟩; exact h) ?_
    go_wp2
    have hlow3 : Below W.heap.size W (A2.setCell ⟨R, 0, none⟩ (.int .i64 (pre.length + 1))) := (HLOW.out pre A2 HJ2.out).setCell (p := ⟨R, 0, none⟩) (show W.heap.size ≤ R by omega) _
    have hnv3 := HNV.out.below hlow3 hG
    refine round_list rfl (by rintro ⟨_, _, h⟩; exact h) ?_
    go_wp2_with fail
    refine (r_read (w5.heap.size + 2) R W.heap.size (W.heap.size + 1) kwsAll (pre.length + 1) st x _ hxl HI3.out hnv3 (by omega)).mono ?_
    rintro e A4 (⟨st', h1, rfl, h3, h4⟩ | ⟨h1, b, rfl, hb0, hbl, hB3⟩)
    · have H1 : Hid (codeStep kwsAll st x = some st') := h1
      clear h1
      go_wp2
      have lo4 : ∀ b, b < w5.heap.size + 2 → b ≠ R → b ≠ W.heap.size → A4.heap[b]? = A2.heap[b]? := fun b hb h1 h2 => (h4.block b hb h1 h2).trans (Below.heap_setCell A2 ⟨R, 0, none⟩ _ b h1)
      have hs4 : A2.heap.size ≤ A4.heap.size := by have := h4.size; simp at this; exact this
      have hJ4 : RLoop W.heap.size R (W.heap.size + 1) Bs (pre ++ [x]) w5 A4 := by
        refine ⟨⟨st', after_snoc kwsAll x pre _ st st' HST.out H1.out, ?_⟩, h4.os.trans HJ2.out.os, h4.tape.trans HJ2.out.tape, h4.output.trans HJ2.out.output, by omega, fun b hb1 hb2 hb3 hb4 => (lo4 b (by omega) hb2 hb3).trans (HJ2.out.keep b hb1 hb2 hb3 hb4)⟩
        rw [List.length_append, List.length_singleton]
        exact h3
      refine ⟨(lo4 _ (by omega) (by omega) (by omega)).trans HL2.out, (lo4 _ (by omega) (by omega) (by omega)).trans HD2.out, fun A' hO => ⟨?_, ?_, ?_, ?_⟩⟩
      · exact hJ4.same (Nat.le_of_eq hO.size.symm) hO.os hO.tape hO.output hside hBsl (fun b _ _ hb _ => hO.block b hb)
      · exact (hO.block _ (by omega)).trans ((lo4 _ (by omega) (by omega) (by omega)).trans HF1.out.1)
      · exact (hO.block _ (by omega)).trans ((lo4 _ (by omega) (by omega) (by omega)).trans HF1.out.2.1)
      · exact (hO.block _ (by omega)).trans ((lo4 _ (by omega) (by omega) (by omega)).trans HF1.out.2.2)
    · have HRD : Hid (refData s = (pre.length : Int) + 1) := by
        show refData s = _
        rw [data_code s (by omega), ← HLN.out, run_bad kwsAll x post pre _ st 0 HST.out h1]
        simp
      clear h1
      go_wp2
      refine ⟨rfl, b, rfl, hb0, ?_, ?_, ?_, ?_⟩
      · rw [HRD.out]; exact hbl
      · rw [HRD.out]; omega
      · exact hlow3.trans (hB3.mono (by omega))
      · have y1 := (hB3.block w5.heap.size (by omega)).trans ((Below.heap_setCell A2 ⟨R, 0, none⟩ _ w5.heap.size (by show w5.heap.size ≠ R; omega)).trans HD2.out)
        first | exact y1 | (rw [← hs5]; exact y1)
  · intro A A2 hJ hOff hD
    have hJ2 : RLoop W.heap.size R (W.heap.size + 1) Bs (Bg.lines s) w5 A2 := hJ.same (Nat.le_of_eq hOff.size.symm) hOff.os hOff.tape hOff.output hside hBsl (fun b _ _ hb _ => hOff.block b hb)
    obtain ⟨st, hst, hI⟩ := hJ2.st
    have hb1 : A2.cell? ⟨R + 1, 0, none⟩ = some (.pointer (some ⟨R, 0, none⟩)) := by
      have := (hJ2.keep (R + 1) (by omega) (by omega) (by omega) (by omega)).trans hRb5
      simp [World.cell?, this]
    obtain ⟨v, hR, _⟩ := hI.last
    have c1 : A2.cell? ⟨R, 1, none⟩ = some (.map (some W.heap.size)) := by simp [World.cell?, hR]
    have HRD : Hid (refData s = -1) := by
      show refData s = _
      rw [data_code s (by omega)]
      exact run_good kwsAll _ _ st 0 hst
    have HB : Hid (Below W.heap.size W A2) := HLOW.out _ A2 hJ2
    have HTM : Hid (codeAfter kwsAll ⟨[], none, []⟩ (Bg.lines s) = some st ∧ TabsM (w5.heap.size + 2) A2 W.heap.size st.names st.tabs) := ⟨hst, hI.tabs⟩
    have HD2 : Hid (A2.heap[w5.heap.size]? = some (.deferred (some []))) := hD
    clear hJ hJ2 hst hI hR hOff hD k0 k1 k2 hR5 hRb5 hM5 hK5
    refine wpB_wp ?_
    go_wp2
    have hlow := HB.out
    have y1 := HD2.out
    try rw [hs5] at y1
    refine leave_ret (v := .map (some W.heap.size)) y1 (by simp [results, Tryz.results29]) ⟨?_, .inl ⟨HRD.out, _, rfl, Nat.le_refl _, st, w5.heap.size + 2, HTM.out.1, by omega, HTM.out.2.keep (World.putObj_heap_other (by omega)) (fun b _ hb => World.putObj_heap_other (by omega))⟩⟩
    exact ⟨hlow.os, hlow.tape, hlow.output, by rw [size_putObj]; exact hlow.size, fun b hb => (World.putObj_heap_other (by omega)).trans (hlow.block b hb)⟩
  · rintro ch A ⟨b, rfl, hb0, hb1, hd0, hBl, hD⟩
    have hbD : b ≠ w5.heap.size := by
      intro e
      rw [e] at hb0
      simp [World.cell?, hD] at hb0
    refine leave_panic rfl hD ⟨⟨hBl.os, hBl.tape, hBl.output, by rw [size_putObj]; exact hBl.size, fun k hk => (World.putObj_heap_other (by omega)).trans (hBl.block k hk)⟩, .inr ⟨hd0, b, rfl, ?_, ?_⟩⟩
    · exact (World.cell?_of_block (a := ⟨b, 0, none⟩) (World.putObj_heap_other hbD)).trans hb0
    · exact (World.cell?_of_block (a := ⟨b, 1, none⟩) (World.putObj_heap_other hbD)).trans hb1

theorem t_Read (s : Bg.Str) (W : World) (hs : s.length ≤ 90000) (hS : Spaces W) (hnv : NumVars W) (hG : 13 ≤ W.heap.size) :
    Calls Tryz.prog 29 #[.string ⟨s.toArray⟩] W fun e W' => dataPost s W.heap.size W e W' := by
  by_cases h : s.length > 4000
  · exact t_Read_long s W hs h
  · exact t_Read_go s W (by omega) hS hnv hG
end Go.Proofs.YtfkdfplnhlnnoaaGreatDoor
