/- package tables: table, the whole. -/
import Derived.Test.YtfkdfplnhlnnoaaGreatDoorBgTabB
import Derived.Test.YtfkdfplnhlnnoaaGreatDoorBgTabR
import Derived.Test.YtfkdfplnhlnnoaaGreatDoorBgTk
namespace Go.Proofs.YtfkdfplnhlnnoaaGreatDoor
open Go.RowKit Go.Shelf
set_option linter.unusedSimpArgs false
set_option linter.unusedVariables false
attribute [local go_sem] Oper.semAt_some

set_option maxRecDepth 100000 in
set_option maxHeartbeats 3000000 in
theorem r_table_go (B R M Kb : Nat) (kws : List Bg.Str) (line : Int) (st : St) (g o cap : Nat) (x : Bg.Str) (l : List Bg.Str) (W : World) (hlx : ∀ y ∈ x :: l, y.length ≤ 90000) (hll : l.length ≤ 90000) (hcap : l.length + 1 ≤ cap) (hcap2 : cap ≤ maxLen) (hI : RInv B R M Kb kws line st W)
    (hv : ∀ (i : Nat) (h : i < (x :: l).length), W.cell? ⟨g, o + i, none⟩ = some (strV (x :: l)[i])) (hlen : lenOk (l.length + 1) = true) (hok : nameOk kws st x = true) :
    Calls Tryz.prog 68 #[.pointer (some ⟨R, 0, none⟩), .slice (some ⟨g, o, none⟩) (l.length + 1) cap] W fun e W' =>
      (colsGood kws l ∧ e = .returned (.tuple #[]) ∧ RInv B R M Kb kws line ⟨st.names ++ [x], some ⟨colsOf (pairsOf l), 0⟩, st.tabs ++ [(x, colsOf (pairsOf l))]⟩ W' ∧ Near B R M W W') ∨ (¬ colsGood kws l ∧ bad B line W e W') := by
  have hx : x.length ≤ 90000 := hlx x (by simp)
  have hl2 : 3 ≤ l.length + 1 ∧ (l.length + 1) % 2 = 1 ∧ l.length + 1 ≤ 13 := of_decide_eq_true hlen
  have hcap1 : ¬ cap = 1 := by omega
  obtain ⟨v, hR, hv0⟩ := hI.last
  have c0 : W.cell? ⟨R, 0, none⟩ = some (.int .i64 line) := by simp [World.cell?, hR]
  have c1 : W.cell? ⟨R, 1, none⟩ = some (.map (some M)) := by simp [World.cell?, hR]
  have c3 : W.cell? ⟨R, 3, none⟩ = some (.map (some Kb)) := by simp [World.cell?, hR]
  have hc := hv 0 (by simp)
  have hRl : R < W.heap.size := (Array.getElem?_eq_some_iff.1 hR).1
  have hgl : g < W.heap.size := World.block_lt_of_cell? W _ hc
  have hBW := hI.hB
  have e1 : (3 : Int) ≤ (l.length : Int) + 1 := by omega
  have e2 : ((l.length : Int) + 1) % 2 = 1 := by omega
  have e3 : (l.length : Int) + 1 ≤ 13 := by omega
  have d1 : decide ((3 : Int) ≤ (l.length : Int) + 1) = true := by simp; omega
  have d3 : decide ((l.length : Int) + 1 ≤ 13) = true := by simp; omega
  have HN : keyset (W.alloc (.cells #[.pointer (some ⟨R, 0, none⟩)] 103)) M st.names.length st.names := keyset_below hI.names ((Below.refl _ W).alloc (Nat.le_refl _) _)
  have HK : keyset (W.alloc (.cells #[.pointer (some ⟨R, 0, none⟩)] 103)) Kb 100 kws := keyset_below hI.keys ((Below.refl _ W).alloc (Nat.le_refl _) _)
  have c0a : ∀ o, (W.alloc o).cell? ⟨R, 0, none⟩ = some (.int .i64 line) := fun o => (World.cell?_alloc_lt W o ⟨R, 0, none⟩ hRl).trans c0
  have c1a : ∀ o, (W.alloc o).cell? ⟨R, 1, none⟩ = some (.map (some M)) := fun o => (World.cell?_alloc_lt W o ⟨R, 1, none⟩ hRl).trans c1
  have c3a : ∀ o, (W.alloc o).cell? ⟨R, 3, none⟩ = some (.map (some Kb)) := fun o => (World.cell?_alloc_lt W o ⟨R, 3, none⟩ hRl).trans c3
  have cxa : ∀ ob, (W.alloc ob).cell? ⟨g, o, none⟩ = some (.string ⟨x.toArray⟩) := fun ob => (World.cell?_alloc_lt W ob ⟨g, o, none⟩ hgl).trans hc
  obtain ⟨vd, hvd⟩ := look_tab (w := (W.alloc (.cells #[.pointer (some ⟨R, 0, none⟩)] 103)).drew) (by exact HN) x (by omega)
  have hlenM : ∀ w, keyset w M st.names.length st.names → (Builtin.len_ #[71] 3 #[.map (some M)]).run Tryz.prog w = .ok (.int .i64 st.names.length) w := by
    intro w h
    have h1 := World.ownsMap.len h Tryz.underlying71 3
    rw [size_keys, (dedup_nodup _).2 hI.nd] at h1
    exact h1
  obtain ⟨hk1, hk2, hk3⟩ : isNm kws x = true ∧ st.names.contains x = false ∧ st.names.length < 8 := by
    unfold nameOk at hok
    simp only [Bool.and_eq_true, decide_eq_true_eq, Bool.not_eq_true'] at hok
    exact ⟨hok.1.1, hok.1.2, hok.2⟩
  rw [hk2] at hvd
  have HK2 : Hid (st.names.contains x = false) := hk2
  have hin := fun w => r_isName R Kb 100 kws x w hx
  rw [hk1] at hin
  have HK1 : Hid (isNm kws x = true) := hk1
  have d8 : decide ((st.names.length : Int) < 8) = true := by simp; omega
  have HI : Hid (RInv B R M Kb kws line st W) := hI
  have HCX : Hid (∀ (i : Nat) (h : i < (x :: l).length), W.cell? ⟨g, o + i, none⟩ = some (strV (x :: l)[i])) := hv
  have HLX : Hid (∀ y ∈ x :: l, y.length ≤ 90000) := hlx
  have HV0 : Hid (tabIn B W v st.last) := hv0
  clear hk1 hk2 hI hv hok hlen hc c0 c1 c3 hv0 hlx
  have hmm := @run_makeMap Tryz.prog
  refine calls_of_wpB Tryz.func68 rfl ?_
  simp only [Tryz.ntmps68, List.size_toArray, List.length_cons, List.length_nil, Nat.reduceAdd, Nat.reduceSub, Array.replicate_succ, Array.replicate_zero, List.push_toArray, List.append_toArray, List.nil_append, List.cons_append]
  refine wpB_seq (wpB_wp ?_)
  go_wp2_with fail
  refine wpB_seq (wpB_wp ?_)
  go_wp2_with fail
  refine (r_must_true _ _).mono ?_
  rintro e w3 ⟨rfl, rfl⟩
  go_wp2_with fail
  refine wpB_seq (wpB_wp ?_)
  go_wp2_with fail
  go_region
  go_wp2_with fail
  refine wpB_seq (wpB_wp ?_)
  go_wp2_with fail
  refine wp_region_noPanic ?_
  refine wp_region_held_drew (S := fun w' => w'.cell? ⟨W.heap.size, 0, none⟩ = some (.pointer (some ⟨R, 0, none⟩)) ∧ w'.cell? ⟨g, o, none⟩ = some (.string ⟨x.toArray⟩) ∧ w'.cell? ⟨R, 1, none⟩ = some (.map (some M)) ∧ keyset w' M st.names.length st.names) (by kernel_rfl) (by refine ⟨?_, ?_, ?_, ?_⟩ <;> first | exact HN | go_keep) (fun hHeld => ?_)
  refine tk 0 ?_
  refine tk 1 ?_
  refine tk 2 ?_
  refine tk 3 ?_
  refine tk 4 ?_
  refine wpAnyH_ready (rs := [5]) (by kernel_rfl) (by simp) (AllReadyH.cons rfl (fun K hK => ?_) AllReadyH.nil)
  go_simp
  go_wp2_with (go_at_call 98; refine (hin _ ?_ ?_).mono ?_; (· exact c3a _); (· exact HK); rintro e w' ⟨rfl, rfl⟩)
  refine hK.out _ _ ?_ (fun hHeld => ?_)
  · refine ⟨?_, ?_, ?_, ?_⟩ <;> first | exact HN | go_keep
  clear hK K
  refine tk 6 ?_
  refine tk 7 ?_
  refine tk 8 ?_
  refine tk 9 ?_
  refine tk 10 ?_
  refine tk 11 ?_
  refine tk 12 ?_
  refine tk 13 ?_
  refine tk 14 ?_
  refine wpAnyH_take (i := 15) (v := .int .i64 st.names.length) rfl (by kernel_rfl) (by kernel_rfl) (by kernel_rfl) (fun _ _ _ h => h) (Or.inl ⟨by rfl, ?_⟩) (by assumption) ?_
  · intro w hSw
    have hl := hlenM w hSw.2.2.2
    clear hSw
    go_simp
  try simp only [Act.put, List.setIfInBounds_toArray, List.set_cons_zero, List.set_cons_succ, List.getElem_toArray, List.getElem_cons_zero, List.getElem_cons_succ]
  refine tk 16 ?_
  refine tk 17 ?_
  refine wpAnyH_ready (rs := [18]) (by kernel_rfl) (by simp) (AllReadyH.cons rfl (fun K hK => ?_) AllReadyH.nil)
  go_simp
  go_wp2_with (go_at_call 70; refine (r_must_true _ _).mono ?_; rintro e w' ⟨rfl, rfl⟩)
  refine hK.out _ _ ?_ (fun hHeld => ?_)
  · refine ⟨?_, ?_, ?_, ?_⟩ <;> first | exact HN | go_keep
  clear hK K
  refine wpAnyH_done (by kernel_rfl) (NoPanic.normal ?_) _
  go_wp2_with fail
  refine wpB_seq (wpB_wp ?_)
  go_wp2_with fail
  refine wpB_seq (wpB_seq (wpB_wp ?_))
  go_wp2
  refine wpB_block ?_
  obtain ⟨w5, hw5⟩ : ∃ w5 : World, ((((((W.alloc (.cells #[.pointer (some ⟨R, 0, none⟩)] 103)).alloc (.map #[] 0)).alloc (.cells #[.slice none 0 0, .map (some (W.heap.size + 1)), .slice none 0 0] 189)).alloc (.cells #[.pointer (some ⟨W.heap.size + 1 + 1, 0, none⟩)] 106)).alloc (.cells #[.slice (some ⟨g, o + 1, none⟩) l.length (cap - 1)] 40)).alloc (.cells #[.int .i64 2] 3)).drew.drew = w5 := ⟨_, rfl⟩
  rw [hw5]
  have hs5 : w5.heap.size = W.heap.size + 6 := by rw [← hw5]; simp
  have hB5 : Below W.heap.size W w5 := by
    have h6 : Below W.heap.size W ((((((W.alloc (.cells #[.pointer (some ⟨R, 0, none⟩)] 103)).alloc (.map #[] 0)).alloc (.cells #[.slice none 0 0, .map (some (W.heap.size + 1)), .slice none 0 0] 189)).alloc (.cells #[.pointer (some ⟨W.heap.size + 1 + 1, 0, none⟩)] 106)).alloc (.cells #[.slice (some ⟨g, o + 1, none⟩) l.length (cap - 1)] 40)).alloc (.cells #[.int .i64 2] 3)) :=
      ((((((Below.refl _ W).alloc (Nat.le_refl _) _).alloc (by simp) _).alloc (by simp; omega) _).alloc (by simp; omega) _).alloc (by simp; omega) _).alloc (by simp; omega) _
    rw [← hw5]
    exact ⟨h6.os, h6.tape, h6.output, h6.size, h6.block⟩
  have k0 : w5.heap[W.heap.size]? = some (.cells #[.pointer (some ⟨R, 0, none⟩)] 103 (0, 0)) := by rw [← hw5]; exact (six_get W.heap _ _ _ _ _ _).1
  have k1 : w5.heap[W.heap.size + 1]? = some (.map #[] 0) := by rw [← hw5]; exact (six_get W.heap _ _ _ _ _ _).2.1
  have k2 : w5.heap[W.heap.size + 2]? = some (.cells #[.slice none 0 0, .map (some (W.heap.size + 1)), .slice none 0 0] 189 (0, 0)) := by rw [← hw5]; exact (six_get W.heap _ _ _ _ _ _).2.2.1
  have k3 : w5.heap[W.heap.size + 3]? = some (.cells #[.pointer (some ⟨W.heap.size + 2, 0, none⟩)] 106 (0, 0)) := by rw [← hw5]; exact (six_get W.heap _ _ _ _ _ _).2.2.2.1
  have k4 : w5.heap[W.heap.size + 4]? = some (.cells #[.slice (some ⟨g, o + 1, none⟩) l.length (cap - 1)] 40 (0, 0)) := by rw [← hw5]; exact (six_get W.heap _ _ _ _ _ _).2.2.2.2.1
  have k5 : w5.heap[W.heap.size + 5]? = some (.cells #[.int .i64 2] 3 (0, 0)) := by rw [← hw5]; exact (six_get W.heap _ _ _ _ _ _).2.2.2.2.2
  clear hw5
  obtain ⟨m, hm⟩ : ∃ m, l.length = 2 * m := ⟨l.length / 2, by omega⟩
  refine wpB_chunk (W.heap.size + 4) (W.heap.size + 5) g (o + 1) m (cap - 1) (fun k A => TLoop W.heap.size R g o cap kws l k W A) (fun ch A => ∃ b, ch = thrown b ∧ A.cell? ⟨b, 0, none⟩ = some (.int .i64 1) ∧ A.cell? ⟨b, 1, none⟩ = some (.int .i64 line) ∧ Below W.heap.size W A ∧ A.heap[w5.heap.size]? = some (.deferred (some [])) ∧ ¬ colsGood kws l)
    Tryz.func68 rfl rfl (by omega) (by omega) (by omega) ?_ ?_ (fun k A n h => h.drewN n) ?_ ?_ ?_ ?_
  · rw [← hm]; simp [World.cell?, k4]
  · simp [World.cell?, k5]
  · have lo : ∀ b, b < W.heap.size + 6 → ∀ (tmps : Array Value) (ps : Array Tmp) (asg bd : Code), (rangeW w5 68 tmps ps asg bd).heap[b]? = w5.heap[b]? := fun b hb _ _ _ _ => rangeW_low (by omega)
    refine ⟨?_, (lo _ (by omega) ..).trans k0, (lo _ (by omega) ..).trans k3, (lo _ (by omega) ..).trans k4, (lo _ (by omega) ..).trans k5, ?_, ?_, ?_, ⟨_, (lo _ (by omega) ..).trans k2, World.ownsRow_nil _ _ _ _⟩, rfl⟩
    · refine ⟨hB5.os, hB5.tape, hB5.output, ?_, fun b hb => (lo _ (by omega) ..).trans (hB5.block b hb)⟩
      simp [rangeW]; omega
    · simp [rangeW]; omega
    · refine keyset_block (w := w5) ?_ (lo _ (by omega) ..)
      exact ⟨#[], 0, k1, ⟨by simp, MapKept.stamped_empty 0, by simp⟩, Nat.le_refl _, rfl⟩
    · exact valset_block (w := w5) (valset_nil k1) (lo _ (by omega) ..)
  · intro k A rb A2 hT hk hOff hL hD
    have hT2 : TLoop W.heap.size R g o cap kws l k W A2 := hT.same (Nat.le_of_eq hOff.size.symm) hOff.os hOff.tape hOff.output (fun b _ hb => hOff.block b (by rw [hs5]; exact hb))
    have HF2 : Hid (A2.heap[W.heap.size + 4]? = A.heap[W.heap.size + 4]?) := hOff.block (W.heap.size + 4) (by omega)
    have HG2 : Hid (A2.heap[W.heap.size + 5]? = A.heap[W.heap.size + 5]?) := hOff.block (W.heap.size + 5) (by omega)
    have hk2 : 2 * k + 1 < l.length := by omega
    obtain ⟨nm, hnm⟩ : ∃ nm, l[2 * k]'(by omega) = nm := ⟨_, rfl⟩
    obtain ⟨ty, hty⟩ : ∃ ty, l[2 * k + 1]'hk2 = ty := ⟨_, rfl⟩
    have HP : Hid ((pairsOf l)[k]? = some (nm, ty)) := by
      have := pairs_get l k hk2
      rw [hnm, hty] at this
      exact this
    have q0 : A2.cell? ⟨g, o + 1 + 2 * k, none⟩ = some (.string ⟨nm.toArray⟩) := by
      have h1 := HCX.out (2 * k + 1) (by simp; omega)
      rw [List.getElem_cons_succ, hnm, show o + (2 * k + 1) = o + 1 + 2 * k from by omega] at h1
      exact (hT2.low.cell (p := ⟨g, o + 1 + 2 * k, none⟩) hgl).trans h1
    have q1 : A2.cell? ⟨g, o + 1 + 2 * k + 1, none⟩ = some (.string ⟨ty.toArray⟩) := by
      have h1 := HCX.out (2 * k + 1 + 1) (by simp; omega)
      rw [List.getElem_cons_succ, hty, show o + (2 * k + 1 + 1) = o + 1 + 2 * k + 1 from by omega] at h1
      exact (hT2.low.cell (p := ⟨g, o + 1 + 2 * k + 1, none⟩) hgl).trans h1
    have hnml : nm.length ≤ 90000 := HLX.out nm (by rw [← hnm]; exact List.mem_cons_of_mem _ (List.getElem_mem _))
    have htyl : ty.length ≤ 90000 := HLX.out ty (by rw [← hty]; exact List.mem_cons_of_mem _ (List.getElem_mem _))
    have qR : A2.cell? ⟨W.heap.size, 0, none⟩ = some (.pointer (some ⟨R, 0, none⟩)) := by simp [World.cell?, hT2.bR]
    have r0 : A2.cell? ⟨R, 0, none⟩ = some (.int .i64 line) := (hT2.low.cell (p := ⟨R, 0, none⟩) hRl).trans (by simp [World.cell?, hR])
    have r3 : A2.cell? ⟨R, 3, none⟩ = some (.map (some Kb)) := (hT2.low.cell (p := ⟨R, 3, none⟩) hRl).trans (by simp [World.cell?, hR])
    have rK : keyset A2 Kb 100 kws := keyset_block HI.out.keys (hT2.low.block Kb (by have := HI.out.hK; omega))
    have hs2 : W.heap.size + 8 ≤ A2.heap.size := hT2.sz
    have hN2 : W.heap.size < A2.heap.size := by omega
    have hg2 : g < A2.heap.size := by omega
    have hR2 : R < A2.heap.size := by omega
    have HT2 : Hid (TLoop W.heap.size R g o cap kws l k W A2) := hT2
    have HL2 : Hid (A2.heap[W.heap.size + 7]? = some (.loop rb)) := by rw [hs5] at hL; exact hL
    have HD2 : Hid (A2.heap[W.heap.size + 6]? = some (.deferred (some []))) := by rw [hs5] at hD; exact hD
    clear hT hT2 hOff hL hD hnm hty hk2 k0 k1 k2 k3 k4 k5 hHeld
    refine round_list rfl (by rintro ⟨_, _, h⟩; exact h) ?_
    go_wp2
    try refine ⟨trivial, ?_⟩
    refine wpIn_block ?_
    refine wpIn_seq ?_
    refine round_region (S := fun w' => w'.cell? ⟨W.heap.size, 0, none⟩ = some (.pointer (some ⟨R, 0, none⟩)) ∧ w'.cell? ⟨g, o + 1 + 2 * k, none⟩ = some (.string ⟨nm.toArray⟩) ∧ w'.cell? ⟨g, o + 1 + 2 * k + 1, none⟩ = some (.string ⟨ty.toArray⟩)) (by kernel_rfl) (by kernel_rfl) (by rintro ⟨_, _, h⟩; exact h) ⟨by exact qR, by exact q0, by exact q1⟩ (fun hHeld => ?_)
    refine tk 0 ?_
    refine tk 1 ?_
    refine tk 2 ?_
    refine tk 3 ?_
    refine tk 4 ?_
    refine tk 5 ?_
    refine tk 6 ?_
    have hBa : Below A2.heap.size A2 ((A2.alloc (.cells #[.string ⟨#[]⟩, .int .i64 0] 195)).drew) := by
      have h6 := (Below.refl A2.heap.size A2).alloc (Nat.le_refl _) (.cells #[.string ⟨#[]⟩, .int .i64 0] 195)
      exact ⟨h6.os, h6.tape, h6.output, h6.size, h6.block⟩
    refine wpAnyH_ready (rs := [7, 8]) (by kernel_rfl) (by simp) (AllReadyH.cons rfl (fun K hK => ?_) (AllReadyH.cons rfl (fun K hK => ?_) AllReadyH.nil))
    focus
      go_simp
      refine (r_column R Kb 100 kws line nm ty _ hnml htyl ?_ ?_ ?_).mono ?_
      · exact r0
      · exact r3
      · exact rK
      rintro e w3 (⟨t, hto, hno, rfl, hB3⟩ | ⟨hbad, b, rfl, hb0, hb1, hB3⟩)
      rotate_left
      · have hB3' : Below A2.heap.size A2 w3 := ⟨hB3.os, hB3.tape, hB3.output, hB3.size, hB3.block⟩
        have HBAD : Hid (tyOf ty = none ∨ isNm kws nm = false) := hbad
        clear hbad
        refine ⟨rfl, b, rfl, hb0, hb1, HT2.out.low.trans (hB3'.mono (by omega)), ?_, ?_⟩
        · try rw [hs5]
          exact (hB3'.block _ (by omega)).trans HD2.out
        · intro hg
          have hx := List.all_eq_true.1 hg.1 (nm, ty) (List.mem_of_getElem? HP.out)
          unfold pairOk at hx
          rcases HBAD.out with h | h <;> rw [h] at hx <;> simp at hx
      have HTO : Hid (tyOf ty = some t) := hto
      have HNO : Hid (isNm kws nm = true) := hno
      clear hto hno
      have hB3' : Below A2.heap.size A2 w3 := ⟨hB3.os, hB3.tape, hB3.output, hB3.size, hB3.block⟩
      refine hK.out _ _ ⟨(hB3'.cell (p := ⟨W.heap.size, 0, none⟩) hN2).trans qR, (hB3'.cell (p := ⟨g, o + 1 + 2 * k, none⟩) hg2).trans q0, (hB3'.cell (p := ⟨g, o + 1 + 2 * k + 1, none⟩) hg2).trans q1⟩ (fun hHeld => ?_)
      clear hK K
      refine wpAnyH_ready (rs := [8]) (by kernel_rfl) (by simp) (AllReadyH.cons rfl (fun K hK => ?_) AllReadyH.nil)
      go_simp
      refine hK.out _ _ ?_ (fun hHeld => ?_)
      · refine ⟨?_, ?_, ?_⟩ <;> go_keep
      clear hK K
      refine wpAnyH_ready (rs := [9]) (by kernel_rfl) (by simp) (AllReadyH.cons rfl (fun K hK => ?_) AllReadyH.nil)
      go_simp
      obtain ⟨Cc, hCc⟩ : ∃ Cc, w3.heap.size = Cc := ⟨_, rfl⟩
      have hCc2 : A2.heap.size ≤ Cc := by rw [← hCc]; exact hB3'.size
      have hB4 : Below A2.heap.size A2 (w3.alloc (.cells #[.string ⟨nm.toArray⟩, .int .i64 t] 195)) := hB3'.alloc hB3'.size _
      have hC4 : (w3.alloc (.cells #[.string ⟨nm.toArray⟩, .int .i64 t] 195)).heap[w3.heap.size]? = some (.cells #[.string ⟨nm.toArray⟩, .int .i64 t] 195 (0, 0)) := heap_alloc_new w3 _
      obtain ⟨A4, hA4⟩ : ∃ A4, w3.alloc (.cells #[.string ⟨nm.toArray⟩, .int .i64 t] 195) = A4 := ⟨_, rfl⟩
      rw [hA4] at hB4 hC4 ⊢
      simp only [hCc] at hC4 hK ⊢
      clear hA4 hCc hB3 hB3' hBa
      refine hK.out _ _ ⟨(hB4.cell (p := ⟨W.heap.size, 0, none⟩) hN2).trans qR, (hB4.cell (p := ⟨g, o + 1 + 2 * k, none⟩) hg2).trans q0, (hB4.cell (p := ⟨g, o + 1 + 2 * k + 1, none⟩) hg2).trans q1⟩ (fun hHeld => ?_)
      clear hK K
      refine wpAnyH_done (by kernel_rfl) ?_ _
    rotate_left
    focus
      go_simp
      refine hK.out _ _ ⟨(hBa.cell (p := ⟨W.heap.size, 0, none⟩) hN2).trans qR, (hBa.cell (p := ⟨g, o + 1 + 2 * k, none⟩) hg2).trans q0, (hBa.cell (p := ⟨g, o + 1 + 2 * k + 1, none⟩) hg2).trans q1⟩ (fun hHeld => ?_)
      clear hK K
      refine wpAnyH_ready (rs := [7]) (by kernel_rfl) (by simp) (AllReadyH.cons rfl (fun K hK => ?_) AllReadyH.nil)
      go_simp
      refine (r_column R Kb 100 kws line nm ty _ hnml htyl ?_ ?_ ?_).mono ?_
      · exact (hBa.cell (p := ⟨R, 0, none⟩) hR2).trans r0
      · exact (hBa.cell (p := ⟨R, 3, none⟩) hR2).trans r3
      · exact keyset_below rK hBa
      rintro e w3 (⟨t, hto, hno, rfl, hB3⟩ | ⟨hbad, b, rfl, hb0, hb1, hB3⟩)
      rotate_left
      · have hB3' : Below A2.heap.size A2 w3 := hBa.trans (hB3.mono hBa.size)
        have HBAD : Hid (tyOf ty = none ∨ isNm kws nm = false) := hbad
        clear hbad
        refine ⟨rfl, b, rfl, hb0, hb1, HT2.out.low.trans (hB3'.mono (by omega)), ?_, ?_⟩
        · try rw [hs5]
          exact (hB3'.block _ (by omega)).trans HD2.out
        · intro hg
          have hx := List.all_eq_true.1 hg.1 (nm, ty) (List.mem_of_getElem? HP.out)
          unfold pairOk at hx
          rcases HBAD.out with h | h <;> rw [h] at hx <;> simp at hx
      have HTO : Hid (tyOf ty = some t) := hto
      have HNO : Hid (isNm kws nm = true) := hno
      clear hto hno
      have hB3' : Below A2.heap.size A2 w3 := hBa.trans (hB3.mono hBa.size)
      refine hK.out _ _ ⟨(hB3'.cell (p := ⟨W.heap.size, 0, none⟩) hN2).trans qR, (hB3'.cell (p := ⟨g, o + 1 + 2 * k, none⟩) hg2).trans q0, (hB3'.cell (p := ⟨g, o + 1 + 2 * k + 1, none⟩) hg2).trans q1⟩ (fun hHeld => ?_)
      clear hK K
      have hcc : w3.heap[A2.heap.size]? = some (.cells #[.string ⟨#[]⟩, .int .i64 0] 195 (0, 0)) := (hB3.block A2.heap.size (by simp)).trans (heap_alloc_new A2 _)
      have hc0 : w3.cell? ⟨A2.heap.size, 0, none⟩ = some (.string ⟨#[]⟩) := by simp [World.cell?, hcc]
      have hc1 : w3.cell? ⟨A2.heap.size, 1, none⟩ = some (.int .i64 0) := by simp [World.cell?, hcc]
      have hf0 : w3.frozen? ⟨A2.heap.size, 0, none⟩ = false := by simp [World.frozen?, hcc]
      have hf1 : w3.frozen? ⟨A2.heap.size, 1, none⟩ = false := by simp [World.frozen?, hcc]
      refine wpAnyH_ready (rs := [9]) (by kernel_rfl) (by simp) (AllReadyH.cons rfl (fun K hK => ?_) AllReadyH.nil)
      go_simp
      obtain ⟨Cc, hCc⟩ : ∃ Cc, A2.heap.size = Cc := ⟨_, rfl⟩
      have hCc2 : A2.heap.size ≤ Cc := by rw [← hCc]; exact Nat.le_refl _
      have hB4 : Below A2.heap.size A2 ((w3.setCell ⟨A2.heap.size, 0, none⟩ (.string ⟨nm.toArray⟩)).setCell ⟨A2.heap.size, 1, none⟩ (.int .i64 t)) := (hB3'.setCell (p := ⟨A2.heap.size, 0, none⟩) (Nat.le_refl _) _).setCell (p := ⟨A2.heap.size, 1, none⟩) (Nat.le_refl _) _
      have hC4 : ((w3.setCell ⟨A2.heap.size, 0, none⟩ (.string ⟨nm.toArray⟩)).setCell ⟨A2.heap.size, 1, none⟩ (.int .i64 t)).heap[A2.heap.size]? = some (.cells #[.string ⟨nm.toArray⟩, .int .i64 t] 195 (0, 0)) := setCell_heap (setCell_heap hcc)
      obtain ⟨A4, hA4⟩ : ∃ A4, ((w3.setCell ⟨A2.heap.size, 0, none⟩ (.string ⟨nm.toArray⟩)).setCell ⟨A2.heap.size, 1, none⟩ (.int .i64 t)) = A4 := ⟨_, rfl⟩
      rw [hA4] at hB4 hC4 ⊢
      rw [hCc] at hC4 ⊢
      clear hA4 hB3 hB3' hBa hcc hc0 hc1 hf0 hf1 hCc
      refine hK.out _ _ ⟨(hB4.cell (p := ⟨W.heap.size, 0, none⟩) hN2).trans qR, (hB4.cell (p := ⟨g, o + 1 + 2 * k, none⟩) hg2).trans q0, (hB4.cell (p := ⟨g, o + 1 + 2 * k + 1, none⟩) hg2).trans q1⟩ (fun hHeld => ?_)
      clear hK K
      refine wpAnyH_done (by kernel_rfl) ?_ _
    all_goals
      have hT4 := HT2.out.grow hB4
      obtain ⟨cv, t1, t2⟩ := HT2.out.tb
      obtain ⟨ac, cc, rfl⟩ := own_slice t2
      have hown2 : ∀ g1, (Value.slice ac k cc).ownBlock = some g1 → W.heap.size + 8 ≤ g1 ∧ g1 < A2.heap.size := fun g1 e => t2.lt g1 e
      replace t1 := (hB4.block (W.heap.size + 2) (by omega)).trans t1
      replace t2 := own_below t2 hB4
      have HNE : Hid (∀ b, (b < W.heap.size + 8 ∨ A2.heap.size ≤ b) → some b ≠ (Value.slice ac k cc).ownBlock) := by
        intro b hb e
        have := hown2 b e.symm
        omega
      clear hown2
      have HL4 : Hid (A4.heap[W.heap.size + 7]? = some (.loop rb)) := (hB4.block _ (by omega)).trans HL2.out
      have HD4 : Hid (A4.heap[W.heap.size + 6]? = some (.deferred (some []))) := (hB4.block _ (by omega)).trans HD2.out
      have HF4 : Hid (A4.heap[W.heap.size + 4]? = A.heap[W.heap.size + 4]?) := (hB4.block _ (by omega)).trans HF2.out
      have HG4 : Hid (A4.heap[W.heap.size + 5]? = A.heap[W.heap.size + 5]?) := (hB4.block _ (by omega)).trans HG2.out
      have hs4 : W.heap.size + 8 ≤ A4.heap.size := hT4.sz
      have hC4l : Cc < A4.heap.size := (Array.getElem?_eq_some_iff.1 hC4).1
      have hNc : W.heap.size + 8 ≤ Cc := by omega
      clear hHeld q0 q1 qR r0 r3 rK hB4 HL2 HD2 HF2 HG2 HT2 hs2 hN2 hg2 hR2
      have p3 : A4.cell? ⟨W.heap.size + 3, 0, none⟩ = some (.pointer (some ⟨W.heap.size + 2, 0, none⟩)) := by simp [World.cell?, hT4.bT]
      have p1 : A4.cell? ⟨W.heap.size + 2, 1, none⟩ = some (.map (some (W.heap.size + 1))) := by simp [World.cell?, t1]
      have p0 : A4.cell? ⟨W.heap.size + 2, 0, none⟩ = some (.slice ac k cc) := by simp [World.cell?, t1]
      have pc : A4.cell? ⟨Cc, 0, none⟩ = some (.string ⟨nm.toArray⟩) := by simp [World.cell?, hC4]
      obtain ⟨w8, hr8, ho8, hg8⟩ := World.ownsMap.update (w := A4.drew) (val := .int .i64 k) hT4.pl strKeyed Tryz.underlying185 (by unfold maxLen; omega) (strKey nm (by omega)) rfl
      have hv8 := upd_val (w := A4.drew) (val := .int .i64 k) (d := nI k) hT4.pv Tryz.underlying185 (by unfold maxLen; omega) (show nm.length ≤ 100000 by omega) rfl hr8
      have HT4 : Hid (TLoop W.heap.size R g o cap kws l k W A4) := hT4
      clear hT4
      refine wpIn_seq ?_
      refine round_region (S := fun w' => w'.cell? ⟨W.heap.size + 3, 0, none⟩ = some (.pointer (some ⟨W.heap.size + 2, 0, none⟩)) ∧ w'.cell? ⟨W.heap.size + 2, 1, none⟩ = some (.map (some (W.heap.size + 1))) ∧ w'.cell? ⟨W.heap.size + 2, 0, none⟩ = some (.slice ac k cc) ∧ w'.cell? ⟨Cc, 0, none⟩ = some (.string ⟨nm.toArray⟩)) (by kernel_rfl) (by kernel_rfl) (by rintro ⟨_, _, h⟩; exact h) ⟨by exact p3, by exact p1, by exact p0, by exact pc⟩ (fun hHeld => ?_)
      refine tk 0 ?_
      refine tk 1 ?_
      refine tk 2 ?_
      refine tk 3 ?_
      refine tk 4 ?_
      refine tk 5 ?_
      refine tk 6 ?_
      refine tk 7 ?_
      refine tk 8 ?_
      refine tk 9 ?_
      refine tk 10 ?_
      refine wpAnyH_ready (rs := [11]) (by kernel_rfl) (by simp) (AllReadyH.cons rfl (fun K hK => ?_) AllReadyH.nil)
      go_simp
      have lo8 : ∀ b, b < A4.heap.size → b ≠ W.heap.size + 1 → w8.heap[b]? = A4.heap[b]? := fun b hb hne => hg8.block b hb (fun e => hne (Option.some.inj e))
      have lo8c : ∀ b j, b < A4.heap.size → b ≠ W.heap.size + 1 → w8.cell? ⟨b, j, none⟩ = A4.cell? ⟨b, j, none⟩ := fun b j hb hne => World.cell?_of_block (a := ⟨b, j, none⟩) (lo8 b hb hne)
      refine hK.out _ _ ⟨(lo8c (W.heap.size + 3) 0 (by omega) (by omega)).trans p3, (lo8c (W.heap.size + 2) 1 (by omega) (by omega)).trans p1, (lo8c (W.heap.size + 2) 0 (by omega) (by omega)).trans p0, (lo8c Cc 0 (by omega) (by omega)).trans pc⟩ (fun hHeld => ?_)
      clear hK K
      refine wpAnyH_done (by kernel_rfl) ?_ _
      have p38 := (lo8c (W.heap.size + 3) 0 (by omega) (by omega)).trans p3
      have p08 := (lo8c (W.heap.size + 2) 0 (by omega) (by omega)).trans p0
      have pc08 := (lo8c Cc 0 (by omega) (by omega)).trans pc
      have pc18 : w8.cell? ⟨Cc, 1, none⟩ = some (.int .i64 t) := (lo8c Cc 1 (by omega) (by omega)).trans (by simp [World.cell?, hC4])
      have hs8 : A4.heap.size ≤ w8.heap.size := hg8.size
      have t18 : w8.heap[W.heap.size + 2]? = some (.cells #[.slice ac k cc, .map (some (W.heap.size + 1)), .slice none 0 0] 189 (0, 0)) := (lo8 _ (by omega) (by omega)).trans t1
      have t28 : w8.ownsRow (W.heap.size + 8) 195 2 (.slice ac k cc) k (colCells (colsOf ((pairsOf l).take k))) := by
        refine ⟨t2.1, ?_⟩
        rcases t2.2 with h0 | ⟨g1, cap1, cu1, e1, hg1, hh1, r1⟩
        · exact .inl h0
        · exact .inr ⟨g1, cap1, cu1, e1, hg1, (lo8 g1 (Array.getElem?_eq_some_iff.1 hh1).1 (by omega)).trans hh1, r1⟩
      have HO8 : Hid (w8.ownsMap Tryz.prog 9 anyElem (W.heap.size + 1) (k + 1) ((keyD (((pairsOf l).take k).map (·.1))).put (keyL nm) (.agg []))) := ho8
      have HV8 : Hid (valset w8 (W.heap.size + 1) (k + 1) (placesOf (((pairsOf l).take k).map (·.1)) ++ [(nm, nI k)])) := hv8
      have HLO8 : Hid (∀ b, b < A4.heap.size → b ≠ W.heap.size + 1 → w8.heap[b]? = A4.heap[b]?) := lo8
      have HB8 : Hid (Below W.heap.size W w8) := (show Below W.heap.size W A4.drew from ⟨HT4.out.low.os, HT4.out.low.tape, HT4.out.low.output, HT4.out.low.size, HT4.out.low.block⟩).grown hg8 HT4.out.low.size (fun b e => by have := Option.some.inj e; omega)
      have p08a : ∀ ob, (w8.alloc ob).cell? ⟨W.heap.size + 2, 0, none⟩ = some (.slice ac k cc) := fun ob => (World.cell?_alloc_lt w8 ob ⟨W.heap.size + 2, 0, none⟩ (show W.heap.size + 2 < w8.heap.size by omega)).trans p08
      clear hHeld p3 p1 p0 pc hr8 ho8 hv8 hg8 lo8 lo8c t1 t2 hC4
      obtain ⟨i0, hi, hz0, hz1, hz2⟩ := info_parts Tryz.infoCol
      refine round_region (S := fun w' => w'.cell? ⟨W.heap.size + 3, 0, none⟩ = some (.pointer (some ⟨W.heap.size + 2, 0, none⟩)) ∧ w'.cell? ⟨Cc, 0, none⟩ = some (.string ⟨nm.toArray⟩) ∧ w'.cell? ⟨Cc, 1, none⟩ = some (.int .i64 t)) (by kernel_rfl) (by kernel_rfl) (by rintro ⟨_, _, h⟩; exact h) ⟨by exact p38, by exact pc08, by exact pc18⟩ (fun hHeld => ?_)
      refine tk 0 ?_
      refine tk 1 ?_
      refine tk 2 ?_
      refine tk 3 ?_
      refine tk 5 ?_
      refine wpAnyH_ready (rs := [4, 6]) (by kernel_rfl) (by simp) (AllReadyH.cons rfl (fun K hK => ?_) (AllReadyH.cons rfl (fun K hK => ?_) AllReadyH.nil))
      focus
        go_simp
        refine hK.out _ _ ⟨by exact p38, by exact pc08, by exact pc18⟩ (fun hHeld => ?_)
        clear hK K
        refine wpAnyH_ready (rs := [6]) (by kernel_rfl) (by simp) (AllReadyH.cons rfl (fun K hK => ?_) AllReadyH.nil)
        go_simp
        refine hK.out _ _ ?_ (fun hHeld => ?_)
        · refine ⟨?_, ?_, ?_⟩ <;> go_keep
        clear hK K
      rotate_left
      focus
        go_simp
        refine hK.out _ _ ?_ (fun hHeld => ?_)
        · refine ⟨?_, ?_, ?_⟩ <;> go_keep
        clear hK K
        refine wpAnyH_ready (rs := [4]) (by kernel_rfl) (by simp) (AllReadyH.cons rfl (fun K hK => ?_) AllReadyH.nil)
        go_simp
        refine hK.out _ _ ?_ (fun hHeld => ?_)
        · refine ⟨?_, ?_, ?_⟩ <;> go_keep
        clear hK K
      all_goals
        refine wpAnyH_ready (rs := [7]) (by kernel_rfl) (by simp) (AllReadyH.cons rfl (fun K hK => ?_) AllReadyH.nil)
        refine step_append_lies _ rfl _ _ 186 rfl (W.heap.size + 8) 195 i0 (.agg #[.string ⟨#[]⟩, .int .i64 0]) 2 24 Tryz.underlying186 hi hz0 hz1 hz2 rfl (by decide) (.slice ac k cc) k (colCells (colsOf ((pairsOf l).take k))) rfl (by exact t28.alloc _) ⟨w8.heap.size, 0, none⟩ 1 1 [.string ⟨nm.toArray⟩, .int .i64 t] rfl rfl (by exact cell_two _ _ _ _) (by simp [Value.oneCell']) (by omega) (by unfold maxLen; omega) (by omega) (by simp; omega) _ rfl ?_
        intro g' cap' w9 hown' hgrow hlies hltg
        have lo9 : ∀ b, b < w8.heap.size → (b < W.heap.size + 8 ∨ A2.heap.size ≤ b) → w9.heap[b]? = w8.heap[b]? := fun b hb hne => (hgrow.block b (by simp; omega) (HNE.out b hne)).trans (Below.heap_alloc _ _ b hb)
        have lo9c : ∀ b j, b < w8.heap.size → (b < W.heap.size + 8 ∨ A2.heap.size ≤ b) → w9.cell? ⟨b, j, none⟩ = w8.cell? ⟨b, j, none⟩ := fun b j hb hne => World.cell?_of_block (a := ⟨b, j, none⟩) (lo9 b hb hne)
        have p39 := (lo9c (W.heap.size + 3) 0 (by omega) (by omega)).trans p38
        have pc09 := (lo9c Cc 0 (by omega) (by omega)).trans pc08
        have pc19 := (lo9c Cc 1 (by omega) (by omega)).trans pc18
        have hT9 := (lo9 (W.heap.size + 2) (by omega) (by omega)).trans t18
        obtain ⟨z0, z1, z2, zf⟩ := cells3 hT9
        have zf0 := zf 0
        refine hK.out _ _ ⟨p39, pc09, pc19⟩ (fun hHeld => ?_)
        clear hK K
        refine tk 8 ?_
        refine tk 9 ?_
        refine wpAnyH_ready (rs := [10]) (by kernel_rfl) (by simp) (AllReadyH.cons rfl (fun K hK => ?_) AllReadyH.nil)
        go_simp
        refine hK.out _ _ ⟨(World.cell?_of_block (a := ⟨W.heap.size + 3, 0, none⟩) (Below.heap_setCell w9 ⟨W.heap.size + 2, 0, none⟩ _ (W.heap.size + 3) (by show W.heap.size + 3 ≠ W.heap.size + 2; omega))).trans p39, (World.cell?_of_block (a := ⟨Cc, 0, none⟩) (Below.heap_setCell w9 ⟨W.heap.size + 2, 0, none⟩ _ Cc (by show Cc ≠ W.heap.size + 2; omega))).trans pc09, (World.cell?_of_block (a := ⟨Cc, 1, none⟩) (Below.heap_setCell w9 ⟨W.heap.size + 2, 0, none⟩ _ Cc (by show Cc ≠ W.heap.size + 2; omega))).trans pc19⟩ (fun hHeld => ?_)
        clear hK K
        refine wpAnyH_done (by kernel_rfl) ?_ _
        have hs9 : w8.heap.size ≤ w9.heap.size := by have := hgrow.size; simp at this; omega
        have HB9 : Below W.heap.size W w9 := (show Below W.heap.size W (w8.alloc (.cells #[.string ⟨nm.toArray⟩, .int .i64 t] 195)).drew from by
            have h6 := HB8.out.alloc (by omega) (.cells #[.string ⟨nm.toArray⟩, .int .i64 t] 195)
            exact ⟨h6.os, h6.tape, h6.output, h6.size, h6.block⟩).grown hgrow (by simp; omega) (fun b e => by have := (t28.lt b e).1; omega)
        have HB10 := HB9.setCell (p := ⟨W.heap.size + 2, 0, none⟩) (show W.heap.size ≤ W.heap.size + 2 by omega) (.slice (some ⟨g', 0, none⟩) (k + 1) cap')
        have lo10 : ∀ b, b < W.heap.size + 8 → b ≠ W.heap.size + 1 → b ≠ W.heap.size + 2 → (w9.setCell ⟨W.heap.size + 2, 0, none⟩ (.slice (some ⟨g', 0, none⟩) (k + 1) cap')).heap[b]? = A4.heap[b]? := fun b hb h1 h2 =>
          (Below.heap_setCell w9 ⟨W.heap.size + 2, 0, none⟩ _ b h2).trans ((lo9 b (by omega) (.inl hb)).trans (HLO8.out b (by omega) h1))
        have hm10 : (w9.setCell ⟨W.heap.size + 2, 0, none⟩ (.slice (some ⟨g', 0, none⟩) (k + 1) cap')).heap[W.heap.size + 1]? = w8.heap[W.heap.size + 1]? := (Below.heap_setCell w9 ⟨W.heap.size + 2, 0, none⟩ _ (W.heap.size + 1) (by show W.heap.size + 1 ≠ W.heap.size + 2; omega)).trans (lo9 _ (by omega) (by omega))
        have hT10 : TLoop W.heap.size R g o cap kws l (k + 1) W (w9.setCell ⟨W.heap.size + 2, 0, none⟩ (.slice (some ⟨g', 0, none⟩) (k + 1) cap')) := by
          have htk := take_get (pairsOf l) k _ HP.out
          refine ⟨HB10, (lo10 _ (by omega) (by omega) (by omega)).trans HT4.out.bR, (lo10 _ (by omega) (by omega) (by omega)).trans HT4.out.bT, (lo10 _ (by omega) (by omega) (by omega)).trans HT4.out.bF, (lo10 _ (by omega) (by omega) (by omega)).trans HT4.out.b2, ?_, ?_, ?_, ⟨_, setCell_heap hT9, ?_⟩, ?_⟩
          · simp; omega
          · have h6 := HO8.out
            rw [put_keys] at h6
            rw [htk, List.map_append]
            exact keyset_block h6 hm10
          · have h6 := HV8.out
            have hkl : (((pairsOf l).take k).map (·.1)).length = k := by
              have := (List.getElem?_eq_some_iff.1 HP.out).1
              simp; omega
            rw [htk, List.map_append, List.map_cons, List.map_nil, placesOf_app, hkl]
            exact valset_block h6 hm10
          · have h6 := own_setCell (k := 0) (u := .slice (some ⟨g', 0, none⟩) (k + 1) cap') hown' hT9 (by decide)
            rw [htk]
            have e6 : colCells (colsOf ((pairsOf l).take k ++ [(nm, ty)])) = colCells (colsOf ((pairsOf l).take k)) ++ [.string ⟨nm.toArray⟩, .int .i64 t] := by
              unfold colCells colsOf
              rw [List.map_append, List.flatMap_append]
              simp only [List.map_cons, List.map_nil, HTO.out, Option.getD_some]
              rfl
            rw [e6]
            exact h6
          · rw [htk, List.all_append, HT4.out.ok]
            simp [pairOk, HTO.out, HNO.out]
        have y7 := (lo10 (W.heap.size + 7) (by omega) (by omega) (by omega)).trans HL4.out
        have y6 := (lo10 (W.heap.size + 6) (by omega) (by omega) (by omega)).trans HD4.out
        refine ⟨by first | exact y7 | (rw [hs5]; exact y7), by first | exact y6 | (rw [hs5]; exact y6), fun A' hO => ?_⟩
        have hOb : ∀ b, b ≠ W.heap.size + 7 → A'.heap[b]? = (w9.setCell ⟨W.heap.size + 2, 0, none⟩ (.slice (some ⟨g', 0, none⟩) (k + 1) cap')).heap[b]? := fun b hb => hO.block b (by first | exact hb | (rw [hs5]; exact hb))
        refine ⟨?_, ?_, ?_⟩
        · exact hT10.same (Nat.le_of_eq hO.size.symm) hO.os hO.tape hO.output (fun b _ hb => hOb b hb)
        · exact (hOb _ (by omega)).trans ((lo10 _ (by omega) (by omega) (by omega)).trans HF4.out)
        · exact (hOb _ (by omega)).trans ((lo10 _ (by omega) (by omega) (by omega)).trans HG4.out)
  · intro A A2 hT hOff hD
    rw [hs5] at hOff hD
    have hT2 : TLoop W.heap.size R g o cap kws l m W A2 := hT.same (Nat.le_of_eq hOff.size.symm) hOff.os hOff.tape hOff.output (fun b _ hb => hOff.block b hb)
    have hplen : (pairsOf l).length = m := by rw [pairs_len]; omega
    have htake : (pairsOf l).take m = pairsOf l := List.take_of_length_le (by omega)
    obtain ⟨cv, t1, t2⟩ := hT2.tb
    have hpl := hT2.pl
    have hall := hT2.ok
    have hpv := hT2.pv
    rw [htake] at t2 hpl hpv hall
    have HPV := (show Hid _ from hpv)
    clear hpv
    obtain ⟨ac, cc, rfl⟩ := own_slice t2
    have hs2 : W.heap.size + 8 ≤ A2.heap.size := hT2.sz
    have p0 : A2.cell? ⟨W.heap.size, 0, none⟩ = some (.pointer (some ⟨R, 0, none⟩)) := by simp [World.cell?, hT2.bR]
    have p3 : A2.cell? ⟨W.heap.size + 3, 0, none⟩ = some (.pointer (some ⟨W.heap.size + 2, 0, none⟩)) := by simp [World.cell?, hT2.bT]
    have pt1 : A2.cell? ⟨W.heap.size + 2, 1, none⟩ = some (.map (some (W.heap.size + 1))) := by simp [World.cell?, t1]
    have pt0 : A2.cell? ⟨W.heap.size + 2, 0, none⟩ = some (.slice ac m cc) := by simp [World.cell?, t1]
    have r0 : A2.cell? ⟨R, 0, none⟩ = some (.int .i64 line) := (hT2.low.cell (p := ⟨R, 0, none⟩) hRl).trans (by simp [World.cell?, hR])
    have hRA : A2.heap[R]? = some (.cells #[.int .i64 line, .map (some M), v, .map (some Kb)] 108 (0, 0)) := (hT2.low.block R hRl).trans hR
    have r1 : A2.cell? ⟨R, 1, none⟩ = some (.map (some M)) := by simp [World.cell?, hRA]
    have gx : A2.cell? ⟨g, o, none⟩ = some (.string ⟨x.toArray⟩) := (hT2.low.cell (p := ⟨g, o, none⟩) hgl).trans (HCX.out 0 (by simp))
    have HT2 : Hid (TLoop W.heap.size R g o cap kws l m W A2) := hT2
    have HALL : Hid ((pairsOf l).all (pairOk kws) = true) := hall
    have HT1 : Hid (A2.heap[W.heap.size + 2]? = some (.cells #[.slice ac m cc, .map (some (W.heap.size + 1)), .slice none 0 0] 189 (0, 0))) := t1
    have HTW : Hid (A2.ownsRow (W.heap.size + 8) 195 2 (.slice ac m cc) m (colCells (colsOf (pairsOf l)))) := t2
    have HD2 : Hid (A2.heap[W.heap.size + 6]? = some (.deferred (some []))) := hD
    have hlenP : ∀ w, keyset w (W.heap.size + 1) m ((pairsOf l).map (·.1)) → (Builtin.len_ #[185] 3 #[.map (some (W.heap.size + 1))]).run Tryz.prog w = .ok (.int .i64 (dedup ((pairsOf l).map (·.1))).length) w := by
      intro w h
      have h1 := World.ownsMap.len h Tryz.underlying185 3
      rw [size_keys] at h1
      exact h1
    have hdn := dedup_nodup ((pairsOf l).map (·.1))
    rw [List.length_map, hplen] at hdn
    have hdle := dedup_le ((pairsOf l).map (·.1))
    rw [List.length_map, hplen] at hdle
    obtain ⟨d, hd⟩ : ∃ d, (dedup ((pairsOf l).map (·.1))).length = d := ⟨_, rfl⟩
    rw [hd] at hdn hdle hlenP
    clear hT hT2 hOff hD t1 t2 hall hd k0 k1 k2 k3 k4 k5 hHeld
    by_cases hdm : d = m
    · subst hdm
      have HGOOD : Hid (colsGood kws l) := ⟨HALL.out, hdn.1 rfl⟩
      clear hdn hdle
      refine wpB_seq (wpB_wp ?_)
      refine wp_region_noPanic ?_
      refine wp_region_held_drew (S := fun w' => w'.cell? ⟨W.heap.size, 0, none⟩ = some (.pointer (some ⟨R, 0, none⟩)) ∧ w'.cell? ⟨W.heap.size + 3, 0, none⟩ = some (.pointer (some ⟨W.heap.size + 2, 0, none⟩)) ∧ w'.cell? ⟨W.heap.size + 2, 1, none⟩ = some (.map (some (W.heap.size + 1))) ∧ w'.cell? ⟨W.heap.size + 2, 0, none⟩ = some (.slice ac d cc) ∧ keyset w' (W.heap.size + 1) d ((pairsOf l).map (·.1))) (by kernel_rfl) ⟨by exact p0, by exact p3, by exact pt1, by exact pt0, by exact hpl⟩ (fun hHeld => ?_)
      refine tk 0 ?_
      refine tk 1 ?_
      refine tk 2 ?_
      refine tk 3 ?_
      refine tk 4 ?_
      refine wpAnyH_take (i := 5) (v := .int .i64 d) rfl (by kernel_rfl) (by kernel_rfl) (by kernel_rfl) (fun _ _ _ h => h) (Or.inl ⟨by rfl, ?_⟩) (by assumption) ?_
      · intro w hSw
        have hl := hlenP w hSw.2.2.2.2
        clear hSw
        go_simp
      try simp only [Act.put, List.setIfInBounds_toArray, List.set_cons_zero, List.set_cons_succ, List.getElem_toArray, List.getElem_cons_zero, List.getElem_cons_succ]
      refine tk 6 ?_
      refine tk 7 ?_
      refine tk 8 ?_
      refine tk 9 ?_
      refine tk 10 ?_
      refine tk 11 ?_
      refine wpAnyH_ready (rs := [12]) (by kernel_rfl) (by simp) (AllReadyH.cons rfl (fun K hK => ?_) AllReadyH.nil)
      go_simp
      go_wp2_with fail
      refine (r_must_true _ _).mono ?_
      rintro e w' ⟨rfl, rfl⟩
      go_wp2_with fail
      refine hK.out _ _ ⟨by exact p0, by exact p3, by exact pt1, by exact pt0, by exact hpl⟩ (fun hHeld => ?_)
      clear hK K
      refine wpAnyH_done (by kernel_rfl) (NoPanic.normal ?_) _
      have hpos : (0 : Int) < 2 * (d : Int) + 1 := by omega
      have hlM : M < W.heap.size := by have := HI.out.hM; omega
      obtain ⟨w11, hr11, ho11, hg11⟩ := World.ownsMap.update (w := A2.drew.drew) (val := .pointer (some ⟨W.heap.size + 2, 0, none⟩)) (show keyset A2.drew.drew M st.names.length st.names from keyset_block HI.out.names (HT2.out.low.block M hlM)) strKeyed Tryz.underlying71 (by unfold maxLen; omega) (strKey x (by omega)) rfl
      obtain ⟨htn, Ts, htl, htv, htt⟩ := HI.out.tabs
      have htnl : st.tabs.length = st.names.length := by rw [← htn, List.length_map]
      have hv11 := upd_val (w := A2.drew.drew) (val := .pointer (some ⟨W.heap.size + 2, 0, none⟩)) (d := nP (W.heap.size + 2)) (valset_block (w' := A2.drew.drew) htv (HT2.out.low.block M hlM)) Tryz.underlying71 (by unfold maxLen; omega) (show x.length ≤ 100000 by omega) rfl hr11
      have HTB0 : Hid (st.tabs.map (·.1) = st.names ∧ st.tabs.length = Ts.length ∧ (∀ p ∈ st.tabs.zip Ts, TabM B W p.2 p.1.2) ∧ valset w11 M (st.tabs.length + 1) (tabKvs st.tabs Ts ++ [(x, nP (W.heap.size + 2))])) := ⟨htn, htl, htt, hv11⟩
      clear htn htl htv htt hv11 htnl
      clear hHeld
      refine wpB_seq (wpB_wp ?_)
      refine wp_region_noPanic ?_
      refine wp_region_held_drew (S := fun w' => w'.cell? ⟨W.heap.size, 0, none⟩ = some (.pointer (some ⟨R, 0, none⟩)) ∧ w'.cell? ⟨W.heap.size + 3, 0, none⟩ = some (.pointer (some ⟨W.heap.size + 2, 0, none⟩)) ∧ w'.cell? ⟨R, 1, none⟩ = some (.map (some M)) ∧ w'.cell? ⟨g, o, none⟩ = some (.string ⟨x.toArray⟩)) (by kernel_rfl) ⟨by exact p0, by exact p3, by exact r1, by exact gx⟩ (fun hHeld => ?_)
      refine tk 0 ?_
      refine tk 1 ?_
      refine tk 2 ?_
      refine tk 3 ?_
      refine tk 4 ?_
      refine tk 5 ?_
      refine tk 6 ?_
      refine tk 7 ?_
      refine wpAnyH_ready (rs := [8]) (by kernel_rfl) (by simp) (AllReadyH.cons rfl (fun K hK => ?_) AllReadyH.nil)
      go_simp
      have lo11 : ∀ b, b < A2.heap.size → b ≠ M → w11.heap[b]? = A2.heap[b]? := fun b hb hne => hg11.block b hb (fun e => hne (Option.some.inj e))
      have hcM : ∀ ob, A2.heap[M]? = some ob → (∃ es clk, ob = .map es clk) := by
        intro ob h1
        obtain ⟨es, clk, h2, _⟩ := HI.out.names
        rw [HT2.out.low.block M hlM, h2] at h1
        exact ⟨es, clk, (Option.some.inj h1).symm⟩
      have hgM : g ≠ M := by
        intro e
        subst e
        obtain ⟨es, clk, h2, _⟩ := HI.out.names
        have h3 := HCX.out 0 (by simp)
        simp [World.cell?, h2] at h3
      refine hK.out _ _ ⟨?_, ?_, ?_, ?_⟩ (fun hHeld => ?_)
      · exact (World.cell?_of_block (a := ⟨W.heap.size, 0, none⟩) (lo11 W.heap.size (by omega) (by omega))).trans p0
      · exact (World.cell?_of_block (a := ⟨W.heap.size + 3, 0, none⟩) (lo11 (W.heap.size + 3) (by omega) (by omega))).trans p3
      · exact (World.cell?_of_block (a := ⟨R, 1, none⟩) (lo11 R (by omega) HI.out.hRM)).trans r1
      · exact (World.cell?_of_block (a := ⟨g, o, none⟩) (lo11 g (by omega) hgM)).trans gx
      clear hK K
      refine wpAnyH_done (by kernel_rfl) (NoPanic.normal ?_) _
      have hR11 : w11.heap[R]? = some (.cells #[.int .i64 line, .map (some M), v, .map (some Kb)] 108 (0, 0)) := (lo11 R (by omega) HI.out.hRM).trans hRA
      have u0 := (World.cell?_of_block (a := ⟨W.heap.size, 0, none⟩) (lo11 W.heap.size (by omega) (by omega))).trans p0
      have u3 := (World.cell?_of_block (a := ⟨W.heap.size + 3, 0, none⟩) (lo11 (W.heap.size + 3) (by omega) (by omega))).trans p3
      have ur : w11.cell? ⟨R, 2, none⟩ = some v := by simp [World.cell?, hR11]
      have uf : w11.frozen? ⟨R, 2, none⟩ = false := by simp [World.frozen?, hR11]
      have HO11 : Hid (w11.ownsMap Tryz.prog 9 anyElem M (st.names.length + 1) ((keyD st.names).put (keyL x) (.agg []))) := ho11
      have HLO11 : Hid (∀ b, b < A2.heap.size → b ≠ M → w11.heap[b]? = A2.heap[b]?) := lo11
      have HG11 : Hid (w11.os = A2.os ∧ w11.tape = A2.tape ∧ w11.output = A2.output ∧ A2.heap.size ≤ w11.heap.size) := ⟨hg11.os, hg11.tape, hg11.output, hg11.size⟩
      have HR11 : Hid (w11.heap[R]? = some (.cells #[.int .i64 line, .map (some M), v, .map (some Kb)] 108 (0, 0))) := hR11
      clear hHeld p0 p3 r1 gx r0 hr11 ho11 hg11 lo11 hcM hRA hR11 pt1 pt0 hpl hlenP
      refine wpB_wp ?_
      go_wp2
      have hsz11 := HG11.out.2.2.2
      have hRl2 : R < A2.heap.size := by omega
      have hD12 : (w11.setCell ⟨R, 2, none⟩ (.pointer (some ⟨W.heap.size + 2, 0, none⟩))).heap[W.heap.size + 6]? = some (.deferred (some [])) := (Below.heap_setCell w11 ⟨R, 2, none⟩ _ (W.heap.size + 6) (by show W.heap.size + 6 ≠ R; omega)).trans ((HLO11.out (W.heap.size + 6) (by omega) (by omega)).trans HD2.out)
      refine leave_ret (v := .tuple #[]) hD12 (by simp [results, Tryz.results68]) (.inl ⟨HGOOD.out, rfl, ?_, ?_⟩)
      · have lo12 : ∀ b, b < A2.heap.size → b ≠ M → b ≠ R → b ≠ W.heap.size + 6 → ((w11.setCell ⟨R, 2, none⟩ (.pointer (some ⟨W.heap.size + 2, 0, none⟩))).putObj (W.heap.size + 6) (.deferred none)).heap[b]? = A2.heap[b]? := fun b hb h1 h2 h3 =>
          (World.putObj_heap_other h3).trans ((Below.heap_setCell w11 ⟨R, 2, none⟩ _ b h2).trans (HLO11.out b hb h1))
        have hKl := HI.out.hK
        have hcl : (colsOf (pairsOf l)).length = d := by unfold colsOf; rw [List.length_map, hplen]
        refine ⟨HI.out.hR, HI.out.hM, HI.out.hK, HI.out.hRM, HI.out.hMK, HI.out.hRK, ?_, ?_, ?_, ?_, ?_, ?_⟩
        · rw [size_putObj]; simp; omega
        · show (st.names ++ [x]).Nodup
          rw [List.nodup_append]
          refine ⟨HI.out.nd, by simp, ?_⟩
          intro a ha b hb e
          have h6 := HK2.out
          rw [List.mem_singleton] at hb
          subst hb; subst e
          have : st.names.contains a = true := List.contains_iff_mem.2 ha
          rw [h6] at this; cases this
        · show keyset _ M (st.names ++ [x]).length (st.names ++ [x])
          have h6 := HO11.out
          rw [put_keys] at h6
          rw [List.length_append]
          exact keyset_block h6 ((World.putObj_heap_other (by omega)).trans (Below.heap_setCell w11 ⟨R, 2, none⟩ _ M (Ne.symm HI.out.hRM)))
        · exact keyset_block HI.out.keys ((lo12 Kb (by omega) (Ne.symm HI.out.hMK) (Ne.symm HI.out.hRK) (by omega)).trans (HT2.out.low.block Kb (by omega)))
        · obtain ⟨htn, htl, htt, hv11⟩ := HTB0.out
          have hBl := HI.out.hB
          have hMl := HI.out.hM
          have hRl3 := HI.out.hR
          have hzip : (st.tabs ++ [(x, colsOf (pairsOf l))]).zip (Ts ++ [W.heap.size + 2]) = st.tabs.zip Ts ++ [((x, colsOf (pairsOf l)), W.heap.size + 2)] := by rw [List.zip_append htl]; rfl
          refine ⟨by show (st.tabs ++ [(x, colsOf (pairsOf l))]).map (·.1) = st.names ++ [x]; rw [List.map_append, htn]; rfl, Ts ++ [W.heap.size + 2], by simp [htl], ?_, fun p hp => ?_⟩
          · show valset _ M (st.tabs ++ [(x, colsOf (pairsOf l))]).length (tabKvs (st.tabs ++ [(x, colsOf (pairsOf l))]) (Ts ++ [W.heap.size + 2]))
            unfold tabKvs
            rw [hzip, List.map_append, List.length_append]
            exact valset_block hv11 ((World.putObj_heap_other (by omega)).trans (Below.heap_setCell w11 ⟨R, 2, none⟩ _ M (Ne.symm HI.out.hRM)))
          · have hp' : p ∈ st.tabs.zip Ts ++ [((x, colsOf (pairsOf l)), W.heap.size + 2)] := by rw [← hzip]; exact hp
            rcases List.mem_append.1 hp' with hp' | hp'
            · have hx : ∀ g o, B ≤ g → W.heap[g]? = some o → ((w11.setCell ⟨R, 2, none⟩ (.pointer (some ⟨W.heap.size + 2, 0, none⟩))).putObj (W.heap.size + 6) (.deferred none)).heap[g]? = some o := fun g o hg e => by
                have hl := (Array.getElem?_eq_some_iff.1 e).1
                exact (lo12 g (by omega) (by omega) (by omega) (by omega)).trans ((HT2.out.low.block g hl).trans e)
              exact (htt p hp').typed (fun g _ _ hg e => hx g _ hg e) (fun g _ _ hg e => hx g _ hg e) (fun g _ _ c hg e => ⟨c, hx g _ hg e, .inl rfl⟩)
            · rw [List.mem_singleton.1 hp']
              refine ⟨by show B ≤ W.heap.size + 2; omega, ⟨.slice ac d cc, W.heap.size + 1, .slice none 0 0, by omega, (lo12 (W.heap.size + 2) (by omega) (by omega) (by omega) (by omega)).trans HT1.out, ?_, ?_, none, 0, 0, rfl⟩, by show (colsOf (pairsOf l)).length ≤ 6; omega, by show 1 ≤ (colsOf (pairsOf l)).length; omega⟩
              · show World.ownsRow _ B _ 2 _ (colsOf (pairsOf l)).length (colCells (colsOf (pairsOf l)))
                rw [hcl]
                refine ⟨HTW.out.1, ?_⟩
                rcases HTW.out.2 with h0 | ⟨g1, cap1, cu1, e6, hg1, hh1, r1⟩
                · exact .inl h0
                · exact .inr ⟨g1, cap1, cu1, e6, by omega, (lo12 g1 (Array.getElem?_eq_some_iff.1 hh1).1 (by omega) (by omega) (by omega)).trans hh1, r1⟩
              · show valset _ (W.heap.size + 1) (colsOf (pairsOf l)).length (placesOf ((colsOf (pairsOf l)).map (·.1)))
                rw [hcl, show (colsOf (pairsOf l)).map (·.1) = (pairsOf l).map (·.1) from by unfold colsOf; rw [List.map_map]; rfl]
                exact valset_block HPV.out (lo12 (W.heap.size + 1) (by omega) (by omega) (by omega) (by omega))
        · refine ⟨.pointer (some ⟨W.heap.size + 2, 0, none⟩), (World.putObj_heap_other (by omega)).trans (setCell_heap HR11.out), ?_⟩
          refine ⟨W.heap.size + 2, .slice ac d cc, .map (some (W.heap.size + 1)), .slice none 0 0, [], rfl, by omega, (lo12 (W.heap.size + 2) (by omega) (by omega) (by omega) (by omega)).trans HT1.out, ?_, World.ownsRow_nil _ _ _ _, ?_, ?_, ?_⟩
          · show World.ownsRow _ B _ 2 _ (colsOf (pairsOf l)).length (colCells (colsOf (pairsOf l)))
            rw [hcl]
            refine ⟨HTW.out.1, ?_⟩
            rcases HTW.out.2 with h0 | ⟨g1, cap1, cu1, e6, hg1, hh1, r1⟩
            · exact .inl h0
            · exact .inr ⟨g1, cap1, cu1, e6, by omega, (lo12 g1 (Array.getElem?_eq_some_iff.1 hh1).1 (by omega) (by omega) (by omega)).trans hh1, r1⟩
          · show (colsOf (pairsOf l)).length ≤ 6
            omega
          · exact Nat.zero_le _
          · show 1 ≤ (colsOf (pairsOf l)).length
            omega
      · refine ⟨HG11.out.1.trans HT2.out.low.os, HG11.out.2.1.trans HT2.out.low.tape, HG11.out.2.2.1.trans HT2.out.low.output, ?_, ?_⟩
        · rw [size_putObj]; simp; have := HT2.out.low.size; omega
        · intro b hb h1 h2
          exact (World.putObj_heap_other (by omega)).trans ((Below.heap_setCell w11 ⟨R, 2, none⟩ _ b h1).trans ((HLO11.out b (by omega) h2).trans (HT2.out.low.block b (by omega))))
    · have hdm2 : ((d : Int) == (m : Int)) = false := by simp; omega
      have HBAD : Hid (¬ colsGood kws l) := fun h => hdm (hdn.2 h.2)
      clear hdn hdle hdm
      refine wpB_seq (wpB_wp ?_)
      refine Code.wp_mono (Q := fun e a w => ∃ b, e = .panic (thrown b) ∧ w.cell? ⟨b, 0, none⟩ = some (.int .i64 1) ∧ w.cell? ⟨b, 1, none⟩ = some (.int .i64 line) ∧ Below A2.heap.size A2 w ∧ a.defers = [{ target := .collected w5.heap.size, args := #[] }]) ?_ ?_
      · rintro e a w ⟨b, rfl, hb0, hb1, hBl, hdf⟩
        rw [hs5] at hdf
        have hDw : w.heap[W.heap.size + 6]? = some (.deferred (some [])) := (hBl.block _ (by omega)).trans HD2.out
        exact leave_panic hdf hDw (.inr ⟨HBAD.out, bad_put hBW (HT2.out.low.trans (hBl.mono (by omega))) hDw hb0 hb1 (by omega)⟩)
      refine wp_region_held_drew (S := fun w' => w'.cell? ⟨W.heap.size, 0, none⟩ = some (.pointer (some ⟨R, 0, none⟩)) ∧ w'.cell? ⟨W.heap.size + 3, 0, none⟩ = some (.pointer (some ⟨W.heap.size + 2, 0, none⟩)) ∧ w'.cell? ⟨W.heap.size + 2, 1, none⟩ = some (.map (some (W.heap.size + 1))) ∧ w'.cell? ⟨W.heap.size + 2, 0, none⟩ = some (.slice ac m cc) ∧ keyset w' (W.heap.size + 1) m ((pairsOf l).map (·.1))) (by kernel_rfl) ⟨by exact p0, by exact p3, by exact pt1, by exact pt0, by exact hpl⟩ (fun hHeld => ?_)
      refine tk 0 ?_
      refine tk 1 ?_
      refine tk 2 ?_
      refine tk 3 ?_
      refine tk 4 ?_
      refine wpAnyH_take (i := 5) (v := .int .i64 d) rfl (by kernel_rfl) (by kernel_rfl) (by kernel_rfl) (fun _ _ _ h => h) (Or.inl ⟨by rfl, ?_⟩) (by assumption) ?_
      · intro w hSw
        have hl := hlenP w hSw.2.2.2.2
        clear hSw
        go_simp
      try simp only [Act.put, List.setIfInBounds_toArray, List.set_cons_zero, List.set_cons_succ, List.getElem_toArray, List.getElem_cons_zero, List.getElem_cons_succ]
      refine tk 6 ?_
      refine tk 7 ?_
      refine tk 8 ?_
      refine tk 9 ?_
      refine tk 10 ?_
      refine tk 11 ?_
      refine wpAnyH_ready (rs := [12]) (by kernel_rfl) (by simp) (AllReadyH.cons rfl (fun K hK => ?_) AllReadyH.nil)
      go_simp
      go_wp2_with fail
      refine (r_must_false R line _ ?_).mono ?_
      · exact r0
      rintro e w' ⟨b, rfl, hb0, hb1, hB3⟩
      have hBB : Below A2.heap.size A2 w' := ⟨hB3.os, hB3.tape, hB3.output, hB3.size, hB3.block⟩
      first | exact ⟨b, rfl, hb0, hb1, hBB⟩ | exact ⟨b, rfl, hb0, hb1, hBB, rfl⟩ | exact ⟨hb0, hb1, hBB⟩
  · rintro ch A ⟨b, rfl, hb0, hb1, hBl, hD, hng⟩
    exact leave_panic rfl hD (.inr ⟨hng, bad_put hBW hBl hD hb0 hb1 (by omega)⟩)
end Go.Proofs.YtfkdfplnhlnnoaaGreatDoor
