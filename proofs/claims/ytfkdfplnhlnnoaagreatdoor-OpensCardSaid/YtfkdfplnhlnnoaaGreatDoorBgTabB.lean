/- package tables: table, a name that will not do. -/
import Derived.Test.YtfkdfplnhlnnoaaGreatDoorBgTable
import Derived.Test.YtfkdfplnhlnnoaaGreatDoorBgTk
import Derived.Deep.RegionWith
import Derived.Deep.RegionHeld3
namespace Go.Proofs.YtfkdfplnhlnnoaaGreatDoor
open Go.RowKit Go.Shelf
set_option linter.unusedSimpArgs false
set_option linter.unusedVariables false

theorem keyset_obj {w : World} {b n : Nat} {ks : List Bg.Str} (h : keyset w b n ks) : ∃ es clock, w.heap[b]? = some (.map es clock) ∧ es.size = (dedup ks).length := by
  rw [← size_keys]
  obtain ⟨es, clock, hb, F, _, hD⟩ := h
  refine ⟨es, clock, hb, ?_⟩
  rw [hD]
  exact (length_read es).symm
theorem keepOne {G : Prop} (h : G) {A : Prop} (hA : A) : G := h
def nameOk (kws : List Bg.Str) (st : St) (x : Bg.Str) : Bool := isNm kws x && !st.names.contains x && decide (st.names.length < 8)
set_option maxRecDepth 100000 in
set_option maxHeartbeats 3000000 in
theorem r_table_name (B R M Kb : Nat) (kws : List Bg.Str) (line : Int) (st : St) (fv : Value) (x : Bg.Str) (l : List Bg.Str) (W : World) (hx : x.length ≤ 90000) (hll : l.length ≤ 90000) (hI : RInv B R M Kb kws line st W) (hv : viewS W fv (x :: l)) (hlen : lenOk (l.length + 1) = true)
    (hbad : nameOk kws st x = false) :
    Calls Tryz.prog 68 #[.pointer (some ⟨R, 0, none⟩), fv] W fun e W' => bad B line W e W' := by
  have hl2 : 3 ≤ l.length + 1 ∧ (l.length + 1) % 2 = 1 ∧ l.length + 1 ≤ 13 := of_decide_eq_true hlen
  obtain ⟨v, hR, hv0⟩ := hI.last
  have c0 : W.cell? ⟨R, 0, none⟩ = some (.int .i64 line) := by simp [World.cell?, hR]
  have c1 : W.cell? ⟨R, 1, none⟩ = some (.map (some M)) := by simp [World.cell?, hR]
  have c3 : W.cell? ⟨R, 3, none⟩ = some (.map (some Kb)) := by simp [World.cell?, hR]
  obtain ⟨a, cap, rfl, hcx⟩ := hv
  obtain ⟨g, o, rfl, hc⟩ := hcx 0 (by simp)
  have hRl : R < W.heap.size := (Array.getElem?_eq_some_iff.1 hR).1
  have hgl : g < W.heap.size := World.block_lt_of_cell? W _ hc
  have hBW := hI.hB
  have e1 : (3 : Int) ≤ (l.length : Int) + 1 := by omega
  have e2 : ((l.length : Int) + 1) % 2 = 1 := by omega
  have e3 : (l.length : Int) + 1 ≤ 13 := by omega
  have d1 : decide ((3 : Int) ≤ (l.length : Int) + 1) = true := by simp; omega
  have d3 : decide ((l.length : Int) + 1 ≤ 13) = true := by simp; omega
  have HN : keyset (W.alloc (.cells #[.pointer (some ⟨R, 0, none⟩)] 103)) M st.names.length st.names := keyset_below hI.names ((Below.refl _ W).alloc (Nat.le_refl _) _)
  have HK : keyset (W.alloc (.cells #[.pointer (some ⟨R, 0, none⟩)] 103)) Kb 100 kws := keyset_below hI.keys ((Below.refl _ W).alloc (Nat.le_refl _) _)
  have c0a : ∀ o, (W.alloc o).cell? ⟨R, 0, none⟩ = some (.int .i64 line) := fun o => (World.cell?_alloc_lt W o ⟨R, 0, none⟩ hRl).trans c0
  have c1a : ∀ o, (W.alloc o).cell? ⟨R, 1, none⟩ = some (.map (some M)) := fun o => (World.cell?_alloc_lt W o ⟨R, 1, none⟩ hRl).trans c1
  have c3a : ∀ o, (W.alloc o).cell? ⟨R, 3, none⟩ = some (.map (some Kb)) := fun o => (World.cell?_alloc_lt W o ⟨R, 3, none⟩ hRl).trans c3
  have cxa : ∀ ob, (W.alloc ob).cell? ⟨g, o, none⟩ = some (.string ⟨x.toArray⟩) := fun ob => (World.cell?_alloc_lt W ob ⟨g, o, none⟩ hgl).trans hc
  obtain ⟨vd, hvd⟩ := look_tab (w := (W.alloc (.cells #[.pointer (some ⟨R, 0, none⟩)] 103)).drew) (by exact HN) x (by omega)
  have hlenM : ∀ w, keyset w M st.names.length st.names → (Builtin.len_ #[71] 3 #[.map (some M)]).run Tryz.prog w = .ok (.int .i64 st.names.length) w := by
    intro w h
    have h1 := World.ownsMap.len h Tryz.underlying71 3
    rw [size_keys, (dedup_nodup _).2 hI.nd] at h1
    exact h1
  generalize hth : st.names.contains x = th at hvd
  have HTH : Hid (st.names.contains x = th) := hth
  clear hth hlen hv0 hI hc hcx c0 c1 c3
  generalize hnm : isNm kws x = nm
  have HNM : Hid (isNm kws x = nm) := hnm
  clear hnm
  have hin := fun w => r_isName R Kb 100 kws x w hx
  rw [HNM.out] at hin
  have hb2 : (nm && !th && decide (st.names.length < 8)) = false := by
    rw [← HNM.out, ← HTH.out]; exact hbad
  clear hbad
  have HBX : Hid (∀ w3, Below (W.alloc (.cells #[.pointer (some ⟨R, 0, none⟩)] 103)).drew.drew.heap.size (W.alloc (.cells #[.pointer (some ⟨R, 0, none⟩)] 103)).drew.drew w3 → Below B W w3) := by
    intro w3 h
    exact (((Below.refl _ W).alloc (Nat.le_refl _) (.cells #[.pointer (some ⟨R, 0, none⟩)] 103)).mono hBW).trans ((show Below (W.alloc (.cells #[.pointer (some ⟨R, 0, none⟩)] 103)).heap.size (W.alloc (.cells #[.pointer (some ⟨R, 0, none⟩)] 103)) w3 from ⟨h.os, h.tape, h.output, h.size, h.block⟩).mono (by simp; omega))
  go_enter Tryz.func68, Tryz.ntmps68
  go_wp2_with fail
  refine (r_must_true _ _).mono ?_
  rintro e w3 ⟨rfl, rfl⟩
  go_wp2_with fail
  go_region
  go_wp2_with fail
  cases nm
  · clear hb2
    refine wp_region_held_drew (S := fun w' => w'.cell? ⟨W.heap.size, 0, none⟩ = some (.pointer (some ⟨R, 0, none⟩)) ∧ w'.cell? ⟨g, o, none⟩ = some (.string ⟨x.toArray⟩) ∧ w'.cell? ⟨R, 1, none⟩ = some (.map (some M)) ∧ keyset w' M st.names.length st.names) (by kernel_rfl) (by refine ⟨?_, ?_, ?_, ?_⟩ <;> first | exact HN | go_keep) (fun hHeld => ?_)
    refine tk 0 ?_
    refine tk 1 ?_
    refine tk 2 ?_
    refine tk 3 ?_
    refine tk 4 ?_
    refine wpAnyH_ready (rs := [5]) (by kernel_rfl) (by simp) (AllReadyH.cons rfl (fun K hK => ?_) AllReadyH.nil)
    go_simp
    go_wp2_with (go_at_call 98; refine (hin _ ?_ ?_).mono ?_; (· exact c3a _); (· exact HK); rintro e w' ⟨rfl, rfl⟩)
    refine hK.out _ _ ?_ (fun hHeld => ?_)
    · refine ⟨?_, ?_, ?_, ?_⟩ <;> first | exact HN | go_keep
    clear hK K
    refine tk 6 ?_
    refine wpAnyH_take (i := 7) (v := undef) rfl (by kernel_rfl) (by kernel_rfl) (by kernel_rfl) (fun _ _ _ h => h) (Or.inr ⟨by rfl, rfl⟩) (by assumption) ?_
    try simp only [Act.put, List.setIfInBounds_toArray, List.set_cons_zero, List.set_cons_succ, List.getElem_toArray, List.getElem_cons_zero, List.getElem_cons_succ]
    refine wpAnyH_take (i := 8) (v := undef) rfl (by kernel_rfl) (by kernel_rfl) (by kernel_rfl) (fun _ _ _ h => h) (Or.inr ⟨by rfl, rfl⟩) (by assumption) ?_
    try simp only [Act.put, List.setIfInBounds_toArray, List.set_cons_zero, List.set_cons_succ, List.getElem_toArray, List.getElem_cons_zero, List.getElem_cons_succ]
    refine tk 9 ?_
    refine tk 10 ?_
    refine wpAnyH_take (i := 11) (v := undef) rfl (by kernel_rfl) (by kernel_rfl) (by kernel_rfl) (fun _ _ _ h => h) (Or.inr ⟨by rfl, rfl⟩) (by assumption) ?_
    try simp only [Act.put, List.setIfInBounds_toArray, List.set_cons_zero, List.set_cons_succ, List.getElem_toArray, List.getElem_cons_zero, List.getElem_cons_succ]
    refine wpAnyH_take (i := 12) (v := undef) rfl (by kernel_rfl) (by kernel_rfl) (by kernel_rfl) (fun _ _ _ h => h) (Or.inr ⟨by rfl, rfl⟩) (by assumption) ?_
    try simp only [Act.put, List.setIfInBounds_toArray, List.set_cons_zero, List.set_cons_succ, List.getElem_toArray, List.getElem_cons_zero, List.getElem_cons_succ]
    refine wpAnyH_take (i := 13) (v := undef) rfl (by kernel_rfl) (by kernel_rfl) (by kernel_rfl) (fun _ _ _ h => h) (Or.inr ⟨by rfl, rfl⟩) (by assumption) ?_
    try simp only [Act.put, List.setIfInBounds_toArray, List.set_cons_zero, List.set_cons_succ, List.getElem_toArray, List.getElem_cons_zero, List.getElem_cons_succ]
    refine wpAnyH_take (i := 14) (v := undef) rfl (by kernel_rfl) (by kernel_rfl) (by kernel_rfl) (fun _ _ _ h => h) (Or.inr ⟨by rfl, rfl⟩) (by assumption) ?_
    try simp only [Act.put, List.setIfInBounds_toArray, List.set_cons_zero, List.set_cons_succ, List.getElem_toArray, List.getElem_cons_zero, List.getElem_cons_succ]
    refine wpAnyH_take (i := 15) (v := undef) rfl (by kernel_rfl) (by kernel_rfl) (by kernel_rfl) (fun _ _ _ h => h) (Or.inr ⟨by rfl, rfl⟩) (by assumption) ?_
    try simp only [Act.put, List.setIfInBounds_toArray, List.set_cons_zero, List.set_cons_succ, List.getElem_toArray, List.getElem_cons_zero, List.getElem_cons_succ]
    refine wpAnyH_take (i := 16) (v := undef) rfl (by kernel_rfl) (by kernel_rfl) (by kernel_rfl) (fun _ _ _ h => h) (Or.inr ⟨by rfl, rfl⟩) (by assumption) ?_
    try simp only [Act.put, List.setIfInBounds_toArray, List.set_cons_zero, List.set_cons_succ, List.getElem_toArray, List.getElem_cons_zero, List.getElem_cons_succ]
    refine tk 17 ?_
    refine wpAnyH_ready (rs := [18]) (by kernel_rfl) (by simp) (AllReadyH.cons rfl (fun K hK => ?_) AllReadyH.nil)
    go_simp
    go_wp2_with fail
    refine (r_must_false R line _ ?_).mono ?_
    · exact c0a _
    rintro e w3 ⟨b, rfl, hb0, hb1, hB3⟩
    go_wp2
    exact ⟨rfl, b, rfl, hb0, hb1, HBX.out _ hB3⟩
  · cases th
    · have d8 : decide ((st.names.length : Int) < 8) = false := by simp at hb2 ⊢; omega
      clear hb2
      refine wp_region_held_drew (S := fun w' => w'.cell? ⟨W.heap.size, 0, none⟩ = some (.pointer (some ⟨R, 0, none⟩)) ∧ w'.cell? ⟨g, o, none⟩ = some (.string ⟨x.toArray⟩) ∧ w'.cell? ⟨R, 1, none⟩ = some (.map (some M)) ∧ keyset w' M st.names.length st.names) (by kernel_rfl) (by refine ⟨?_, ?_, ?_, ?_⟩ <;> first | exact HN | go_keep) (fun hHeld => ?_)
      refine tk 0 ?_
      refine tk 1 ?_
      refine tk 2 ?_
      refine tk 3 ?_
      refine tk 4 ?_
      refine wpAnyH_ready (rs := [5]) (by kernel_rfl) (by simp) (AllReadyH.cons rfl (fun K hK => ?_) AllReadyH.nil)
      go_simp
      go_wp2_with (go_at_call 98; refine (hin _ ?_ ?_).mono ?_; (· exact c3a _); (· exact HK); rintro e w' ⟨rfl, rfl⟩)
      refine hK.out _ _ ?_ (fun hHeld => ?_)
      · refine ⟨?_, ?_, ?_, ?_⟩ <;> first | exact HN | go_keep
      clear hK K
      refine tk 6 ?_
      refine tk 7 ?_
      refine tk 8 ?_
      refine tk 9 ?_
      refine tk 10 ?_
      refine tk 11 ?_
      refine tk 12 ?_
      refine tk 13 ?_
      refine tk 14 ?_
      refine wpAnyH_take (i := 15) (v := .int .i64 st.names.length) rfl (by kernel_rfl) (by kernel_rfl) (by kernel_rfl) (fun _ _ _ h => h) (Or.inl ⟨by rfl, ?_⟩) (by assumption) ?_
      · intro w hSw
        have hl := hlenM w hSw.2.2.2
        clear hSw
        go_simp
      try simp only [Act.put, List.setIfInBounds_toArray, List.set_cons_zero, List.set_cons_succ, List.getElem_toArray, List.getElem_cons_zero, List.getElem_cons_succ]
      refine tk 16 ?_
      refine tk 17 ?_
      refine wpAnyH_ready (rs := [18]) (by kernel_rfl) (by simp) (AllReadyH.cons rfl (fun K hK => ?_) AllReadyH.nil)
      go_simp
      go_wp2_with fail
      refine (r_must_false R line _ ?_).mono ?_
      · exact c0a _
      rintro e w3 ⟨b, rfl, hb0, hb1, hB3⟩
      go_wp2
      exact ⟨rfl, b, rfl, hb0, hb1, HBX.out _ hB3⟩
    · clear hb2
      refine wp_region_held_drew (S := fun w' => w'.cell? ⟨W.heap.size, 0, none⟩ = some (.pointer (some ⟨R, 0, none⟩)) ∧ w'.cell? ⟨g, o, none⟩ = some (.string ⟨x.toArray⟩) ∧ w'.cell? ⟨R, 1, none⟩ = some (.map (some M)) ∧ keyset w' M st.names.length st.names) (by kernel_rfl) (by refine ⟨?_, ?_, ?_, ?_⟩ <;> first | exact HN | go_keep) (fun hHeld => ?_)
      refine tk 0 ?_
      refine tk 1 ?_
      refine tk 2 ?_
      refine tk 3 ?_
      refine tk 4 ?_
      refine wpAnyH_ready (rs := [5]) (by kernel_rfl) (by simp) (AllReadyH.cons rfl (fun K hK => ?_) AllReadyH.nil)
      go_simp
      go_wp2_with (go_at_call 98; refine (hin _ ?_ ?_).mono ?_; (· exact c3a _); (· exact HK); rintro e w' ⟨rfl, rfl⟩)
      refine hK.out _ _ ?_ (fun hHeld => ?_)
      · refine ⟨?_, ?_, ?_, ?_⟩ <;> first | exact HN | go_keep
      clear hK K
      refine tk 6 ?_
      refine tk 7 ?_
      refine tk 8 ?_
      refine tk 9 ?_
      refine tk 10 ?_
      refine wpAnyH_take (i := 11) (v := undef) rfl (by kernel_rfl) (by kernel_rfl) (by kernel_rfl) (fun _ _ _ h => h) (Or.inr ⟨by rfl, rfl⟩) (by assumption) ?_
      try simp only [Act.put, List.setIfInBounds_toArray, List.set_cons_zero, List.set_cons_succ, List.getElem_toArray, List.getElem_cons_zero, List.getElem_cons_succ]
      refine wpAnyH_take (i := 12) (v := undef) rfl (by kernel_rfl) (by kernel_rfl) (by kernel_rfl) (fun _ _ _ h => h) (Or.inr ⟨by rfl, rfl⟩) (by assumption) ?_
      try simp only [Act.put, List.setIfInBounds_toArray, List.set_cons_zero, List.set_cons_succ, List.getElem_toArray, List.getElem_cons_zero, List.getElem_cons_succ]
      refine wpAnyH_take (i := 13) (v := undef) rfl (by kernel_rfl) (by kernel_rfl) (by kernel_rfl) (fun _ _ _ h => h) (Or.inr ⟨by rfl, rfl⟩) (by assumption) ?_
      try simp only [Act.put, List.setIfInBounds_toArray, List.set_cons_zero, List.set_cons_succ, List.getElem_toArray, List.getElem_cons_zero, List.getElem_cons_succ]
      refine wpAnyH_take (i := 14) (v := undef) rfl (by kernel_rfl) (by kernel_rfl) (by kernel_rfl) (fun _ _ _ h => h) (Or.inr ⟨by rfl, rfl⟩) (by assumption) ?_
      try simp only [Act.put, List.setIfInBounds_toArray, List.set_cons_zero, List.set_cons_succ, List.getElem_toArray, List.getElem_cons_zero, List.getElem_cons_succ]
      refine wpAnyH_take (i := 15) (v := undef) rfl (by kernel_rfl) (by kernel_rfl) (by kernel_rfl) (fun _ _ _ h => h) (Or.inr ⟨by rfl, rfl⟩) (by assumption) ?_
      try simp only [Act.put, List.setIfInBounds_toArray, List.set_cons_zero, List.set_cons_succ, List.getElem_toArray, List.getElem_cons_zero, List.getElem_cons_succ]
      refine wpAnyH_take (i := 16) (v := undef) rfl (by kernel_rfl) (by kernel_rfl) (by kernel_rfl) (fun _ _ _ h => h) (Or.inr ⟨by rfl, rfl⟩) (by assumption) ?_
      try simp only [Act.put, List.setIfInBounds_toArray, List.set_cons_zero, List.set_cons_succ, List.getElem_toArray, List.getElem_cons_zero, List.getElem_cons_succ]
      refine tk 17 ?_
      refine wpAnyH_ready (rs := [18]) (by kernel_rfl) (by simp) (AllReadyH.cons rfl (fun K hK => ?_) AllReadyH.nil)
      go_simp
      go_wp2_with fail
      refine (r_must_false R line _ ?_).mono ?_
      · exact c0a _
      rintro e w3 ⟨b, rfl, hb0, hb1, hB3⟩
      go_wp2
      exact ⟨rfl, b, rfl, hb0, hb1, HBX.out _ hB3⟩
end Go.Proofs.YtfkdfplnhlnnoaaGreatDoor
