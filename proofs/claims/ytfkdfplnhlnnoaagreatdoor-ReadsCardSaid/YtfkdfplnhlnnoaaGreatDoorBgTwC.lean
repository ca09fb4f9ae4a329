import Derived.Test.YtfkdfplnhlnnoaaGreatDoorBgTwB
namespace Go.Proofs.YtfkdfplnhlnnoaaGreatDoor
open Go.RowKit
namespace Gr
set_option linter.unusedSimpArgs false
set_option linter.unusedVariables false
set_option maxRecDepth 10000
set_option maxHeartbeats 2000000
theorem new2 (w : World) (a b : Value) (ty : TypeId) : (w.alloc (.cells #[a, b] ty)).cell? ⟨w.heap.size, 0, none⟩ = some a ∧ (w.alloc (.cells #[a, b] ty)).cell? ⟨w.heap.size, 1, none⟩ = some b := by
  have h := heap_alloc_new w (.cells #[a, b] ty)
  exact ⟨by simp only [World.cell?, h]; rfl, by simp only [World.cell?, h]; rfl⟩
theorem new3 (w : World) (a b c : Value) (ty : TypeId) : (w.alloc (.cells #[a, b, c] ty)).cell? ⟨w.heap.size, 0, none⟩ = some a ∧ (w.alloc (.cells #[a, b, c] ty)).cell? ⟨w.heap.size, 1, none⟩ = some b ∧ (w.alloc (.cells #[a, b, c] ty)).cell? ⟨w.heap.size, 2, none⟩ = some c := by
  have h := heap_alloc_new w (.cells #[a, b, c] ty)
  exact ⟨by simp only [World.cell?, h]; rfl, by simp only [World.cell?, h]; rfl, by simp only [World.cell?, h]; rfl⟩
theorem new4 (w : World) (a b c d : Value) (ty : TypeId) : (w.alloc (.cells #[a, b, c, d] ty)).cell? ⟨w.heap.size, 0, none⟩ = some a ∧ (w.alloc (.cells #[a, b, c, d] ty)).cell? ⟨w.heap.size, 1, none⟩ = some b ∧ (w.alloc (.cells #[a, b, c, d] ty)).cell? ⟨w.heap.size, 2, none⟩ = some c ∧ (w.alloc (.cells #[a, b, c, d] ty)).cell? ⟨w.heap.size, 3, none⟩ = some d := by
  have h := heap_alloc_new w (.cells #[a, b, c, d] ty)
  exact ⟨by simp only [World.cell?, h]; rfl, by simp only [World.cell?, h]; rfl, by simp only [World.cell?, h]; rfl, by simp only [World.cell?, h]; rfl⟩
theorem w_source (o s : Bg.Str) (lo : o.length ≤ 1000) (ls : s.length ≤ 1000) (W0 : World) :
    Says 265 #[.agg #[.string ⟨o.toArray⟩, .string ⟨s.toArray⟩]] (o ++ (if s = [] then [] else [32, 97, 115, 32] ++ s)) W0 := by
  have hex := Bg.ext_mk
  have hap := Bg.app_mk
  have hc := w_behind s ls
  have hlen : (if s = [] then [] else [32, 97, 115, 32] ++ s).length ≤ 2000 := by split <;> simp; omega
  generalize (if s = [] then [] else [32, 97, 115, 32] ++ s) = x at hc hlen ⊢
  unfold Says
  go_enter Tryz.func265, Tryz.ntmps265
  go_wp2_with fail
  have hB0 : Below W0.heap.size W0 (W0.alloc (.cells #[.string ⟨o.toArray⟩, .string ⟨s.toArray⟩] 248)) := wsum _
  obtain ⟨q0, q1⟩ := new2 W0 (.string ⟨o.toArray⟩) (.string ⟨s.toArray⟩) 248
  have hsz : W0.heap.size < (W0.alloc (.cells #[.string ⟨o.toArray⟩, .string ⟨s.toArray⟩] 248)).heap.size := by simp
  generalize W0.alloc (.cells #[.string ⟨o.toArray⟩, .string ⟨s.toArray⟩] 248) = A at hB0 q0 q1 hsz ⊢
  refine wp_region_held_drew (S := fun w' => w'.cell? ⟨W0.heap.size, 0, none⟩ = some (.string ⟨o.toArray⟩) ∧ w'.cell? ⟨W0.heap.size, 1, none⟩ = some (.string ⟨s.toArray⟩)) (by kernel_rfl) ⟨q0, q1⟩ (fun hHeld => ?_)
  refine wpAnyH_take (i := 0) (v := ?_) rfl (by kernel_rfl) (by kernel_rfl) (by kernel_rfl) (fun _ _ _ h => h) (Or.inl ⟨by rfl, ?_⟩) (by assumption) ?_
  rotate_left
  · intro w hSw; (try dsimp only at hSw); go_simp <;> with_reducible rfl
  try simp only [Act.put, List.setIfInBounds_toArray, List.set_cons_zero, List.set_cons_succ, List.getElem_toArray, List.getElem_cons_zero, List.getElem_cons_succ]
  refine wpAnyH_take (i := 1) (v := ?_) rfl (by kernel_rfl) (by kernel_rfl) (by kernel_rfl) (fun _ _ _ h => h) (Or.inl ⟨by rfl, ?_⟩) (by assumption) ?_
  rotate_left
  · intro w hSw; (try dsimp only at hSw); go_simp <;> with_reducible rfl
  try simp only [Act.put, List.setIfInBounds_toArray, List.set_cons_zero, List.set_cons_succ, List.getElem_toArray, List.getElem_cons_zero, List.getElem_cons_succ]
  refine wpAnyH_take (i := 2) (v := ?_) rfl (by kernel_rfl) (by kernel_rfl) (by kernel_rfl) (fun _ _ _ h => h) (Or.inl ⟨by rfl, ?_⟩) (by assumption) ?_
  rotate_left
  · intro w hSw; (try dsimp only at hSw); go_simp <;> with_reducible rfl
  try simp only [Act.put, List.setIfInBounds_toArray, List.set_cons_zero, List.set_cons_succ, List.getElem_toArray, List.getElem_cons_zero, List.getElem_cons_succ]
  refine wpAnyH_take (i := 3) (v := ?_) rfl (by kernel_rfl) (by kernel_rfl) (by kernel_rfl) (fun _ _ _ h => h) (Or.inl ⟨by rfl, ?_⟩) (by assumption) ?_
  rotate_left
  · intro w hSw; (try dsimp only at hSw); go_simp <;> with_reducible rfl
  try simp only [Act.put, List.setIfInBounds_toArray, List.set_cons_zero, List.set_cons_succ, List.getElem_toArray, List.getElem_cons_zero, List.getElem_cons_succ]
  refine wpAnyH_ready (rs := [4]) (by kernel_rfl) (by simp) (AllReadyH.cons rfl (fun K hK => ?_) AllReadyH.nil)
  go_simp
  refine (hc _).mono ?_
  rintro e w1 ⟨rfl, hB1⟩
  go_simp
  have hB1' := below_in hB1
  have p0 := (hB1'.cell (p := ⟨W0.heap.size, 0, none⟩) hsz).trans q0
  have p1 := (hB1'.cell (p := ⟨W0.heap.size, 1, none⟩) hsz).trans q1
  refine hK.out _ _ ⟨p0, p1⟩ (fun hHeld => ?_)
  clear hK K
  refine wpAnyH_take (i := 5) (v := .string ⟨(o ++ x).toArray⟩) rfl (by kernel_rfl) (by kernel_rfl) (by kernel_rfl) (fun _ _ _ h => h) (Or.inl ⟨by rfl, ?_⟩) (by assumption) ?_
  · intro w hSw; clear hSw; go_simp <;> (try simp only [List.length_append, List.length_cons, List.length_nil]) <;> omega
  try simp only [Act.put, List.setIfInBounds_toArray, List.set_cons_zero, List.set_cons_succ, List.getElem_toArray, List.getElem_cons_zero, List.getElem_cons_succ]
  refine wpAnyH_take (i := 6) (v := ?_) rfl (by kernel_rfl) (by kernel_rfl) (by kernel_rfl) (fun _ _ _ h => h) (Or.inl ⟨by rfl, ?_⟩) (by assumption) ?_
  rotate_left
  · intro w hSw; (try dsimp only at hSw); go_simp <;> with_reducible rfl
  try simp only [Act.put, List.setIfInBounds_toArray, List.set_cons_zero, List.set_cons_succ, List.getElem_toArray, List.getElem_cons_zero, List.getElem_cons_succ]
  refine wpAnyH_done (by kernel_rfl) ?_ _
  go_wp2_with fail
  go_ret
  exact ⟨by first | rfl | simp, hB0.trans (hB1'.mono hB0.size)⟩
theorem w_item (W : World) (l : Value) (a s : Bg.Str) (hl : SayV W l a) (la : a.length ≤ 400000) (ls : s.length ≤ 1000) (W0 : World) (hB : Below W.heap.size W W0) :
    Says 264 #[.agg #[l, .string ⟨s.toArray⟩]] (a ++ (if s = [] then [] else [32, 97, 115, 32] ++ s)) W0 := by
  have hex := Bg.ext_mk
  have hap := Bg.app_mk
  have hc := w_behind s ls
  have hlen : (if s = [] then [] else [32, 97, 115, 32] ++ s).length ≤ 2000 := by split <;> simp; omega
  generalize (if s = [] then [] else [32, 97, 115, 32] ++ s) = x at hc hlen ⊢
  obtain ⟨T1, x1, K1, y1, rfl, n1, m1, f1, hl⟩ := hl
  unfold Says
  go_enter Tryz.func264, Tryz.ntmps264
  go_wp2_with fail
  have hBa : Below W.heap.size W (W0.alloc (.cells #[.iface T1 x1, .string ⟨s.toArray⟩] 244)) := hB.alloc hB.size _
  have hB0 : Below W0.heap.size W0 (W0.alloc (.cells #[.iface T1 x1, .string ⟨s.toArray⟩] 244)) := wsum _
  obtain ⟨q0, q1⟩ := new2 W0 (.iface T1 x1) (.string ⟨s.toArray⟩) 244
  have hsz : W0.heap.size < (W0.alloc (.cells #[.iface T1 x1, .string ⟨s.toArray⟩] 244)).heap.size := by simp
  generalize W0.alloc (.cells #[.iface T1 x1, .string ⟨s.toArray⟩] 244) = A at hBa hB0 q0 q1 hsz ⊢
  refine wp_region_held_drew (S := fun w' => w'.cell? ⟨W0.heap.size, 0, none⟩ = some (.iface T1 x1) ∧ w'.cell? ⟨W0.heap.size, 1, none⟩ = some (.string ⟨s.toArray⟩)) (by kernel_rfl) ⟨q0, q1⟩ (fun hHeld => ?_)
  refine wpAnyH_take (i := 0) (v := ?_) rfl (by kernel_rfl) (by kernel_rfl) (by kernel_rfl) (fun _ _ _ h => h) (Or.inl ⟨by rfl, ?_⟩) (by assumption) ?_
  rotate_left
  · intro w hSw; (try dsimp only at hSw); go_simp <;> with_reducible rfl
  try simp only [Act.put, List.setIfInBounds_toArray, List.set_cons_zero, List.set_cons_succ, List.getElem_toArray, List.getElem_cons_zero, List.getElem_cons_succ]
  refine wpAnyH_take (i := 1) (v := ?_) rfl (by kernel_rfl) (by kernel_rfl) (by kernel_rfl) (fun _ _ _ h => h) (Or.inl ⟨by rfl, ?_⟩) (by assumption) ?_
  rotate_left
  · intro w hSw; (try dsimp only at hSw); go_simp <;> with_reducible rfl
  try simp only [Act.put, List.setIfInBounds_toArray, List.set_cons_zero, List.set_cons_succ, List.getElem_toArray, List.getElem_cons_zero, List.getElem_cons_succ]
  refine wpAnyH_take (i := 3) (v := ?_) rfl (by kernel_rfl) (by kernel_rfl) (by kernel_rfl) (fun _ _ _ h => h) (Or.inl ⟨by rfl, ?_⟩) (by assumption) ?_
  rotate_left
  · intro w hSw; (try dsimp only at hSw); go_simp <;> with_reducible rfl
  try simp only [Act.put, List.setIfInBounds_toArray, List.set_cons_zero, List.set_cons_succ, List.getElem_toArray, List.getElem_cons_zero, List.getElem_cons_succ]
  refine wpAnyH_take (i := 4) (v := ?_) rfl (by kernel_rfl) (by kernel_rfl) (by kernel_rfl) (fun _ _ _ h => h) (Or.inl ⟨by rfl, ?_⟩) (by assumption) ?_
  rotate_left
  · intro w hSw; (try dsimp only at hSw); go_simp <;> with_reducible rfl
  try simp only [Act.put, List.setIfInBounds_toArray, List.set_cons_zero, List.set_cons_succ, List.getElem_toArray, List.getElem_cons_zero, List.getElem_cons_succ]
  refine wpAnyH_ready (rs := [2]) (by kernel_rfl) (by simp) (AllReadyH.cons rfl (fun K hK => ?_) AllReadyH.nil)
  go_simp
  refine (hl _ (below_drew hBa)).mono ?_
  rintro e w1 ⟨rfl, hB1⟩
  go_simp
  have hB1' := below_in hB1
  have p0 := (hB1'.cell (p := ⟨W0.heap.size, 0, none⟩) hsz).trans q0
  have p1 := (hB1'.cell (p := ⟨W0.heap.size, 1, none⟩) hsz).trans q1
  refine hK.out _ _ ⟨p0, p1⟩ (fun hHeld => ?_)
  clear hK K
  refine wpAnyH_ready (rs := [5]) (by kernel_rfl) (by simp) (AllReadyH.cons rfl (fun K hK => ?_) AllReadyH.nil)
  go_simp
  have hBb := hBa.trans (hB1'.mono hBa.size)
  refine (hc _).mono ?_
  rintro e w2 ⟨rfl, hB2⟩
  go_simp
  have hsz1 := Nat.lt_of_lt_of_le hsz hB1'.size
  refine hK.out _ _ ⟨(hB2.cell (p := ⟨W0.heap.size, 0, none⟩) hsz1).trans p0, (hB2.cell (p := ⟨W0.heap.size, 1, none⟩) hsz1).trans p1⟩ (fun hHeld => ?_)
  clear hK K
  refine wpAnyH_take (i := 6) (v := .string ⟨(a ++ x).toArray⟩) rfl (by kernel_rfl) (by kernel_rfl) (by kernel_rfl) (fun _ _ _ h => h) (Or.inl ⟨by rfl, ?_⟩) (by assumption) ?_
  · intro w hSw; clear hSw; go_simp <;> (try simp only [List.length_append, List.length_cons, List.length_nil]) <;> omega
  try simp only [Act.put, List.setIfInBounds_toArray, List.set_cons_zero, List.set_cons_succ, List.getElem_toArray, List.getElem_cons_zero, List.getElem_cons_succ]
  refine wpAnyH_take (i := 7) (v := ?_) rfl (by kernel_rfl) (by kernel_rfl) (by kernel_rfl) (fun _ _ _ h => h) (Or.inl ⟨by rfl, ?_⟩) (by assumption) ?_
  rotate_left
  · intro w hSw; (try dsimp only at hSw); go_simp <;> with_reducible rfl
  try simp only [Act.put, List.setIfInBounds_toArray, List.set_cons_zero, List.set_cons_succ, List.getElem_toArray, List.getElem_cons_zero, List.getElem_cons_succ]
  refine wpAnyH_done (by kernel_rfl) ?_ _
  go_wp2_with fail
  go_ret
  exact ⟨by first | rfl | simp, hB0.trans ((hB1'.trans (hB2.mono hB1'.size)).mono hB0.size)⟩
theorem w_versus (W : World) (q l : Value) (s h a b : Bg.Str) (hq : SayV W q b) (hl : SayV W l a) (la : a.length ≤ 400000) (lb : b.length ≤ 400000) (ls : s.length ≤ 1000) (lh : h.length ≤ 1000) (W0 : World) (hB : Below W.heap.size W W0) :
    Says 285 #[.agg #[q, l, .string ⟨s.toArray⟩, .string ⟨h.toArray⟩]] (a ++ [32] ++ s ++ [32] ++ h ++ ([32, 40] ++ b ++ [41])) W0 := by
  have hex := Bg.ext_mk
  have hap := Bg.app_mk
  have hc := w_asked W q b hq lb
  have hlen : ([32, 40] ++ b ++ [41]).length ≤ 401100 := by simp only [List.length_append, List.length_cons, List.length_nil]; omega
  generalize [32, 40] ++ b ++ [41] = x at hc hlen ⊢
  obtain ⟨T1, x1, K1, y1, rfl, n1, m1, f1, hl⟩ := hl
  obtain ⟨T2, x2, K2, y2, rfl, _⟩ := hq
  unfold Says
  go_enter Tryz.func285, Tryz.ntmps285
  go_wp2_with fail
  have hBa : Below W.heap.size W (W0.alloc (.cells #[.iface T2 x2, .iface T1 x1, .string ⟨s.toArray⟩, .string ⟨h.toArray⟩] 339)) := hB.alloc hB.size _
  have hB0 : Below W0.heap.size W0 (W0.alloc (.cells #[.iface T2 x2, .iface T1 x1, .string ⟨s.toArray⟩, .string ⟨h.toArray⟩] 339)) := wsum _
  obtain ⟨q0, q1, q2, q3⟩ := new4 W0 (.iface T2 x2) (.iface T1 x1) (.string ⟨s.toArray⟩) (.string ⟨h.toArray⟩) 339
  have hsz : W0.heap.size < (W0.alloc (.cells #[.iface T2 x2, .iface T1 x1, .string ⟨s.toArray⟩, .string ⟨h.toArray⟩] 339)).heap.size := by simp
  generalize W0.alloc (.cells #[.iface T2 x2, .iface T1 x1, .string ⟨s.toArray⟩, .string ⟨h.toArray⟩] 339) = A at hBa hB0 q0 q1 q2 q3 hsz ⊢
  refine wp_region_held_drew (S := fun w' => w'.cell? ⟨W0.heap.size, 0, none⟩ = some (.iface T2 x2) ∧ w'.cell? ⟨W0.heap.size, 1, none⟩ = some (.iface T1 x1) ∧ w'.cell? ⟨W0.heap.size, 2, none⟩ = some (.string ⟨s.toArray⟩) ∧ w'.cell? ⟨W0.heap.size, 3, none⟩ = some (.string ⟨h.toArray⟩)) (by kernel_rfl) ⟨q0, q1, q2, q3⟩ (fun hHeld => ?_)
  refine wpAnyH_take (i := 0) (v := ?_) rfl (by kernel_rfl) (by kernel_rfl) (by kernel_rfl) (fun _ _ _ h => h) (Or.inl ⟨by rfl, ?_⟩) (by assumption) ?_
  rotate_left
  · intro w hSw; (try dsimp only at hSw); go_simp <;> with_reducible rfl
  try simp only [Act.put, List.setIfInBounds_toArray, List.set_cons_zero, List.set_cons_succ, List.getElem_toArray, List.getElem_cons_zero, List.getElem_cons_succ]
  refine wpAnyH_take (i := 1) (v := ?_) rfl (by kernel_rfl) (by kernel_rfl) (by kernel_rfl) (fun _ _ _ h => h) (Or.inl ⟨by rfl, ?_⟩) (by assumption) ?_
  rotate_left
  · intro w hSw; (try dsimp only at hSw); go_simp <;> with_reducible rfl
  try simp only [Act.put, List.setIfInBounds_toArray, List.set_cons_zero, List.set_cons_succ, List.getElem_toArray, List.getElem_cons_zero, List.getElem_cons_succ]
  refine wpAnyH_take (i := 4) (v := ?_) rfl (by kernel_rfl) (by kernel_rfl) (by kernel_rfl) (fun _ _ _ h => h) (Or.inl ⟨by rfl, ?_⟩) (by assumption) ?_
  rotate_left
  · intro w hSw; (try dsimp only at hSw); go_simp <;> with_reducible rfl
  try simp only [Act.put, List.setIfInBounds_toArray, List.set_cons_zero, List.set_cons_succ, List.getElem_toArray, List.getElem_cons_zero, List.getElem_cons_succ]
  refine wpAnyH_take (i := 5) (v := ?_) rfl (by kernel_rfl) (by kernel_rfl) (by kernel_rfl) (fun _ _ _ h => h) (Or.inl ⟨by rfl, ?_⟩) (by assumption) ?_
  rotate_left
  · intro w hSw; (try dsimp only at hSw); go_simp <;> with_reducible rfl
  try simp only [Act.put, List.setIfInBounds_toArray, List.set_cons_zero, List.set_cons_succ, List.getElem_toArray, List.getElem_cons_zero, List.getElem_cons_succ]
  refine wpAnyH_take (i := 8) (v := ?_) rfl (by kernel_rfl) (by kernel_rfl) (by kernel_rfl) (fun _ _ _ h => h) (Or.inl ⟨by rfl, ?_⟩) (by assumption) ?_
  rotate_left
  · intro w hSw; (try dsimp only at hSw); go_simp <;> with_reducible rfl
  try simp only [Act.put, List.setIfInBounds_toArray, List.set_cons_zero, List.set_cons_succ, List.getElem_toArray, List.getElem_cons_zero, List.getElem_cons_succ]
  refine wpAnyH_take (i := 9) (v := ?_) rfl (by kernel_rfl) (by kernel_rfl) (by kernel_rfl) (fun _ _ _ h => h) (Or.inl ⟨by rfl, ?_⟩) (by assumption) ?_
  rotate_left
  · intro w hSw; (try dsimp only at hSw); go_simp <;> with_reducible rfl
  try simp only [Act.put, List.setIfInBounds_toArray, List.set_cons_zero, List.set_cons_succ, List.getElem_toArray, List.getElem_cons_zero, List.getElem_cons_succ]
  refine wpAnyH_take (i := 11) (v := ?_) rfl (by kernel_rfl) (by kernel_rfl) (by kernel_rfl) (fun _ _ _ h => h) (Or.inl ⟨by rfl, ?_⟩) (by assumption) ?_
  rotate_left
  · intro w hSw; (try dsimp only at hSw); go_simp <;> with_reducible rfl
  try simp only [Act.put, List.setIfInBounds_toArray, List.set_cons_zero, List.set_cons_succ, List.getElem_toArray, List.getElem_cons_zero, List.getElem_cons_succ]
  refine wpAnyH_take (i := 12) (v := ?_) rfl (by kernel_rfl) (by kernel_rfl) (by kernel_rfl) (fun _ _ _ h => h) (Or.inl ⟨by rfl, ?_⟩) (by assumption) ?_
  rotate_left
  · intro w hSw; (try dsimp only at hSw); go_simp <;> with_reducible rfl
  try simp only [Act.put, List.setIfInBounds_toArray, List.set_cons_zero, List.set_cons_succ, List.getElem_toArray, List.getElem_cons_zero, List.getElem_cons_succ]
  refine wpAnyH_ready (rs := [2]) (by kernel_rfl) (by simp) (AllReadyH.cons rfl (fun K hK => ?_) AllReadyH.nil)
  go_simp
  refine (hl _ (below_drew hBa)).mono ?_
  rintro e w1 ⟨rfl, hB1⟩
  go_simp
  have hB1' := below_in hB1
  have p0 := (hB1'.cell (p := ⟨W0.heap.size, 0, none⟩) hsz).trans q0
  have p1 := (hB1'.cell (p := ⟨W0.heap.size, 1, none⟩) hsz).trans q1
  have p2 := (hB1'.cell (p := ⟨W0.heap.size, 2, none⟩) hsz).trans q2
  have p3 := (hB1'.cell (p := ⟨W0.heap.size, 3, none⟩) hsz).trans q3
  refine hK.out _ _ ⟨p0, p1, p2, p3⟩ (fun hHeld => ?_)
  clear hK K
  refine wpAnyH_take (i := 3) (v := .string ⟨(a ++ [32]).toArray⟩) rfl (by kernel_rfl) (by kernel_rfl) (by kernel_rfl) (fun _ _ _ h => h) (Or.inl ⟨by rfl, ?_⟩) (by assumption) ?_
  · intro w hSw; clear hSw; go_simp <;> (try simp only [List.length_append, List.length_cons, List.length_nil]) <;> omega
  try simp only [Act.put, List.setIfInBounds_toArray, List.set_cons_zero, List.set_cons_succ, List.getElem_toArray, List.getElem_cons_zero, List.getElem_cons_succ]
  refine wpAnyH_take (i := 6) (v := .string ⟨(a ++ [32] ++ s).toArray⟩) rfl (by kernel_rfl) (by kernel_rfl) (by kernel_rfl) (fun _ _ _ h => h) (Or.inl ⟨by rfl, ?_⟩) (by assumption) ?_
  · intro w hSw; clear hSw; go_simp <;> (try simp only [List.length_append, List.length_cons, List.length_nil]) <;> omega
  try simp only [Act.put, List.setIfInBounds_toArray, List.set_cons_zero, List.set_cons_succ, List.getElem_toArray, List.getElem_cons_zero, List.getElem_cons_succ]
  refine wpAnyH_take (i := 7) (v := .string ⟨(a ++ [32] ++ s ++ [32]).toArray⟩) rfl (by kernel_rfl) (by kernel_rfl) (by kernel_rfl) (fun _ _ _ h => h) (Or.inl ⟨by rfl, ?_⟩) (by assumption) ?_
  · intro w hSw; clear hSw; go_simp <;> (try simp only [List.length_append, List.length_cons, List.length_nil]) <;> omega
  try simp only [Act.put, List.setIfInBounds_toArray, List.set_cons_zero, List.set_cons_succ, List.getElem_toArray, List.getElem_cons_zero, List.getElem_cons_succ]
  refine wpAnyH_take (i := 10) (v := .string ⟨(a ++ [32] ++ s ++ [32] ++ h).toArray⟩) rfl (by kernel_rfl) (by kernel_rfl) (by kernel_rfl) (fun _ _ _ h => h) (Or.inl ⟨by rfl, ?_⟩) (by assumption) ?_
  · intro w hSw; clear hSw; go_simp <;> (try simp only [List.length_append, List.length_cons, List.length_nil]) <;> omega
  try simp only [Act.put, List.setIfInBounds_toArray, List.set_cons_zero, List.set_cons_succ, List.getElem_toArray, List.getElem_cons_zero, List.getElem_cons_succ]
  refine wpAnyH_ready (rs := [13]) (by kernel_rfl) (by simp) (AllReadyH.cons rfl (fun K hK => ?_) AllReadyH.nil)
  go_simp
  have hBb := hBa.trans (hB1'.mono hBa.size)
  refine (hc _ hBb).mono ?_
  rintro e w2 ⟨rfl, hB2⟩
  go_simp
  have hsz1 := Nat.lt_of_lt_of_le hsz hB1'.size
  refine hK.out _ _ ⟨(hB2.cell (p := ⟨W0.heap.size, 0, none⟩) hsz1).trans p0, (hB2.cell (p := ⟨W0.heap.size, 1, none⟩) hsz1).trans p1, (hB2.cell (p := ⟨W0.heap.size, 2, none⟩) hsz1).trans p2, (hB2.cell (p := ⟨W0.heap.size, 3, none⟩) hsz1).trans p3⟩ (fun hHeld => ?_)
  clear hK K
  refine wpAnyH_take (i := 14) (v := .string ⟨(a ++ [32] ++ s ++ [32] ++ h ++ x).toArray⟩) rfl (by kernel_rfl) (by kernel_rfl) (by kernel_rfl) (fun _ _ _ h => h) (Or.inl ⟨by rfl, ?_⟩) (by assumption) ?_
  · intro w hSw; clear hSw; go_simp <;> (try simp only [List.length_append, List.length_cons, List.length_nil]) <;> omega
  try simp only [Act.put, List.setIfInBounds_toArray, List.set_cons_zero, List.set_cons_succ, List.getElem_toArray, List.getElem_cons_zero, List.getElem_cons_succ]
  refine wpAnyH_take (i := 15) (v := ?_) rfl (by kernel_rfl) (by kernel_rfl) (by kernel_rfl) (fun _ _ _ h => h) (Or.inl ⟨by rfl, ?_⟩) (by assumption) ?_
  rotate_left
  · intro w hSw; (try dsimp only at hSw); go_simp <;> with_reducible rfl
  try simp only [Act.put, List.setIfInBounds_toArray, List.set_cons_zero, List.set_cons_succ, List.getElem_toArray, List.getElem_cons_zero, List.getElem_cons_succ]
  refine wpAnyH_done (by kernel_rfl) ?_ _
  go_wp2_with fail
  go_ret
  exact ⟨by first | rfl | simp, hB0.trans ((hB1'.trans (hB2.mono hB1'.size)).mono hB0.size)⟩
theorem w_in_true (W : World) (q l : Value) (a b : Bg.Str) (hq : SayV W q b) (hl : SayV W l a) (la : a.length ≤ 400000) (lb : b.length ≤ 400000) (W0 : World) (hB : Below W.heap.size W W0) :
    Says 284 #[.agg #[q, l, .bool true]] (a ++ [32, 110, 111, 116, 32, 105, 110] ++ ([32, 40] ++ b ++ [41])) W0 := by
  have hex := Bg.ext_mk
  have hap := Bg.app_mk
  have hc := w_asked W q b hq lb
  have hlen : ([32, 40] ++ b ++ [41]).length ≤ 401100 := by simp only [List.length_append, List.length_cons, List.length_nil]; omega
  generalize [32, 40] ++ b ++ [41] = x at hc hlen ⊢
  obtain ⟨T1, x1, K1, y1, rfl, n1, m1, f1, hl⟩ := hl
  obtain ⟨T2, x2, K2, y2, rfl, _⟩ := hq
  unfold Says
  go_enter Tryz.func284, Tryz.ntmps284
  go_wp2_with fail
  have hBa : Below W.heap.size W (W0.alloc (.cells #[.iface T2 x2, .iface T1 x1, .bool true] 332)) := hB.alloc hB.size _
  have hB0 : Below W0.heap.size W0 (W0.alloc (.cells #[.iface T2 x2, .iface T1 x1, .bool true] 332)) := wsum _
  obtain ⟨q0, q1, q2⟩ := new3 W0 (.iface T2 x2) (.iface T1 x1) (.bool true) 332
  have hsz : W0.heap.size < (W0.alloc (.cells #[.iface T2 x2, .iface T1 x1, .bool true] 332)).heap.size := by simp
  generalize W0.alloc (.cells #[.iface T2 x2, .iface T1 x1, .bool true] 332) = A at hBa hB0 q0 q1 q2 hsz ⊢
  refine wp_region_held_drew (S := fun w' => w'.cell? ⟨W0.heap.size, 0, none⟩ = some (.iface T2 x2) ∧ w'.cell? ⟨W0.heap.size, 1, none⟩ = some (.iface T1 x1) ∧ w'.cell? ⟨W0.heap.size, 2, none⟩ = some (.bool true)) (by kernel_rfl) ⟨q0, q1, q2⟩ (fun hHeld => ?_)
  refine wpAnyH_take (i := 0) (v := ?_) rfl (by kernel_rfl) (by kernel_rfl) (by kernel_rfl) (fun _ _ _ h => h) (Or.inl ⟨by rfl, ?_⟩) (by assumption) ?_
  rotate_left
  · intro w hSw; (try dsimp only at hSw); go_simp <;> with_reducible rfl
  try simp only [Act.put, List.setIfInBounds_toArray, List.set_cons_zero, List.set_cons_succ, List.getElem_toArray, List.getElem_cons_zero, List.getElem_cons_succ]
  refine wpAnyH_take (i := 1) (v := ?_) rfl (by kernel_rfl) (by kernel_rfl) (by kernel_rfl) (fun _ _ _ h => h) (Or.inl ⟨by rfl, ?_⟩) (by assumption) ?_
  rotate_left
  · intro w hSw; (try dsimp only at hSw); go_simp <;> with_reducible rfl
  try simp only [Act.put, List.setIfInBounds_toArray, List.set_cons_zero, List.set_cons_succ, List.getElem_toArray, List.getElem_cons_zero, List.getElem_cons_succ]
  refine wpAnyH_take (i := 4) (v := ?_) rfl (by kernel_rfl) (by kernel_rfl) (by kernel_rfl) (fun _ _ _ h => h) (Or.inl ⟨by rfl, ?_⟩) (by assumption) ?_
  rotate_left
  · intro w hSw; (try dsimp only at hSw); go_simp <;> with_reducible rfl
  try simp only [Act.put, List.setIfInBounds_toArray, List.set_cons_zero, List.set_cons_succ, List.getElem_toArray, List.getElem_cons_zero, List.getElem_cons_succ]
  refine wpAnyH_take (i := 5) (v := ?_) rfl (by kernel_rfl) (by kernel_rfl) (by kernel_rfl) (fun _ _ _ h => h) (Or.inl ⟨by rfl, ?_⟩) (by assumption) ?_
  rotate_left
  · intro w hSw; (try dsimp only at hSw); go_simp <;> with_reducible rfl
  try simp only [Act.put, List.setIfInBounds_toArray, List.set_cons_zero, List.set_cons_succ, List.getElem_toArray, List.getElem_cons_zero, List.getElem_cons_succ]
  refine wpAnyH_ready (rs := [2]) (by kernel_rfl) (by simp) (AllReadyH.cons rfl (fun K hK => ?_) AllReadyH.nil)
  go_simp
  refine (hl _ (below_drew hBa)).mono ?_
  rintro e w1 ⟨rfl, hB1⟩
  go_simp
  have hB1' := below_in hB1
  have p0 := (hB1'.cell (p := ⟨W0.heap.size, 0, none⟩) hsz).trans q0
  have p1 := (hB1'.cell (p := ⟨W0.heap.size, 1, none⟩) hsz).trans q1
  have p2 := (hB1'.cell (p := ⟨W0.heap.size, 2, none⟩) hsz).trans q2
  refine hK.out _ _ ⟨p0, p1, p2⟩ (fun hHeld => ?_)
  clear hK K
  refine wpAnyH_take (i := 3) (v := .string ⟨(a ++ [32, 110, 111, 116, 32, 105, 110]).toArray⟩) rfl (by kernel_rfl) (by kernel_rfl) (by kernel_rfl) (fun _ _ _ h => h) (Or.inl ⟨by rfl, ?_⟩) (by assumption) ?_
  · intro w hSw; clear hSw; go_simp <;> (try simp only [List.length_append, List.length_cons, List.length_nil]) <;> omega
  try simp only [Act.put, List.setIfInBounds_toArray, List.set_cons_zero, List.set_cons_succ, List.getElem_toArray, List.getElem_cons_zero, List.getElem_cons_succ]
  refine wpAnyH_ready (rs := [6]) (by kernel_rfl) (by simp) (AllReadyH.cons rfl (fun K hK => ?_) AllReadyH.nil)
  go_simp
  have hBb := hBa.trans (hB1'.mono hBa.size)
  refine (hc _ hBb).mono ?_
  rintro e w2 ⟨rfl, hB2⟩
  go_simp
  have hsz1 := Nat.lt_of_lt_of_le hsz hB1'.size
  refine hK.out _ _ ⟨(hB2.cell (p := ⟨W0.heap.size, 0, none⟩) hsz1).trans p0, (hB2.cell (p := ⟨W0.heap.size, 1, none⟩) hsz1).trans p1, (hB2.cell (p := ⟨W0.heap.size, 2, none⟩) hsz1).trans p2⟩ (fun hHeld => ?_)
  clear hK K
  refine wpAnyH_take (i := 7) (v := .string ⟨(a ++ [32, 110, 111, 116, 32, 105, 110] ++ x).toArray⟩) rfl (by kernel_rfl) (by kernel_rfl) (by kernel_rfl) (fun _ _ _ h => h) (Or.inl ⟨by rfl, ?_⟩) (by assumption) ?_
  · intro w hSw; clear hSw; go_simp <;> (try simp only [List.length_append, List.length_cons, List.length_nil]) <;> omega
  try simp only [Act.put, List.setIfInBounds_toArray, List.set_cons_zero, List.set_cons_succ, List.getElem_toArray, List.getElem_cons_zero, List.getElem_cons_succ]
  refine wpAnyH_take (i := 8) (v := ?_) rfl (by kernel_rfl) (by kernel_rfl) (by kernel_rfl) (fun _ _ _ h => h) (Or.inl ⟨by rfl, ?_⟩) (by assumption) ?_
  rotate_left
  · intro w hSw; (try dsimp only at hSw); go_simp <;> with_reducible rfl
  try simp only [Act.put, List.setIfInBounds_toArray, List.set_cons_zero, List.set_cons_succ, List.getElem_toArray, List.getElem_cons_zero, List.getElem_cons_succ]
  refine wpAnyH_done (by kernel_rfl) ?_ _
  go_wp2_with fail
  go_ret
  exact ⟨by first | rfl | simp, hB0.trans ((hB1'.trans (hB2.mono hB1'.size)).mono hB0.size)⟩
theorem w_in_false (W : World) (q l : Value) (a b : Bg.Str) (hq : SayV W q b) (hl : SayV W l a) (la : a.length ≤ 400000) (lb : b.length ≤ 400000) (W0 : World) (hB : Below W.heap.size W W0) :
    Says 284 #[.agg #[q, l, .bool false]] (a ++ [32, 105, 110] ++ ([32, 40] ++ b ++ [41])) W0 := by
  have hex := Bg.ext_mk
  have hap := Bg.app_mk
  have hc := w_asked W q b hq lb
  have hlen : ([32, 40] ++ b ++ [41]).length ≤ 401100 := by simp only [List.length_append, List.length_cons, List.length_nil]; omega
  generalize [32, 40] ++ b ++ [41] = x at hc hlen ⊢
  obtain ⟨T1, x1, K1, y1, rfl, n1, m1, f1, hl⟩ := hl
  obtain ⟨T2, x2, K2, y2, rfl, _⟩ := hq
  unfold Says
  go_enter Tryz.func284, Tryz.ntmps284
  go_wp2_with fail
  have hBa : Below W.heap.size W (W0.alloc (.cells #[.iface T2 x2, .iface T1 x1, .bool false] 332)) := hB.alloc hB.size _
  have hB0 : Below W0.heap.size W0 (W0.alloc (.cells #[.iface T2 x2, .iface T1 x1, .bool false] 332)) := wsum _
  obtain ⟨q0, q1, q2⟩ := new3 W0 (.iface T2 x2) (.iface T1 x1) (.bool false) 332
  have hsz : W0.heap.size < (W0.alloc (.cells #[.iface T2 x2, .iface T1 x1, .bool false] 332)).heap.size := by simp
  generalize W0.alloc (.cells #[.iface T2 x2, .iface T1 x1, .bool false] 332) = A at hBa hB0 q0 q1 q2 hsz ⊢
  refine wp_region_held_drew (S := fun w' => w'.cell? ⟨W0.heap.size, 0, none⟩ = some (.iface T2 x2) ∧ w'.cell? ⟨W0.heap.size, 1, none⟩ = some (.iface T1 x1) ∧ w'.cell? ⟨W0.heap.size, 2, none⟩ = some (.bool false)) (by kernel_rfl) ⟨q0, q1, q2⟩ (fun hHeld => ?_)
  refine wpAnyH_take (i := 0) (v := ?_) rfl (by kernel_rfl) (by kernel_rfl) (by kernel_rfl) (fun _ _ _ h => h) (Or.inl ⟨by rfl, ?_⟩) (by assumption) ?_
  rotate_left
  · intro w hSw; (try dsimp only at hSw); go_simp <;> with_reducible rfl
  try simp only [Act.put, List.setIfInBounds_toArray, List.set_cons_zero, List.set_cons_succ, List.getElem_toArray, List.getElem_cons_zero, List.getElem_cons_succ]
  refine wpAnyH_take (i := 1) (v := ?_) rfl (by kernel_rfl) (by kernel_rfl) (by kernel_rfl) (fun _ _ _ h => h) (Or.inl ⟨by rfl, ?_⟩) (by assumption) ?_
  rotate_left
  · intro w hSw; (try dsimp only at hSw); go_simp <;> with_reducible rfl
  try simp only [Act.put, List.setIfInBounds_toArray, List.set_cons_zero, List.set_cons_succ, List.getElem_toArray, List.getElem_cons_zero, List.getElem_cons_succ]
  refine wpAnyH_take (i := 4) (v := ?_) rfl (by kernel_rfl) (by kernel_rfl) (by kernel_rfl) (fun _ _ _ h => h) (Or.inl ⟨by rfl, ?_⟩) (by assumption) ?_
  rotate_left
  · intro w hSw; (try dsimp only at hSw); go_simp <;> with_reducible rfl
  try simp only [Act.put, List.setIfInBounds_toArray, List.set_cons_zero, List.set_cons_succ, List.getElem_toArray, List.getElem_cons_zero, List.getElem_cons_succ]
  refine wpAnyH_take (i := 5) (v := ?_) rfl (by kernel_rfl) (by kernel_rfl) (by kernel_rfl) (fun _ _ _ h => h) (Or.inl ⟨by rfl, ?_⟩) (by assumption) ?_
  rotate_left
  · intro w hSw; (try dsimp only at hSw); go_simp <;> with_reducible rfl
  try simp only [Act.put, List.setIfInBounds_toArray, List.set_cons_zero, List.set_cons_succ, List.getElem_toArray, List.getElem_cons_zero, List.getElem_cons_succ]
  refine wpAnyH_ready (rs := [2]) (by kernel_rfl) (by simp) (AllReadyH.cons rfl (fun K hK => ?_) AllReadyH.nil)
  go_simp
  refine (hl _ (below_drew hBa)).mono ?_
  rintro e w1 ⟨rfl, hB1⟩
  go_simp
  have hB1' := below_in hB1
  have p0 := (hB1'.cell (p := ⟨W0.heap.size, 0, none⟩) hsz).trans q0
  have p1 := (hB1'.cell (p := ⟨W0.heap.size, 1, none⟩) hsz).trans q1
  have p2 := (hB1'.cell (p := ⟨W0.heap.size, 2, none⟩) hsz).trans q2
  refine hK.out _ _ ⟨p0, p1, p2⟩ (fun hHeld => ?_)
  clear hK K
  refine wpAnyH_take (i := 3) (v := .string ⟨(a ++ [32, 105, 110]).toArray⟩) rfl (by kernel_rfl) (by kernel_rfl) (by kernel_rfl) (fun _ _ _ h => h) (Or.inl ⟨by rfl, ?_⟩) (by assumption) ?_
  · intro w hSw; clear hSw; go_simp <;> (try simp only [List.length_append, List.length_cons, List.length_nil]) <;> omega
  try simp only [Act.put, List.setIfInBounds_toArray, List.set_cons_zero, List.set_cons_succ, List.getElem_toArray, List.getElem_cons_zero, List.getElem_cons_succ]
  refine wpAnyH_ready (rs := [6]) (by kernel_rfl) (by simp) (AllReadyH.cons rfl (fun K hK => ?_) AllReadyH.nil)
  go_simp
  have hBb := hBa.trans (hB1'.mono hBa.size)
  refine (hc _ hBb).mono ?_
  rintro e w2 ⟨rfl, hB2⟩
  go_simp
  have hsz1 := Nat.lt_of_lt_of_le hsz hB1'.size
  refine hK.out _ _ ⟨(hB2.cell (p := ⟨W0.heap.size, 0, none⟩) hsz1).trans p0, (hB2.cell (p := ⟨W0.heap.size, 1, none⟩) hsz1).trans p1, (hB2.cell (p := ⟨W0.heap.size, 2, none⟩) hsz1).trans p2⟩ (fun hHeld => ?_)
  clear hK K
  refine wpAnyH_take (i := 7) (v := .string ⟨(a ++ [32, 105, 110] ++ x).toArray⟩) rfl (by kernel_rfl) (by kernel_rfl) (by kernel_rfl) (fun _ _ _ h => h) (Or.inl ⟨by rfl, ?_⟩) (by assumption) ?_
  · intro w hSw; clear hSw; go_simp <;> (try simp only [List.length_append, List.length_cons, List.length_nil]) <;> omega
  try simp only [Act.put, List.setIfInBounds_toArray, List.set_cons_zero, List.set_cons_succ, List.getElem_toArray, List.getElem_cons_zero, List.getElem_cons_succ]
  refine wpAnyH_take (i := 8) (v := ?_) rfl (by kernel_rfl) (by kernel_rfl) (by kernel_rfl) (fun _ _ _ h => h) (Or.inl ⟨by rfl, ?_⟩) (by assumption) ?_
  rotate_left
  · intro w hSw; (try dsimp only at hSw); go_simp <;> with_reducible rfl
  try simp only [Act.put, List.setIfInBounds_toArray, List.set_cons_zero, List.set_cons_succ, List.getElem_toArray, List.getElem_cons_zero, List.getElem_cons_succ]
  refine wpAnyH_done (by kernel_rfl) ?_ _
  go_wp2_with fail
  go_ret
  exact ⟨by first | rfl | simp, hB0.trans ((hB1'.trans (hB2.mono hB1'.size)).mono hB0.size)⟩
theorem w_agg (W : World) (l : Value) (s a : Bg.Str) (hl : SayV W l a) (la : a.length ≤ 400000) (ls : s.length ≤ 1000) (W0 : World) (hB : Below W.heap.size W W0) :
    Says 282 #[.agg #[.string ⟨s.toArray⟩, l]] (s ++ [40] ++ a ++ [41]) W0 := by
  have hex := Bg.ext_mk
  have hap := Bg.app_mk
  obtain ⟨T1, x1, K1, y1, rfl, n1, m1, f1, hl⟩ := hl
  unfold Says
  go_enter Tryz.func282, Tryz.ntmps282
  go_wp2_with fail
  have hBa : Below W.heap.size W (W0.alloc (.cells #[.string ⟨s.toArray⟩, .iface T1 x1] 327)) := hB.alloc hB.size _
  have hB0 : Below W0.heap.size W0 (W0.alloc (.cells #[.string ⟨s.toArray⟩, .iface T1 x1] 327)) := wsum _
  obtain ⟨q0, q1⟩ := new2 W0 (.string ⟨s.toArray⟩) (.iface T1 x1) 327
  have hsz : W0.heap.size < (W0.alloc (.cells #[.string ⟨s.toArray⟩, .iface T1 x1] 327)).heap.size := by simp
  generalize W0.alloc (.cells #[.string ⟨s.toArray⟩, .iface T1 x1] 327) = A at hBa hB0 q0 q1 hsz ⊢
  refine wp_region_held_drew (S := fun w' => w'.cell? ⟨W0.heap.size, 0, none⟩ = some (.string ⟨s.toArray⟩) ∧ w'.cell? ⟨W0.heap.size, 1, none⟩ = some (.iface T1 x1)) (by kernel_rfl) ⟨q0, q1⟩ (fun hHeld => ?_)
  refine wpAnyH_take (i := 0) (v := ?_) rfl (by kernel_rfl) (by kernel_rfl) (by kernel_rfl) (fun _ _ _ h => h) (Or.inl ⟨by rfl, ?_⟩) (by assumption) ?_
  rotate_left
  · intro w hSw; (try dsimp only at hSw); go_simp <;> with_reducible rfl
  try simp only [Act.put, List.setIfInBounds_toArray, List.set_cons_zero, List.set_cons_succ, List.getElem_toArray, List.getElem_cons_zero, List.getElem_cons_succ]
  refine wpAnyH_take (i := 1) (v := ?_) rfl (by kernel_rfl) (by kernel_rfl) (by kernel_rfl) (fun _ _ _ h => h) (Or.inl ⟨by rfl, ?_⟩) (by assumption) ?_
  rotate_left
  · intro w hSw; (try dsimp only at hSw); go_simp <;> with_reducible rfl
  try simp only [Act.put, List.setIfInBounds_toArray, List.set_cons_zero, List.set_cons_succ, List.getElem_toArray, List.getElem_cons_zero, List.getElem_cons_succ]
  refine wpAnyH_take (i := 2) (v := .string ⟨(s ++ [40]).toArray⟩) rfl (by kernel_rfl) (by kernel_rfl) (by kernel_rfl) (fun _ _ _ h => h) (Or.inl ⟨by rfl, ?_⟩) (by assumption) ?_
  · intro w hSw; clear hSw; go_simp <;> (try simp only [List.length_append, List.length_cons, List.length_nil]) <;> omega
  try simp only [Act.put, List.setIfInBounds_toArray, List.set_cons_zero, List.set_cons_succ, List.getElem_toArray, List.getElem_cons_zero, List.getElem_cons_succ]
  refine wpAnyH_take (i := 3) (v := ?_) rfl (by kernel_rfl) (by kernel_rfl) (by kernel_rfl) (fun _ _ _ h => h) (Or.inl ⟨by rfl, ?_⟩) (by assumption) ?_
  rotate_left
  · intro w hSw; (try dsimp only at hSw); go_simp <;> with_reducible rfl
  try simp only [Act.put, List.setIfInBounds_toArray, List.set_cons_zero, List.set_cons_succ, List.getElem_toArray, List.getElem_cons_zero, List.getElem_cons_succ]
  refine wpAnyH_take (i := 4) (v := ?_) rfl (by kernel_rfl) (by kernel_rfl) (by kernel_rfl) (fun _ _ _ h => h) (Or.inl ⟨by rfl, ?_⟩) (by assumption) ?_
  rotate_left
  · intro w hSw; (try dsimp only at hSw); go_simp <;> with_reducible rfl
  try simp only [Act.put, List.setIfInBounds_toArray, List.set_cons_zero, List.set_cons_succ, List.getElem_toArray, List.getElem_cons_zero, List.getElem_cons_succ]
  refine wpAnyH_ready (rs := [5]) (by kernel_rfl) (by simp) (AllReadyH.cons rfl (fun K hK => ?_) AllReadyH.nil)
  go_simp
  refine (hl _ (below_drew hBa)).mono ?_
  rintro e w1 ⟨rfl, hB1⟩
  go_simp
  have hB1' := below_in hB1
  have p0 := (hB1'.cell (p := ⟨W0.heap.size, 0, none⟩) hsz).trans q0
  have p1 := (hB1'.cell (p := ⟨W0.heap.size, 1, none⟩) hsz).trans q1
  refine hK.out _ _ ⟨p0, p1⟩ (fun hHeld => ?_)
  clear hK K
  refine wpAnyH_take (i := 6) (v := .string ⟨(s ++ [40] ++ a).toArray⟩) rfl (by kernel_rfl) (by kernel_rfl) (by kernel_rfl) (fun _ _ _ h => h) (Or.inl ⟨by rfl, ?_⟩) (by assumption) ?_
  · intro w hSw; clear hSw; go_simp <;> (try simp only [List.length_append, List.length_cons, List.length_nil]) <;> omega
  try simp only [Act.put, List.setIfInBounds_toArray, List.set_cons_zero, List.set_cons_succ, List.getElem_toArray, List.getElem_cons_zero, List.getElem_cons_succ]
  refine wpAnyH_take (i := 7) (v := .string ⟨(s ++ [40] ++ a ++ [41]).toArray⟩) rfl (by kernel_rfl) (by kernel_rfl) (by kernel_rfl) (fun _ _ _ h => h) (Or.inl ⟨by rfl, ?_⟩) (by assumption) ?_
  · intro w hSw; clear hSw; go_simp <;> (try simp only [List.length_append, List.length_cons, List.length_nil]) <;> omega
  try simp only [Act.put, List.setIfInBounds_toArray, List.set_cons_zero, List.set_cons_succ, List.getElem_toArray, List.getElem_cons_zero, List.getElem_cons_succ]
  refine wpAnyH_take (i := 8) (v := ?_) rfl (by kernel_rfl) (by kernel_rfl) (by kernel_rfl) (fun _ _ _ h => h) (Or.inl ⟨by rfl, ?_⟩) (by assumption) ?_
  rotate_left
  · intro w hSw; (try dsimp only at hSw); go_simp <;> with_reducible rfl
  try simp only [Act.put, List.setIfInBounds_toArray, List.set_cons_zero, List.set_cons_succ, List.getElem_toArray, List.getElem_cons_zero, List.getElem_cons_succ]
  refine wpAnyH_done (by kernel_rfl) ?_ _
  go_wp2_with fail
  go_ret
  exact ⟨by first | rfl | simp, hB0.trans (hB1'.mono hB0.size)⟩
theorem w_star (W0 : World) :
    Says 282 #[.agg #[.string ⟨#[99, 111, 117, 110, 116]⟩, .nilIface]] [99, 111, 117, 110, 116, 40, 42, 41] W0 := by
  have hex := Bg.ext_mk
  have hap := Bg.app_mk
  unfold Says
  go_enter Tryz.func282, Tryz.ntmps282
  go_wp2_with fail
  go_ret
  exact ⟨by first | rfl | simp, wsum _⟩
end Gr
end Go.Proofs.YtfkdfplnhlnnoaaGreatDoor
