/- package bags: Open; package plain: Open. -/
import Derived.Test.YtfkdfplnhlnnoaaGreatDoorBgTRun
import Derived.Test.YtfkdfplnhlnnoaaGreatDoorBgParts
namespace Go.Proofs.YtfkdfplnhlnnoaaGreatDoor
open Go.RowKit
set_option linter.unusedSimpArgs false
set_option linter.unusedVariables false

theorem cell_of_heap {w : World} {b : Nat} {v : Value} {ty : TypeId} {fr : Nat × Nat} (h : w.heap[b]? = some (.cells #[v] ty fr)) : w.cell? ⟨b, 0, none⟩ = some v := by simp [World.cell?, h]
set_option maxRecDepth 100000 in
set_option maxHeartbeats 1000000 in
theorem b_open1 (pd : Addr) (s : Bg.Str) (w : World) (hs : s.length ≤ 90000) (hc : w.cell? pd = some (.string ⟨s.toArray⟩)) (hS : Spaces w) (hnv : NumVars w) (hG : 13 ≤ w.heap.size) :
    Calls Tryz.prog 28 #[.pointer (some pd)] w fun e w2 => Below w.heap.size w w2 ∧
      ((∃ q, e = .returned (.pointer (some q)) ∧ refData s = -1) ∨ (∃ b, e = .panicked (thrown b) ∧ 0 ≤ refData s ∧ w2.cell? ⟨b, 0, none⟩ = some (.int .i64 1) ∧ w2.cell? ⟨b, 1, none⟩ = some (.int .i64 (refData s)))) := by
  go_enter Tryz.func28, Tryz.ntmps28
  go_wp2_with fail
  refine (t_Read s w hs hS hnv hG).mono ?_
  rintro e w1 ⟨hB, (⟨h1, M, rfl, _⟩ | ⟨h1, b, rfl, hb0, hb1⟩)⟩
  · have H1 : Hid (refData s = -1) := h1
    clear h1
    go_wp2
    go_ret
    exact ⟨hB.alloc hB.size _, .inl ⟨_, rfl, H1.out⟩⟩
  · have H1 : Hid (0 ≤ refData s) := h1
    have HB1 : Hid (w1.cell? ⟨b, 1, none⟩ = some (.int .i64 (refData s))) := hb1
    clear h1 hb1
    go_wp2
    exact ⟨rfl, hB, .inr ⟨b, rfl, H1.out, hb0, HB1.out⟩⟩

set_option maxRecDepth 100000 in
set_option maxHeartbeats 1000000 in
theorem b_open (s : Bg.Str) (w : World) (hs : s.length ≤ 90000) (hS : Spaces w) (hnv : NumVars w) (hG : 13 ≤ w.heap.size) :
    Calls Tryz.prog 11 #[.string ⟨s.toArray⟩] w fun e w' => Below w.heap.size w w' ∧
      ((∃ q, e = .returned (.tuple #[.pointer (some q), .nilIface]) ∧ refData s = -1) ∨ (∃ b, e = .returned (.tuple #[.pointer none, faultV b]) ∧ 0 ≤ refData s ∧ w'.cell? ⟨b, 0, none⟩ = some (.int .i64 1) ∧ w'.cell? ⟨b, 1, none⟩ = some (.int .i64 (refData s)))) := by
  have hmf : ∀ (fn : Fn) (first cap : Array Value) (w : World), (Instr.makeFunc fn first cap).run Tryz.prog w = .ok (.func fn first cap) w := fun _ _ _ _ => rfl
  go_enter Tryz.func11, Tryz.ntmps11
  go_wp2_with fail
  have hB1 : Below w.heap.size w (w.alloc (.cells #[.string ⟨s.toArray⟩] 9)) := (Below.refl _ w).alloc (Nat.le_refl _) _
  have hsz : (w.alloc (.cells #[.string ⟨s.toArray⟩] 9)).heap.size = w.heap.size + 1 := by simp
  have hBc : Below w.heap.size w (catchW (w.alloc (.cells #[.string ⟨s.toArray⟩] 9)) 1) := (hB1.alloc (by omega) _).alloc (by simp; omega) _
  have q0 : (catchW (w.alloc (.cells #[.string ⟨s.toArray⟩] 9)) 1).heap[w.heap.size]? = some (.cells #[.string ⟨s.toArray⟩] 9 (0, 0)) := (three_get w.heap _ _ _).1
  have q2 : (catchW (w.alloc (.cells #[.string ⟨s.toArray⟩] 9)) 1).heap[w.heap.size + 1 + 1]? = some (.cells #[.nilIface] 36 (0, 0)) := (three_get w.heap _ _ _).2.2
  have HQ2 : Hid ((catchW (w.alloc (.cells #[.string ⟨s.toArray⟩] 9)) 1).cell? ⟨w.heap.size + 1 + 1, 0, none⟩ = some .nilIface) := cell_of_heap q2
  have HQ0 : Hid ((catchW (w.alloc (.cells #[.string ⟨s.toArray⟩] 9)) 1).cell? ⟨w.heap.size, 0, none⟩ = some (.string ⟨s.toArray⟩)) := cell_of_heap q0
  clear q0 q2
  refine (catchDB ⟨w.heap.size, 0, none⟩ 1 (w.alloc (.cells #[.string ⟨s.toArray⟩] 9)) (fun _ _ => refData s = -1) (fun b w2 => 0 ≤ refData s ∧ w2.cell? ⟨b, 0, none⟩ = some (.int .i64 1) ∧ w2.cell? ⟨b, 1, none⟩ = some (.int .i64 (refData s))) ?_).mono ?_
  · refine (b_open1 ⟨w.heap.size, 0, none⟩ s _ hs HQ0.out (hS.below hBc hG) (hnv.below hBc hG) (by simp [catchW]; omega)).mono ?_
    rintro e w2 ⟨hB, h⟩
    exact ⟨hB.mono (by simp [catchW] <;> omega), h⟩
  · rintro e w' ⟨w2, hB, (⟨q, h1, rfl, rfl⟩ | ⟨b, ⟨h1, hb0, hb1⟩, rfl, rfl⟩)⟩
    · have H1 : Hid (refData s = -1) := h1
      clear h1
      go_wp2
      go_ret2
      refine ⟨?_, .inl ⟨_, rfl, H1.out⟩⟩
      exact (hBc.trans (hB.mono (by simp <;> omega))).setCell (p := ⟨w.heap.size + 1 + 1, 0, none⟩) (show w.heap.size ≤ w.heap.size + 1 + 1 by omega) _
    · have H1 : Hid (0 ≤ refData s) := h1
      have hne : b ≠ w.heap.size + 1 + 1 := by
        intro e
        have h2 := (hB.cell (p := ⟨w.heap.size + 1 + 1, 0, none⟩) (by show w.heap.size + 1 + 1 < _; rw [hsz]; omega)).trans HQ2.out
        rw [← e, hb0] at h2
        cases h2
      have HB1 : Hid (w2.cell? ⟨b, 1, none⟩ = some (.int .i64 (refData s))) := hb1
      clear h1 hb1
      go_wp2
      go_ret2
      refine ⟨?_, .inr ⟨b, rfl, H1.out, ?_, ?_⟩⟩
      · exact (hBc.trans (hB.mono (by simp <;> omega))).setCell (p := ⟨w.heap.size + 1 + 1, 0, none⟩) (show w.heap.size ≤ w.heap.size + 1 + 1 by omega) _
      · exact (World.cell?_of_block (a := ⟨b, 0, none⟩) (Below.heap_setCell w2 ⟨_, 0, none⟩ _ b (by simp; omega))).trans hb0
      · exact (World.cell?_of_block (a := ⟨b, 1, none⟩) (Below.heap_setCell w2 ⟨_, 0, none⟩ _ b (by simp; omega))).trans HB1.out
end Go.Proofs.YtfkdfplnhlnnoaaGreatDoor
