/- plain.parts: what an error is taken apart into. -/
import Derived.Test.YtfkdfplnhlnnoaaGreatDoorBgIs
import Derived.Deep.QuietTactic
import Derived.BigQuiet
namespace Go.Proofs.YtfkdfplnhlnnoaaGreatDoor
open Go.RowKit

theorem as_fault (e : Addr) (tb : Nat) (old : Value) (w : World) (hg : w.cell? ⟨0, 0, none⟩ = some (.iface 147 (.agg #[.pointer (some ⟨13, 36, none⟩)])))
    (ht0 : w.cell? ⟨tb, 0, none⟩ = some old) (hf0 : w.frozen? ⟨tb, 0, none⟩ = false) :
    Calls Tryz.prog 30 #[.iface 76 (.pointer (some e)), .iface 78 (.pointer (some ⟨tb, 0, none⟩))] w fun ev w' => ev = .returned (.bool true) ∧ w'.cell? ⟨tb, 0, none⟩ = some (.pointer (some e)) ∧ Below tb w w' := by
  have hlt : tb < w.heap.size := World.block_lt_of_cell? w ⟨tb, 0, none⟩ ht0
  refine (as_hit e ⟨tb, 0, none⟩ old w hg ht0 hf0).mono ?_
  rintro ev w' ⟨rfl, rfl⟩
  refine ⟨rfl, ?_, ?_⟩
  · refine World.cell?_setCell_same' _ _ _ ?_
    rw [World.cell?_alloc_lt _ _ ⟨tb, 0, none⟩ (by simp; omega), World.cell?_alloc_lt _ _ ⟨tb, 0, none⟩ (by simp; omega), World.cell?_alloc_lt _ _ ⟨tb, 0, none⟩ (by simp; omega), World.cell?_alloc_lt _ _ ⟨tb, 0, none⟩ hlt, ht0]
    rfl
  · exact (((((Below.refl tb w).alloc (by omega) _).alloc (by simp; omega) _).alloc (by simp; omega) _).alloc (by simp; omega) _).setCell (p := ⟨tb, 0, none⟩) (Nat.le_refl _) _

set_option maxRecDepth 100000 in
set_option maxHeartbeats 1000000 in
theorem parts_nil (w : World) :
    Calls Tryz.prog 12 #[.nilIface] w fun e w' => e = .returned (.tuple #[.int .i64 0, .int .i64 0]) ∧ w = w' := by
  go_enter Tryz.func12, Tryz.ntmps12
  go_wp2
  go_ret2
  exact ⟨rfl, rfl⟩

set_option maxRecDepth 100000 in
set_option maxHeartbeats 1000000 in
theorem parts_fault (b : Nat) (kind at_ : Int) (w : World) (h1 : 1 ≤ kind) (h9 : kind ≤ 9) (h0 : w.cell? ⟨b, 0, none⟩ = some (.int .i64 kind)) (ha : w.cell? ⟨b, 1, none⟩ = some (.int .i64 at_))
    (hg : w.cell? ⟨0, 0, none⟩ = some (.iface 147 (.agg #[.pointer (some ⟨13, 36, none⟩)]))) :
    Calls Tryz.prog 12 #[.iface 76 (.pointer (some ⟨b, 0, none⟩))] w fun e w' => e = .returned (.tuple #[.int .i64 kind, .int .i64 at_]) ∧ Below w.heap.size w w' := by
  go_enter Tryz.func12, Tryz.ntmps12
  go_wp2_with fail
  have hbl : b < w.heap.size := World.block_lt_of_cell? w ⟨b, 0, none⟩ h0
  have hgl : 0 < w.heap.size := World.block_lt_of_cell? w ⟨0, 0, none⟩ hg
  refine (as_fault ⟨b, 0, none⟩ w.heap.size (.pointer none) _ ?_ ?_ ?_).mono ?_
  · rw [World.cell?_alloc_lt _ _ ⟨0, 0, none⟩ hgl]; exact hg
  · simp
  · simp
  rintro e w1 ⟨rfl, hcf, hB⟩
  have hB1 : Below w.heap.size w w1 := ((Below.refl _ w).alloc (Nat.le_refl _) _).trans hB
  have hck : w1.cell? ⟨b, 0, none⟩ = some (.int .i64 kind) := (hB1.cell (p := ⟨b, 0, none⟩) hbl).trans h0
  have hca : w1.cell? ⟨b, 1, none⟩ = some (.int .i64 at_) := (hB1.cell (p := ⟨b, 1, none⟩) hbl).trans ha
  clear hB
  go_wp2_with fail
  go_loopw [5] (fun k wr => ∃ j : Nat, j ≤ 10 ∧ k = .int .i64 j ∧ wr.cell? ⟨w.heap.size, 0, none⟩ = some (.pointer (some ⟨b, 0, none⟩)) ∧ wr.cell? ⟨b, 0, none⟩ = some (.int .i64 kind) ∧ wr.cell? ⟨b, 1, none⟩ = some (.int .i64 at_) ∧ Below w.heap.size w wr)
    (fun k _ => 10 - (intOf k).toNat)
  case atStart => exact ⟨0, by omega, rfl, hcf, hck, hca, hB1⟩
  case round =>
    clear hcf hck hca hB1
    obtain ⟨j, hj, rfl, hcf, hck, hca, hB1⟩ := hrel
    by_cases hlt : j ≤ 9
    · go_wp2_with fail
      go_quiet ((go_at_call 31; exact Calls.quiet_of_same ((is_fault ⟨b, 0, none⟩ kind j _ (by simpa using hck)).mono (fun _ _ h => ⟨h.1, h.2.symm⟩))))
      go_wp2
      · have hx : (!(kind == (j : Int)) == ((j : Int) == kind)) = true := by assumption
        exfalso
        rw [show ((j : Int) == kind) = (kind == (j : Int)) from by rw [Bool.eq_iff_iff]; simp; omega] at hx
        cases hk : (kind == (j : Int)) <;> rw [hk] at hx <;> cases hx
      · refine ⟨⟨j + 1, by omega, by go_num, by simpa using hcf, by simpa using hck, by simpa using hca, Go.below_drewN hB1 _⟩, by simp [intOf] <;> omega⟩
    · have hk0 : (kind == 0) = false := by simp; omega
      go_wp2
      go_quiet (fail)
      go_wp2
      go_ret2
      exact ⟨rfl, Go.below_drewN hB1 _⟩
end Go.Proofs.YtfkdfplnhlnnoaaGreatDoor
