/- package plain: Open; what the law asks. -/
import Derived.Test.YtfkdfplnhlnnoaaGreatDoorBgOpen
namespace Go.Proofs.YtfkdfplnhlnnoaaGreatDoor
open Go.RowKit
set_option linter.unusedSimpArgs false
set_option linter.unusedVariables false

/-- package errors' variable, as it is laid -/
def ErrType (w : World) : Prop := w.cell? ⟨0, 0, none⟩ = some (.iface 147 (.agg #[.pointer (some ⟨13, 36, none⟩)]))

set_option maxRecDepth 100000 in
set_option maxHeartbeats 1000000 in
theorem p_open (s : Bg.Str) (w : World) (hs : s.length ≤ 90000) (hS : Spaces w) (hnv : NumVars w) (hG : 13 ≤ w.heap.size) (hE : ErrType w) :
    Calls Tryz.prog 6 #[.string ⟨s.toArray⟩] w fun e w' => Below w.heap.size w w' ∧ ∃ k a : Int, e = .returned (.tuple #[.int .i64 k, .int .i64 a]) ∧ ((refData s = -1 ∧ k = 0) ∨ (0 ≤ refData s ∧ k = 1 ∧ a = refData s)) := by
  go_enter Tryz.func6, Tryz.ntmps6
  go_wp2_with fail
  refine (b_open s w hs hS hnv hG).mono ?_
  rintro e w1 ⟨hB, (⟨q, rfl, h1⟩ | ⟨b, rfl, h1, hb0, hb1⟩)⟩
  · have H1 : Hid (refData s = -1) := h1
    clear h1
    go_wp2_with fail
    refine (parts_nil _).mono ?_
    rintro e w2 ⟨rfl, rfl⟩
    go_wp2
    go_ret2
    exact ⟨hB, 0, 0, rfl, .inl ⟨H1.out, rfl⟩⟩
  · have H1 : Hid (0 ≤ refData s) := h1
    obtain ⟨d, hd⟩ : ∃ d, refData s = d := ⟨_, rfl⟩
    rw [hd] at hb1
    have HD : Hid (refData s = d) := hd
    have hE1 : w1.cell? ⟨0, 0, none⟩ = some (.iface 147 (.agg #[.pointer (some ⟨13, 36, none⟩)])) := (hB.cell (p := ⟨0, 0, none⟩) (show 0 < w.heap.size from Nat.lt_of_lt_of_le (by decide) hG)).trans hE
    clear h1 hd
    go_wp2_with fail
    refine (parts_fault b 1 d _ (by omega) (by omega) hb0 hb1 hE1).mono ?_
    rintro e w2 ⟨rfl, hB2⟩
    clear hb0 hb1 hE1
    go_wp2
    go_ret2
    exact ⟨hB.trans (hB2.mono hB.size), 1, d, rfl, .inr ⟨H1.out, rfl, HD.out.symm⟩⟩
end Go.Proofs.YtfkdfplnhlnnoaaGreatDoor
