/- The law Opens, at every input. -/
import Derived.Test.YtfkdfplnhlnnoaaGreatDoorBgLaw
import Derived.Test.YtfkdfplnhlnnoaaGreatDoorBgRefG
namespace Go.Proofs.YtfkdfplnhlnnoaaGreatDoor
open Go.RowKit
set_option linter.unusedSimpArgs false
set_option linter.unusedVariables false

set_option maxRecDepth 100000 in
set_option maxHeartbeats 1000000 in
theorem ref_data_long (s : Bg.Str) (W : World) (hs : s.length ≤ 90000) (h : s.length > 4000) :
    Calls Tryz.prog 7 #[.string ⟨s.toArray⟩] W fun e W' => ∃ v, e = .returned (.tuple #[v, .int .i64 0]) ∧ Below W.heap.size W W' := by
  have h1 : (4000 : Int) < (s.length : Int) := by omega
  go_enter Tryz.func7, Tryz.ntmps7
  go_wp2
  go_ret2
  exact ⟨_, rfl, Below.refl _ _⟩
theorem ref_all (s : Bg.Str) (W : World) (hs : s.length ≤ 90000) :
    Calls Tryz.prog 7 #[.string ⟨s.toArray⟩] W fun e W' => ∃ v, e = .returned (.tuple #[v, .int .i64 (refData s)]) ∧ Below W.heap.size W W' := by
  unfold refData
  by_cases h : s.length > 4000
  · rw [if_pos h]; exact ref_data_long s W hs h
  · rw [if_neg h]; exact ref_data s W (by omega)

set_option maxRecDepth 100000 in
set_option maxHeartbeats 1000000 in
theorem law_long (s : Bg.Str) (W : World) (hs : s.length ≤ 9223372036854775807) (h : s.length > 8192) :
    Calls Tryz.prog 3 #[.string ⟨s.toArray⟩] W fun e W' => e = .returned (.bool true) ∧ Below W.heap.size W W' := by
  have h1 : (8192 : Int) < (s.length : Int) := by omega
  go_enter Tryz.func3, Tryz.ntmps3
  go_wp2
  go_ret
  exact ⟨rfl, Below.refl _ _⟩

set_option maxRecDepth 100000 in
set_option maxHeartbeats 1000000 in
theorem law_short (s : Bg.Str) (W : World) (h : s.length ≤ 8192) (hS : Spaces W) (hnv : NumVars W) (hG : 13 ≤ W.heap.size) (hE : ErrType W) :
    Calls Tryz.prog 3 #[.string ⟨s.toArray⟩] W fun e W' => e = .returned (.bool true) ∧ Below W.heap.size W W' := by
  have h1 : ¬ (8192 : Int) < (s.length : Int) := by omega
  go_enter Tryz.func3, Tryz.ntmps3
  go_wp2_with fail
  refine (p_open s W (by omega) hS hnv hG hE).mono ?_
  rintro e w1 ⟨hB1, k, a, rfl, hk⟩
  obtain ⟨d, hd⟩ : ∃ d, refData s = d := ⟨_, rfl⟩
  rw [hd] at hk
  have HD : Hid (refData s = d) := hd
  clear hd
  rcases hk with ⟨rfl, rfl⟩ | ⟨h0, rfl, rfl⟩
  · go_wp2_with fail
    refine (ref_all s _ (by omega)).mono ?_
    rintro e w2 ⟨v, rfl, hB2⟩
    rw [HD.out]
    go_wp2
    go_ret
    exact ⟨rfl, hB1.trans (hB2.mono hB1.size)⟩
  · have h0' : ¬ a < 0 := by omega
    go_wp2_with fail
    refine (ref_all s _ (by omega)).mono ?_
    rintro e w2 ⟨v, rfl, hB2⟩
    rw [HD.out]
    go_wp2
    go_ret
    exact ⟨rfl, hB1.trans (hB2.mono hB1.size)⟩
end Go.Proofs.YtfkdfplnhlnnoaaGreatDoor
