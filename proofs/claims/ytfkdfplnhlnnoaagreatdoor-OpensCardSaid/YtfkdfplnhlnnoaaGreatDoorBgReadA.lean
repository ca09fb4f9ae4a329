/- package tables: the reader's small parts. -/
import Derived.Test.YtfkdfplnhlnnoaaGreatDoorBgMaps
import Derived.Test.YtfkdfplnhlnnoaaGreatDoorBgFault
namespace Go.Proofs.YtfkdfplnhlnnoaaGreatDoor
open Go.RowKit
set_option linter.unusedSimpArgs false
set_option linter.unusedVariables false

theorem zeroKind (w : World) : (zeroValue 135).run Tryz.prog w = .ok (.int .i64 0) w := by kernel_rfl
/-- what isName answers -/
def isNm (kws : List Bg.Str) (s : Bg.Str) : Bool := !kws.contains s && !s.isEmpty && decide (((if 0 < Bg.runs Bg.digits s then 0 else Bg.runs (Bg.letters ++ Bg.digits) s : Nat) : Int) = s.length)

theorem look_kind {w : World} {Kb n : Nat} {ks : List Bg.Str} (h : keyset w Kb n ks) (s : Bg.Str) (hs : s.length ≤ 100000) :
    ∃ v, (Instr.lookup 104 (.map (some Kb)) (.string ⟨s.toArray⟩) true).run Tryz.prog w = .ok (.tuple #[v, .bool (ks.contains s)]) w := by
  obtain ⟨v, ps, hrun, _⟩ := World.ownsMap.look_ok (R := anyElem) (D := keyD ks) h strKeyed Tryz.underlying104 (zeroKind w) rfl (strKey s hs)
  rw [has_keys] at hrun
  exact ⟨v, hrun⟩

set_option maxRecDepth 100000 in
set_option maxHeartbeats 400000 in
theorem r_isName (R Kb n : Nat) (kws : List Bg.Str) (s : Bg.Str) (w : World) (hs : s.length ≤ 90000) (hk : w.cell? ⟨R, 3, none⟩ = some (.map (some Kb))) (hK : keyset w Kb n kws) :
    Calls Tryz.prog 98 #[.pointer (some ⟨R, 0, none⟩), .string ⟨s.toArray⟩] w fun e w' => e = .returned (.bool (isNm kws s)) ∧ w = w' := by
  obtain ⟨v, hl⟩ := look_kind hK s (by omega)
  obtain ⟨kc, hkc⟩ : ∃ kc, kws.contains s = kc := ⟨_, rfl⟩
  rw [hkc] at hl
  have HK : Hid (kws.contains s = kc) := hkc
  clear hkc
  cases kc
  · cases s with
    | nil =>
      go_enter Tryz.func98, Tryz.ntmps98
      go_wp2_with fail
      go_ret
      exact ⟨ret_bool (by unfold isNm; rw [HK.out]; rfl), rfl⟩
    | cons c s =>
      go_enter Tryz.func98, Tryz.ntmps98
      go_wp2_with fail
      refine (w_NameBytes (c :: s) _ hs).mono ?_
      rintro e w' ⟨rfl, rfl⟩
      generalize hm : (if 0 < Bg.runs Bg.digits (c :: s) then 0 else Bg.runs (Bg.letters ++ Bg.digits) (c :: s)) = m
      have HM : Hid ((if 0 < Bg.runs Bg.digits (c :: s) then 0 else Bg.runs (Bg.letters ++ Bg.digits) (c :: s)) = m) := hm
      clear hm
      go_wp2
      go_ret
      refine ⟨ret_bool ?_, rfl⟩
      unfold isNm
      rw [HK.out, HM.out]
      rw [Bool.eq_iff_iff]
      simp
  · go_enter Tryz.func98, Tryz.ntmps98
    go_wp2_with fail
    go_ret
    exact ⟨ret_bool (by unfold isNm; rw [HK.out]; rfl), rfl⟩

/-- a line's fault: thrown; what lay below n0 lies there still -/
def bad (n0 : Nat) (line : Int) (w : World) (e : Ending) (w' : World) : Prop :=
  ∃ b, e = .panicked (thrown b) ∧ w'.cell? ⟨b, 0, none⟩ = some (.int .i64 1) ∧ w'.cell? ⟨b, 1, none⟩ = some (.int .i64 line) ∧ Below n0 w w'

set_option maxRecDepth 100000 in
set_option maxHeartbeats 400000 in
theorem r_must_true (p : Addr) (w : World) :
    Calls Tryz.prog 70 #[.pointer (some p), .bool true] w fun e w' => e = .returned (.tuple #[]) ∧ w = w' := by
  go_enter Tryz.func70, Tryz.ntmps70
  go_wp2_with fail
  go_end0
  exact ⟨rfl, rfl⟩

set_option maxRecDepth 100000 in
set_option maxHeartbeats 400000 in
theorem r_must_false (R : Nat) (line : Int) (w : World) (hc : w.cell? ⟨R, 0, none⟩ = some (.int .i64 line)) :
    Calls Tryz.prog 70 #[.pointer (some ⟨R, 0, none⟩), .bool false] w fun e w' => bad w.heap.size line w e w' := by
  go_enter Tryz.func70, Tryz.ntmps70
  go_wp2_with fail
  refine (throw_any 1 line _).mono ?_
  rintro e w' ⟨rfl, rfl⟩
  go_wp2
  exact ⟨rfl, w.heap.size, rfl, by simp, by simp, (Below.refl _ _).alloc (Nat.le_refl _) _⟩
end Go.Proofs.YtfkdfplnhlnnoaaGreatDoor
