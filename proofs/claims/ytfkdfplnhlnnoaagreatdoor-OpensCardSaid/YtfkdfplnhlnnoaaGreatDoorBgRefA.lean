/- The document's answer (package bagsref): in, run, isKey, isName: their contracts. -/
import Derived.Test.YtfkdfplnhlnnoaaGreatDoorChecked
import Derived.Test.YtfkdfplnhlnnoaaGreatDoorBgPlain
import Derived.WalkKit
import Derived.WalkSpells
import Derived.WalkLawsBesides
namespace Go.Proofs.YtfkdfplnhlnnoaaGreatDoor
open Go.RowKit

theorem ret_bool {a b : Bool} (h : a = b) : Ending.returned (.bool a) = .returned (.bool b) := by rw [h]
theorem ret_int {k : IntKind} {a b : Int} (h : a = b) : Ending.returned (.int k a) = .returned (.int k b) := by rw [h]

theorem ret_two {a a' b b' : Value} (h : a = a') (h' : b = b') : Ending.returned (.tuple #[a, b]) = .returned (.tuple #[a', b']) := by rw [h, h']
theorem vint {k : IntKind} {a b : Int} (h : a = b) : Value.int k a = .int k b := by rw [h]
theorem vbool {a b : Bool} (h : a = b) : Value.bool a = .bool b := by rw [h]
theorem vstr {a b : Bg.Str} (h : a = b) : Value.string ⟨a.toArray⟩ = .string ⟨b.toArray⟩ := by rw [h]

set_option maxHeartbeats 400000 in
theorem ref_in (t s : Bg.Str) (w : World) (hs : s.length ≤ 100000) (ht : t.length ≤ 100000) :
    Calls Tryz.prog 56 #[.string ⟨t.toArray⟩, .string ⟨s.toArray⟩] w fun e w' => e = .returned (.bool (Bg.occ t s)) ∧ w = w' := by
  have hex := Bg.ext_mk
  go_enter Tryz.func56, Tryz.ntmps56
  go_wp2
  go_loop [5] (fun i => ∃ k : Nat, k ≤ s.length + 1 ∧ i = .int .i64 k ∧ Hid (∀ j, j < k → j + t.length ≤ s.length → (s.drop j).take t.length ≠ t)) (fun i => s.length + 1 - (intOf i).toNat)
  case atStart => exact ⟨0, Nat.zero_le _, rfl, by intro j hj; omega⟩
  case round =>
    obtain ⟨k, hk, rfl, hn⟩ := hrel
    by_cases hlt : k + t.length ≤ s.length
    · go_wp2
      · go_ret
        have he : (List.take t.length (List.drop k s) == t) = true := by assumption
        exact ⟨ret_bool (Bg.occ_true k hlt (by simpa using he)).symm, rfl⟩
      · have he : (List.take t.length (List.drop k s) == t) = false := by assumption
        refine ⟨⟨k + 1, by omega, by go_num, ?_⟩, by simp [intOf]; omega⟩
        intro j hj hl
        by_cases hjk : j = k
        · subst hjk; simpa using he
        · exact hn.out j (by omega) hl
    · go_wp2
      go_ret
      refine ⟨ret_bool ?_, rfl⟩
      refine (Bg.occ_false ?_).symm
      intro j hj
      exact hn.out j (by omega) hj

set_option maxHeartbeats 400000 in
theorem ref_run (s set : Bg.Str) (w : World) (hs : s.length ≤ 100000) (ht : set.length ≤ 100000) :
    Calls Tryz.prog 35 #[.string ⟨s.toArray⟩, .string ⟨set.toArray⟩] w fun e w' => e = .returned (.int .i64 (Bg.runs set s)) ∧ w = w' := by
  have hex := Bg.ext_mk
  go_enter Tryz.func35, Tryz.ntmps35
  go_wp2
  go_loop [5] (fun i => ∃ k : Nat, k ≤ s.length ∧ i = .int .i64 k ∧ Hid (∀ j, (h : j < k) → (h' : j < s.length) → set.contains s[j] = true)) (fun i => s.length - (intOf i).toNat)
  case atStart => exact ⟨0, Nat.zero_le _, rfl, by intro j hj; omega⟩
  case round =>
    obtain ⟨k, hk, rfl, hn⟩ := hrel
    by_cases hlt : k < s.length
    · have hone : Hid ((s.drop k).take 1 = [s[k]]) := by rw [List.drop_eq_getElem_cons hlt]; rfl
      go_wp2_with fail
      rw [hone.out]
      refine (ref_in [s[k]] set _ ht (by show (1 : Nat) ≤ 100000; omega)).mono ?_
      rintro e w' ⟨rfl, rfl⟩
      rw [Bg.occ_one]
      cases hc : set.contains s[k]
      · go_wp2
        go_ret
        exact ⟨ret_int (by rw [Bg.runs_stop set s k hlt hn.out hc]), rfl⟩
      · go_wp2
        refine ⟨⟨k + 1, by omega, by go_num, ?_⟩, by simp [intOf]; omega⟩
        intro j hj hl
        by_cases hjk : j = k
        · subst hjk; exact hc
        · exact hn.out j (by omega) hl
    · go_wp2
      go_ret
      exact ⟨ret_int (by rw [Bg.runs_all set s (fun j h => hn.out j (by omega) h)]; omega), rfl⟩

set_option maxRecDepth 10000 in
set_option maxHeartbeats 400000 in
theorem ref_isKey (s : Bg.Str) (w : World) (hs : s.length ≤ 90000) :
    Calls Tryz.prog 55 #[.string ⟨s.toArray⟩] w fun e w' => e = .returned (.bool (Bg.isKey s)) ∧ w = w' := by
  have happ := Bg.app_mk
  go_enter Tryz.func55, Tryz.ntmps55
  go_wp2_with fail
  refine (ref_in (32 :: (s ++ [32])) Bg.reserved _ Bg.reserved_len (by simp only [List.length_append, List.length_cons, List.length_nil]; omega)).mono ?_
  rintro e w' ⟨rfl, rfl⟩
  go_wp2
  go_ret
  exact ⟨rfl, rfl⟩

set_option maxHeartbeats 400000 in
theorem ref_isName (s : Bg.Str) (w : World) (hs : s.length ≤ 90000) :
    Calls Tryz.prog 33 #[.string ⟨s.toArray⟩] w fun e w' => e = .returned (.bool (Bg.isName s)) ∧ w = w' := by
  have hex := Bg.ext_mk
  cases s with
  | nil =>
    go_enter Tryz.func33, Tryz.ntmps33
    go_wp2_with fail
    go_ret
    exact ⟨rfl, rfl⟩
  | cons c s =>
    go_enter Tryz.func33, Tryz.ntmps33
    go_wp2_with fail
    refine (ref_run [c] Bg.letters _ (by show (1 : Nat) ≤ 100000; omega) Bg.letters_len).mono ?_
    rintro e w' ⟨rfl, rfl⟩
    go_wp2_with fail
    refine (ref_run (c :: s) (Bg.letters ++ Bg.digits) _ (by omega) Bg.named_len).mono ?_
    rintro e w' ⟨rfl, rfl⟩
    go_wp2_with fail
    refine (ref_isKey (c :: s) _ hs).mono ?_
    rintro e w' ⟨rfl, rfl⟩
    have hle := Bg.runs_le (Bg.letters ++ Bg.digits) (c :: s)
    have hle1 := Bg.runs_le Bg.letters [c]
    have hN := Bg.isName_cons c s
    have HN : Hid (Bg.isName (c :: s) = _) := hN
    clear hN
    go_wp2
    all_goals
      go_ret
      refine ⟨ret_bool ?_, rfl⟩
      rw [HN.out]
      simp [*]
end Go.Proofs.YtfkdfplnhlnnoaaGreatDoor
