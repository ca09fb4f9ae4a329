/- package words: what reads names, numbers and texts. -/
import Derived.Test.YtfkdfplnhlnnoaaGreatDoorBgRefB
import Derived.Test.YtfkdfplnhlnnoaaGreatDoorBgPlain2
namespace Go.Proofs.YtfkdfplnhlnnoaaGreatDoor
open Go.RowKit
set_option linter.unusedSimpArgs false
set_option linter.unusedVariables false

namespace Bg
def dig (c : UInt8) : Bool := digits.contains c
def nam (c : UInt8) : Bool := (letters ++ digits).contains c
def inl (c : UInt8) : Bool := c != 10
theorem all_u8 {p : UInt8 → Bool} (h : (List.range 256).all (fun n => p (UInt8.ofNat n)) = true) (c : UInt8) : p c = true := by
  have h1 := List.all_eq_true.1 h c.toNat (by simp; exact c.toNat_lt)
  rwa [UInt8.ofNat_toNat] at h1
theorem dig_iff (c : UInt8) : dig c = decide (48 ≤ (c.toNat : Int) ∧ (c.toNat : Int) ≤ 57) := by
  have := all_u8 (p := fun c => dig c == decide (48 ≤ (c.toNat : Int) ∧ (c.toNat : Int) ≤ 57)) (by decide +kernel) c
  simpa using this
theorem nam_iff (c : UInt8) : nam c = decide ((48 ≤ (c.toNat : Int) ∧ (c.toNat : Int) ≤ 57) ∨ (97 ≤ (c.toNat : Int) ∧ (c.toNat : Int) ≤ 122) ∨ (65 ≤ (c.toNat : Int) ∧ (c.toNat : Int) ≤ 90) ∨ (c.toNat : Int) = 95) := by
  have := all_u8 (p := fun c => nam c == decide ((48 ≤ (c.toNat : Int) ∧ (c.toNat : Int) ≤ 57) ∨ (97 ≤ (c.toNat : Int) ∧ (c.toNat : Int) ≤ 122) ∨ (65 ≤ (c.toNat : Int) ∧ (c.toNat : Int) ≤ 90) ∨ (c.toNat : Int) = 95)) (by decide +kernel) c
  simpa using this
theorem inl_iff (c : UInt8) : inl c = ((c.toNat : Int) != 10) := by
  have := all_u8 (p := fun c => inl c == ((c.toNat : Int) != 10)) (by decide +kernel) c
  simpa using this
theorem takeWhile_all (p : UInt8 → Bool) : ∀ (s : Str), (∀ j, (h : j < s.length) → p s[j] = true) → (s.takeWhile p).length = s.length
  | [], _ => rfl
  | c :: s, h => by
    have h0 := h 0 (by simp)
    simp only [List.getElem_cons_zero] at h0
    rw [List.takeWhile_cons, h0, if_pos rfl, List.length_cons, takeWhile_all p s (fun j hj => by have := h (j + 1) (by simp; omega); simpa using this), List.length_cons]
theorem takeWhile_stop (p : UInt8 → Bool) : ∀ (s : Str) (k : Nat) (hk : k < s.length), (∀ j, j < k → (h' : j < s.length) → p s[j] = true) → p s[k] = false → (s.takeWhile p).length = k
  | c :: s, 0, _, _, h0 => by
    simp only [List.getElem_cons_zero] at h0
    rw [List.takeWhile_cons, h0]; rfl
  | c :: s, k + 1, hk, h, h0 => by
    have h1 := h 0 (by omega) (by simp)
    simp only [List.getElem_cons_zero] at h1
    simp only [List.getElem_cons_succ] at h0
    rw [List.takeWhile_cons, h1, if_pos rfl, List.length_cons, takeWhile_stop p s k (by simpa using hk) (fun j hj hl => by have := h (j + 1) (by omega) (by simp; omega); simpa using this) h0]
end Bg

set_option maxHeartbeats 400000 in
theorem w_isDigit (c : UInt8) (w : World) :
    Calls Tryz.prog 106 #[.int .u8 c.toNat] w fun e w' => e = .returned (.bool (Bg.dig c)) ∧ w = w' := by
  have H : Hid _ := Bg.dig_iff c
  go_enter Tryz.func106, Tryz.ntmps106
  go_wp2
  all_goals
    go_ret
    refine ⟨ret_bool ?_, rfl⟩
    rw [H.out]
    rw [Bool.eq_iff_iff]
    simp only [decide_eq_true_eq, Bool.or_eq_true, Bool.and_eq_true, beq_iff_eq, iff_true, true_iff, Bool.false_eq_true, iff_false, false_iff]
    omega

set_option maxHeartbeats 400000 in
theorem w_inLine (c : UInt8) (w : World) :
    Calls Tryz.prog 105 #[.int .u8 c.toNat] w fun e w' => e = .returned (.bool (Bg.inl c)) ∧ w = w' := by
  go_enter Tryz.func105, Tryz.ntmps105
  go_wp2
  go_ret
  exact ⟨ret_bool (Bg.inl_iff c).symm, rfl⟩

set_option maxHeartbeats 400000 in
theorem w_isNamed (c : UInt8) (w : World) :
    Calls Tryz.prog 108 #[.int .u8 c.toNat] w fun e w' => e = .returned (.bool (Bg.nam c)) ∧ w = w' := by
  have H : Hid _ := Bg.nam_iff c
  have H2 : Hid _ := Bg.dig_iff c
  go_enter Tryz.func108, Tryz.ntmps108
  go_wp2_with fail
  refine (w_isDigit c _).mono ?_
  rintro e w' ⟨rfl, rfl⟩
  cases hd : Bg.dig c
  all_goals
    have HD : Hid _ := hd
    clear hd
    go_wp2
  all_goals
    go_ret
    refine ⟨ret_bool ?_, rfl⟩
    have hd := HD.out
    rw [H2.out] at hd
    rw [H.out]
    first | (rw [decide_eq_false_iff_not] at hd) | (rw [decide_eq_true_eq] at hd)
    rw [Bool.eq_iff_iff]
    simp only [decide_eq_true_eq, Bool.or_eq_true, Bool.and_eq_true, beq_iff_eq, iff_true, true_iff, Bool.false_eq_true, iff_false, false_iff]
    omega

set_option maxRecDepth 100000 in
set_option maxHeartbeats 400000 in
theorem w_run_dig (s : Bg.Str) (w : World) (hs : s.length ≤ 90000) :
    Calls Tryz.prog 104 #[.string ⟨s.toArray⟩, .func (.func 106) #[] #[]] w fun e w' => e = .returned (.int .i64 (s.takeWhile Bg.dig).length) ∧ w = w' := by
  go_enter Tryz.func104, Tryz.ntmps104
  go_wp2
  go_loop [5] (fun n => ∃ k : Nat, k ≤ s.length ∧ n = .int .i64 k ∧ Hid (∀ j, j < k → (h : j < s.length) → Bg.dig s[j] = true)) (fun n => s.length - (intOf n).toNat)
  case atStart => exact ⟨0, Nat.zero_le _, rfl, by intro j hj; omega⟩
  case round =>
    obtain ⟨k, hk, rfl, hn⟩ := hrel
    by_cases hlt : k < s.length
    · have hsz : k < (ByteArray.mk s.toArray).size := hlt
      go_wp2_with fail
      refine (w_isDigit ((ByteArray.mk s.toArray)[k]'hsz) _).mono ?_
      rintro e w' ⟨rfl, rfl⟩
      cases hc : Bg.dig ((ByteArray.mk s.toArray)[k]'hsz)
      · go_wp2
        go_ret
        exact ⟨ret_int (by rw [Bg.takeWhile_stop Bg.dig s k hlt hn.out hc]), rfl⟩
      · go_wp2
        refine ⟨⟨k + 1, by omega, by go_num, ?_⟩, by simp [intOf] <;> omega⟩
        intro j hj hl
        by_cases hjk : j = k
        · subst hjk; exact hc
        · exact hn.out j (by omega) hl
    · go_wp2
      go_ret
      exact ⟨ret_int (by rw [Bg.takeWhile_all Bg.dig s (fun j h => hn.out j (by omega) h)]; omega), rfl⟩

set_option maxRecDepth 100000 in
set_option maxHeartbeats 400000 in
theorem w_run_nam (s : Bg.Str) (w : World) (hs : s.length ≤ 90000) :
    Calls Tryz.prog 104 #[.string ⟨s.toArray⟩, .func (.func 108) #[] #[]] w fun e w' => e = .returned (.int .i64 (s.takeWhile Bg.nam).length) ∧ w = w' := by
  go_enter Tryz.func104, Tryz.ntmps104
  go_wp2
  go_loop [5] (fun n => ∃ k : Nat, k ≤ s.length ∧ n = .int .i64 k ∧ Hid (∀ j, j < k → (h : j < s.length) → Bg.nam s[j] = true)) (fun n => s.length - (intOf n).toNat)
  case atStart => exact ⟨0, Nat.zero_le _, rfl, by intro j hj; omega⟩
  case round =>
    obtain ⟨k, hk, rfl, hn⟩ := hrel
    by_cases hlt : k < s.length
    · have hsz : k < (ByteArray.mk s.toArray).size := hlt
      go_wp2_with fail
      refine (w_isNamed ((ByteArray.mk s.toArray)[k]'hsz) _).mono ?_
      rintro e w' ⟨rfl, rfl⟩
      cases hc : Bg.nam ((ByteArray.mk s.toArray)[k]'hsz)
      · go_wp2
        go_ret
        exact ⟨ret_int (by rw [Bg.takeWhile_stop Bg.nam s k hlt hn.out hc]), rfl⟩
      · go_wp2
        refine ⟨⟨k + 1, by omega, by go_num, ?_⟩, by simp [intOf] <;> omega⟩
        intro j hj hl
        by_cases hjk : j = k
        · subst hjk; exact hc
        · exact hn.out j (by omega) hl
    · go_wp2
      go_ret
      exact ⟨ret_int (by rw [Bg.takeWhile_all Bg.nam s (fun j h => hn.out j (by omega) h)]; omega), rfl⟩

set_option maxRecDepth 100000 in
set_option maxHeartbeats 400000 in
theorem w_run_inl (s : Bg.Str) (w : World) (hs : s.length ≤ 90000) :
    Calls Tryz.prog 104 #[.string ⟨s.toArray⟩, .func (.func 105) #[] #[]] w fun e w' => e = .returned (.int .i64 (s.takeWhile Bg.inl).length) ∧ w = w' := by
  go_enter Tryz.func104, Tryz.ntmps104
  go_wp2
  go_loop [5] (fun n => ∃ k : Nat, k ≤ s.length ∧ n = .int .i64 k ∧ Hid (∀ j, j < k → (h : j < s.length) → Bg.inl s[j] = true)) (fun n => s.length - (intOf n).toNat)
  case atStart => exact ⟨0, Nat.zero_le _, rfl, by intro j hj; omega⟩
  case round =>
    obtain ⟨k, hk, rfl, hn⟩ := hrel
    by_cases hlt : k < s.length
    · have hsz : k < (ByteArray.mk s.toArray).size := hlt
      go_wp2_with fail
      refine (w_inLine ((ByteArray.mk s.toArray)[k]'hsz) _).mono ?_
      rintro e w' ⟨rfl, rfl⟩
      cases hc : Bg.inl ((ByteArray.mk s.toArray)[k]'hsz)
      · go_wp2
        go_ret
        exact ⟨ret_int (by rw [Bg.takeWhile_stop Bg.inl s k hlt hn.out hc]), rfl⟩
      · go_wp2
        refine ⟨⟨k + 1, by omega, by go_num, ?_⟩, by simp [intOf] <;> omega⟩
        intro j hj hl
        by_cases hjk : j = k
        · subst hjk; exact hc
        · exact hn.out j (by omega) hl
    · go_wp2
      go_ret
      exact ⟨ret_int (by rw [Bg.takeWhile_all Bg.inl s (fun j h => hn.out j (by omega) h)]; omega), rfl⟩

theorem Bg.takeWhile_dig (s : Bg.Str) : (s.takeWhile Bg.dig).length = Bg.runs Bg.digits s := rfl
theorem Bg.takeWhile_nam (s : Bg.Str) : (s.takeWhile Bg.nam).length = Bg.runs (Bg.letters ++ Bg.digits) s := rfl

set_option maxHeartbeats 400000 in
theorem w_Digits (s : Bg.Str) (w : World) (hs : s.length ≤ 90000) :
    Calls Tryz.prog 134 #[.string ⟨s.toArray⟩] w fun e w' => e = .returned (.int .i64 (Bg.runs Bg.digits s)) ∧ w = w' := by
  go_enter Tryz.func134, Tryz.ntmps134
  go_wp2_with fail
  refine (w_run_dig s _ hs).mono ?_
  rintro e w' ⟨rfl, rfl⟩
  rw [Bg.takeWhile_dig]
  go_wp2
  go_ret
  exact ⟨rfl, rfl⟩

set_option maxHeartbeats 400000 in
theorem w_NameBytes (s : Bg.Str) (w : World) (hs : s.length ≤ 90000) :
    Calls Tryz.prog 130 #[.string ⟨s.toArray⟩] w fun e w' => e = .returned (.int .i64 (if 0 < Bg.runs Bg.digits s then 0 else Bg.runs (Bg.letters ++ Bg.digits) s : Nat)) ∧ w = w' := by
  by_cases h : 0 < Bg.runs Bg.digits s
  · rw [if_pos h]
    go_enter Tryz.func130, Tryz.ntmps130
    go_wp2_with fail
    refine (w_Digits s _ hs).mono ?_
    rintro e w' ⟨rfl, rfl⟩
    go_wp2
    go_ret
    exact ⟨rfl, rfl⟩
  · rw [if_neg h]
    go_enter Tryz.func130, Tryz.ntmps130
    go_wp2_with fail
    refine (w_Digits s _ hs).mono ?_
    rintro e w' ⟨rfl, rfl⟩
    go_wp2_with fail
    refine (w_run_nam s _ hs).mono ?_
    rintro e w' ⟨rfl, rfl⟩
    rw [Bg.takeWhile_nam]
    go_wp2
    go_ret
    exact ⟨rfl, rfl⟩
end Go.Proofs.YtfkdfplnhlnnoaaGreatDoor
