/- PLAIN FACTS, without the program: strings as lists of bytes. -/
import Derived.WalkKit
namespace Go.Proofs.YtfkdfplnhlnnoaaGreatDoor
open Go.RowKit
namespace Bg

abbrev Str := List UInt8
/-- does t stand in s? -/
def occ (t s : Str) : Bool := (List.range (s.length + 1 - t.length)).any fun i => (s.drop i).take t.length == t

theorem ext_mk (l : Str) (a b : Nat) : (ByteArray.mk l.toArray).extract a b = ⟨((l.drop a).take (b - a)).toArray⟩ := by
  ext1
  simp [ByteArray.extract, ByteArray.copySlice]

theorem occ_true {t s : Str} (k : Nat) (h : k + t.length ≤ s.length) (e : (s.drop k).take t.length = t) : occ t s = true := by
  unfold occ
  rw [List.any_eq_true]
  exact ⟨k, by simp; omega, by simp [e]⟩

theorem occ_false {t s : Str} (h : ∀ k, k + t.length ≤ s.length → (s.drop k).take t.length ≠ t) : occ t s = false := by
  unfold occ
  rw [List.any_eq_false]
  intro k hk
  simp at hk ⊢
  exact h k (by omega)

theorem occ_one (c : UInt8) (s : Str) : occ [c] s = s.contains c := by
  rw [Bool.eq_iff_iff]
  constructor
  · intro h
    unfold occ at h
    rw [List.any_eq_true] at h
    obtain ⟨k, hk, e⟩ := h
    simp at hk e
    have : c ∈ (s.drop k).take 1 := by rw [e]; simp
    simp
    exact List.mem_of_mem_drop (List.mem_of_mem_take this)
  · intro h
    simp at h
    obtain ⟨k, hk, e⟩ := List.getElem_of_mem h
    refine occ_true k (by simp; omega) ?_
    rw [List.drop_eq_getElem_cons hk]
    simp [e]

/-- how many bytes of a set s begins with -/
def runs (set s : Str) : Nat := (s.takeWhile fun c => set.contains c).length

theorem runs_cons (set : Str) (c : UInt8) (s : Str) : runs set (c :: s) = if set.contains c then runs set s + 1 else 0 := by
  unfold runs
  rw [List.takeWhile_cons]
  split <;> simp_all

theorem runs_all (set : Str) : ∀ (s : Str), (∀ j, (h : j < s.length) → set.contains s[j] = true) → runs set s = s.length
  | [], _ => rfl
  | c :: s, h => by
    have h0 := h 0 (by simp)
    simp only [List.getElem_cons_zero] at h0
    rw [runs_cons, h0, if_pos rfl, runs_all set s (fun j hj => by have := h (j + 1) (by simp; omega); simpa using this)]
    simp

theorem runs_stop (set : Str) : ∀ (s : Str) (k : Nat) (hk : k < s.length), (∀ j, j < k → (h' : j < s.length) → set.contains s[j] = true) → set.contains s[k] = false → runs set s = k
  | c :: s, 0, _, _, h0 => by
    simp only [List.getElem_cons_zero] at h0
    rw [runs_cons, h0]; rfl
  | c :: s, k + 1, hk, h, h0 => by
    have h1 := h 0 (by omega) (by simp)
    simp only [List.getElem_cons_zero] at h1
    simp only [List.getElem_cons_succ] at h0
    rw [runs_cons, h1, if_pos rfl, runs_stop set s k (by simpa using hk) (fun j hj hl => by have := h (j + 1) (by omega) (by simp; omega); simpa using this) h0]

theorem runs_le (set s : Str) : runs set s ≤ s.length := by
  unfold runs; exact (List.takeWhile_sublist _).length_le

def reserved : Str := [32, 115, 101, 108, 101, 99, 116, 32, 100, 105, 115, 116, 105, 110, 99, 116, 32, 102, 114, 111, 109, 32, 119, 104, 101, 114, 101, 32, 103, 114, 111, 117, 112, 32, 98, 121, 32, 104, 97, 118, 105, 110, 103, 32, 97, 115, 32, 117, 110, 105, 111, 110, 32, 105, 110, 116, 101, 114, 115, 101, 99, 116, 32, 101, 120, 99, 101, 112, 116, 32, 97, 108, 108, 32, 97, 110, 121, 32, 97, 110, 100, 32, 111, 114, 32, 110, 111, 116, 32, 101, 120, 105, 115, 116, 115, 32, 105, 110, 32, 105, 115, 32, 110, 117, 108, 108, 32, 99, 111, 117, 110, 116, 32, 115, 117, 109, 32, 109, 105, 110, 32, 109, 97, 120, 32]
def digits : Str := [48, 49, 50, 51, 52, 53, 54, 55, 56, 57]
def letters : Str := [97, 98, 99, 100, 101, 102, 103, 104, 105, 106, 107, 108, 109, 110, 111, 112, 113, 114, 115, 116, 117, 118, 119, 120, 121, 122, 65, 66, 67, 68, 69, 70, 71, 72, 73, 74, 75, 76, 77, 78, 79, 80, 81, 82, 83, 84, 85, 86, 87, 88, 89, 90, 95]
theorem reserved_len : reserved.length ≤ 100000 := by rw [show reserved.length = 125 from rfl]; omega
theorem letters_len : letters.length ≤ 100000 := by rw [show letters.length = 53 from rfl]; omega
theorem named_len : (letters ++ digits).length ≤ 100000 := by rw [show (letters ++ digits).length = 63 from rfl]; omega
theorem digits_len : digits.length ≤ 100000 := by rw [show digits.length = 10 from rfl]; omega
def isKey (s : Str) : Bool := occ (32 :: (s ++ [32])) reserved
def isName (s : Str) : Bool := !s.isEmpty && (runs letters (s.take 1) == 1) && (runs (letters ++ digits) s == s.length) && !isKey s

theorem isName_cons (c : UInt8) (s : Str) : isName (c :: s) = (decide ((runs letters [c] : Int) = 1) && decide ((runs (letters ++ digits) (c :: s) : Int) = s.length + 1) && !isKey (c :: s)) := by
  unfold isName
  have e1 : (runs letters [c] == 1) = decide ((runs letters [c] : Int) = 1) := by
    rw [Bool.eq_iff_iff]; simp; omega
  have e2 : (runs (letters ++ digits) (c :: s) == (c :: s).length) = decide ((runs (letters ++ digits) (c :: s) : Int) = s.length + 1) := by
    rw [Bool.eq_iff_iff]; simp; omega
  rw [e2]
  simp only [List.take_succ_cons, List.take_zero, e1, List.isEmpty_cons, Bool.not_false, Bool.true_and]

theorem app_mk (a b : Str) : (ByteArray.mk a.toArray) ++ (ByteArray.mk b.toArray) = ByteArray.mk (a ++ b).toArray := by
  ext1
  simp [ByteArray.data_append]

/-- what a text in quotes says, and how many bytes it takes, n of them gone; 0: it does not end -/
def quo (acc : Str) (n : Nat) : Str → Str × Nat
  | [] => ([], 0)
  | [c] => if c = 10 then ([], 0) else if c = 39 then (acc, n + 1) else ([], 0)
  | c :: d :: r => if c = 10 then ([], 0) else if c = 39 then (if d = 39 then quo (acc ++ [39]) (n + 2) r else (acc, n + 1)) else quo (acc ++ [c]) (n + 1) (d :: r)
def quoted (s : Str) : Str × Nat := quo [] 1 (s.drop 1)

theorem quo_nil (acc : Str) (n : Nat) : quo acc n [] = ([], 0) := by unfold quo; rfl
theorem quo_nl (acc : Str) (n : Nat) (r : Str) : quo acc n (10 :: r) = ([], 0) := by
  cases r <;> (unfold quo; rfl)
theorem quo_plain (acc : Str) (n : Nat) (c : UInt8) (r : Str) (h : c ≠ 10) (h' : c ≠ 39) : quo acc n (c :: r) = quo (acc ++ [c]) (n + 1) r := by
  cases r with
  | nil => rw [quo_nil]; unfold quo; rw [if_neg h, if_neg h']
  | cons d r => rw [quo]; rw [if_neg h, if_neg h']
theorem quo_two (acc : Str) (n : Nat) (r : Str) : quo acc n (39 :: 39 :: r) = quo (acc ++ [39]) (n + 2) r := by
  rw [quo]; rfl
theorem quo_end (acc : Str) (n : Nat) (r : Str) (h : ∀ r', r ≠ 39 :: r') : quo acc n (39 :: r) = (acc, n + 1) := by
  cases r with
  | nil => unfold quo; rfl
  | cons d r =>
    have : d ≠ 39 := fun e => h r (by rw [e])
    rw [quo]; rw [if_neg (by decide), if_pos rfl, if_neg this]

theorem size_mk (s : Str) : (ByteArray.mk s.toArray).size = s.length := rfl
theorem u8_eq {a b : UInt8} (h : (a.toNat : Int) = (b.toNat : Int)) : a = b := UInt8.toNat_inj.1 (by omega)
theorem bne_t {a : UInt8} {n : Int} (b : UInt8) (h : ((a.toNat : Int) != n) = true) (hb : n = (b.toNat : Int)) : a ≠ b := by
  intro e; subst e; subst hb; simp at h
theorem bne_f {a : UInt8} {n : Int} (b : UInt8) (h : ((a.toNat : Int) != n) = false) (hb : n = (b.toNat : Int)) : a = b := by
  subst hb; exact u8_eq (by simpa using h)
theorem beq_t {a : UInt8} {n : Int} (b : UInt8) (h : ((a.toNat : Int) == n) = true) (hb : n = (b.toNat : Int)) : a = b := by
  subst hb; exact u8_eq (by simpa using h)
theorem beq_f {a : UInt8} {n : Int} (b : UInt8) (h : ((a.toNat : Int) == n) = false) (hb : n = (b.toNat : Int)) : a ≠ b := by
  intro e; subst e; subst hb; simp at h
theorem drop_get (s : Str) (k : Nat) (h : k < s.length) : s.drop k = s[k] :: s.drop (k + 1) := List.drop_eq_getElem_cons h
theorem take_one (s : Str) (k : Nat) (h : k < s.length) : (s.drop k).take 1 = [s[k]] := by rw [drop_get s k h]; rfl

/-- the number that digits say, below 0; none: more than 64 bits hold -/
def negNum (n : Int) : Str → Option Int
  | [] => some n
  | c :: r => if n < (-9223372036854775808 + ((c.toNat : Int) - 48)).tdiv 10 then none else negNum (10 * n - ((c.toNat : Int) - 48)) r
def number (s : Str) (neg : Bool) : Int × Bool :=
  match negNum 0 s with
  | none => (0, false)
  | some n => if neg then (n, true) else (if n = -9223372036854775808 then n else -n, decide (n ≠ -9223372036854775808))
theorem digit_of {c : UInt8} (h : digits.contains c = true) : 48 ≤ c.toNat ∧ c.toNat ≤ 57 := by
  simp [digits] at h
  rcases h with h | h | h | h | h | h | h | h | h | h <;> subst h <;> decide
theorem mem_of_runs {set s : Str} (hd : runs set s = s.length) (k : Nat) (hk : k < s.length) : set.contains s[k] = true := by
  induction s generalizing k with
  | nil => simp at hk
  | cons c s ih =>
    rw [runs_cons] at hd
    by_cases h : set.contains c = true
    · rw [if_pos h] at hd
      cases k with
      | zero => exact h
      | succ k => exact ih (by simp at hd; exact hd) k (by simpa using hk)
    · rw [if_neg h] at hd; simp at hd
theorem digit_at {s : Str} (hd : runs digits s = s.length) (k : Nat) (hk : k < s.length) : 48 ≤ s[k].toNat ∧ s[k].toNat ≤ 57 := digit_of (mem_of_runs hd k hk)
theorem tdiv_lo (d : Int) (h0 : 0 ≤ d) (h9 : d ≤ 9) : (-9223372036854775808 + d).tdiv 10 = -((9223372036854775808 - d) / 10) := by
  have e : (-9223372036854775808 + d) = -(9223372036854775808 - d) := by omega
  rw [e, Int.neg_tdiv, Int.tdiv_eq_ediv_of_nonneg (by omega)]
theorem negNum_cons (n : Int) (c : UInt8) (r : Str) : negNum n (c :: r) = if n < (-9223372036854775808 + ((c.toNat : Int) - 48)).tdiv 10 then none else negNum (10 * n - ((c.toNat : Int) - 48)) r := by
  rw [negNum]
theorem number_none {s : Str} (neg : Bool) (h : negNum 0 s = none) : number s neg = (0, false) := by
  unfold number; rw [h]
theorem number_pos {s : Str} {n : Int} (h : negNum 0 s = some n) : number s false = (if n = -9223372036854775808 then n else -n, decide (n ≠ -9223372036854775808)) := by
  unfold number; rw [h]; rfl
theorem number_neg {s : Str} {n : Int} (h : negNum 0 s = some n) : number s true = (n, true) := by
  unfold number; rw [h]; rfl
theorem neg_wrap (x : Int) (h1 : -9223372036854775808 ≤ x) (h2 : x ≤ 0) : wrap64 (-x) = if x = -9223372036854775808 then x else -x := by
  unfold wrap64; split <;> omega
end Bg
end Go.Proofs.YtfkdfplnhlnnoaaGreatDoor
