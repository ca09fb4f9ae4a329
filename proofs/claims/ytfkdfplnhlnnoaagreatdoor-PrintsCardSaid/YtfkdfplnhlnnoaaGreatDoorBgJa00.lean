import Derived.Test.YtfkdfplnhlnnoaaGreatDoorChecked
import Derived.WalkKit
import Derived.WalkLawsBesides
import Derived.WalkSpells
section
namespace Go.Proofs.YtfkdfplnhlnnoaaGreatDoor
open Go.RowKit
namespace Bg
abbrev Str := List UInt8
/-- does t stand in s? -/
def occ (t s : Str) : Bool := (List.range (s.length + 1 - t.length)).any fun i => (s.drop i).take t.length == t
theorem ext_mk (l : Str) (a b : Nat) : (ByteArray.mk l.toArray).extract a b = ⟨((l.drop a).take (b - a)).toArray⟩ := by
  ext1
  simp [ByteArray.extract, ByteArray.copySlice]
theorem occ_true {t s : Str} (k : Nat) (h : k + t.length ≤ s.length) (e : (s.drop k).take t.length = t) : occ t s = true := by
  unfold occ
  rw [List.any_eq_true]
  exact ⟨k, by simp; omega, by simp [e]⟩
theorem occ_false {t s : Str} (h : ∀ k, k + t.length ≤ s.length → (s.drop k).take t.length ≠ t) : occ t s = false := by
  unfold occ
  rw [List.any_eq_false]
  intro k hk
  simp at hk ⊢
  exact h k (by omega)
theorem occ_one (c : UInt8) (s : Str) : occ [c] s = s.contains c := by
  rw [Bool.eq_iff_iff]
  constructor
  · intro h
    unfold occ at h
    rw [List.any_eq_true] at h
    obtain ⟨k, hk, e⟩ := h
    simp at hk e
    have : c ∈ (s.drop k).take 1 := by rw [e]; simp
    simp
    exact List.mem_of_mem_drop (List.mem_of_mem_take this)
  · intro h
    simp at h
    obtain ⟨k, hk, e⟩ := List.getElem_of_mem h
    refine occ_true k (by simp; omega) ?_
    rw [List.drop_eq_getElem_cons hk]
    simp [e]
/-- how many bytes of a set s begins with -/
def runs (set s : Str) : Nat := (s.takeWhile fun c => set.contains c).length
theorem runs_cons (set : Str) (c : UInt8) (s : Str) : runs set (c :: s) = if set.contains c then runs set s + 1 else 0 := by
  unfold runs
  rw [List.takeWhile_cons]
  split <;> simp_all
theorem runs_all (set : Str) : ∀ (s : Str), (∀ j, (h : j < s.length) → set.contains s[j] = true) → runs set s = s.length
  | [], _ => rfl
  | c :: s, h => by
    have h0 := h 0 (by simp)
    simp only [List.getElem_cons_zero] at h0
    rw [runs_cons, h0, if_pos rfl, runs_all set s (fun j hj => by have := h (j + 1) (by simp; omega); simpa using this)]
    simp
theorem runs_stop (set : Str) : ∀ (s : Str) (k : Nat) (hk : k < s.length), (∀ j, j < k → (h' : j < s.length) → set.contains s[j] = true) → set.contains s[k] = false → runs set s = k
  | c :: s, 0, _, _, h0 => by
    simp only [List.getElem_cons_zero] at h0
    rw [runs_cons, h0]; rfl
  | c :: s, k + 1, hk, h, h0 => by
    have h1 := h 0 (by omega) (by simp)
    simp only [List.getElem_cons_zero] at h1
    simp only [List.getElem_cons_succ] at h0
    rw [runs_cons, h1, if_pos rfl, runs_stop set s k (by simpa using hk) (fun j hj hl => by have := h (j + 1) (by omega) (by simp; omega); simpa using this) h0]
theorem runs_le (set s : Str) : runs set s ≤ s.length := by
  unfold runs; exact (List.takeWhile_sublist _).length_le
def reserved : Str := [32, 115, 101, 108, 101, 99, 116, 32, 100, 105, 115, 116, 105, 110, 99, 116, 32, 102, 114, 111, 109, 32, 119, 104, 101, 114, 101, 32, 103, 114, 111, 117, 112, 32, 98, 121, 32, 104, 97, 118, 105, 110, 103, 32, 97, 115, 32, 117, 110, 105, 111, 110, 32, 105, 110, 116, 101, 114, 115, 101, 99, 116, 32, 101, 120, 99, 101, 112, 116, 32, 97, 108, 108, 32, 97, 110, 121, 32, 97, 110, 100, 32, 111, 114, 32, 110, 111, 116, 32, 101, 120, 105, 115, 116, 115, 32, 105, 110, 32, 105, 115, 32, 110, 117, 108, 108, 32, 99, 111, 117, 110, 116, 32, 115, 117, 109, 32, 109, 105, 110, 32, 109, 97, 120, 32]
def digits : Str := [48, 49, 50, 51, 52, 53, 54, 55, 56, 57]
def letters : Str := [97, 98, 99, 100, 101, 102, 103, 104, 105, 106, 107, 108, 109, 110, 111, 112, 113, 114, 115, 116, 117, 118, 119, 120, 121, 122, 65, 66, 67, 68, 69, 70, 71, 72, 73, 74, 75, 76, 77, 78, 79, 80, 81, 82, 83, 84, 85, 86, 87, 88, 89, 90, 95]
theorem reserved_len : reserved.length ≤ 100000 := by rw [show reserved.length = 125 from rfl]; omega
theorem named_len : (letters ++ digits).length ≤ 100000 := by rw [show (letters ++ digits).length = 63 from rfl]; omega
theorem digits_len : digits.length ≤ 100000 := by rw [show digits.length = 10 from rfl]; omega
def isKey (s : Str) : Bool := occ (32 :: (s ++ [32])) reserved
def isName (s : Str) : Bool := !s.isEmpty && (runs letters (s.take 1) == 1) && (runs (letters ++ digits) s == s.length) && !isKey s
theorem app_mk (a b : Str) : (ByteArray.mk a.toArray) ++ (ByteArray.mk b.toArray) = ByteArray.mk (a ++ b).toArray := by
  ext1
  simp [ByteArray.data_append]
/-- what a text in quotes says, and how many bytes it takes, n of them gone; 0: it does not end -/
def quo (acc : Str) (n : Nat) : Str → Str × Nat
  | [] => ([], 0)
  | [c] => if c = 10 then ([], 0) else if c = 39 then (acc, n + 1) else ([], 0)
  | c :: d :: r => if c = 10 then ([], 0) else if c = 39 then (if d = 39 then quo (acc ++ [39]) (n + 2) r else (acc, n + 1)) else quo (acc ++ [c]) (n + 1) (d :: r)
def quoted (s : Str) : Str × Nat := quo [] 1 (s.drop 1)
theorem quo_nil (acc : Str) (n : Nat) : quo acc n [] = ([], 0) := by unfold quo; rfl
theorem quo_nl (acc : Str) (n : Nat) (r : Str) : quo acc n (10 :: r) = ([], 0) := by
  cases r <;> (unfold quo; rfl)
theorem quo_plain (acc : Str) (n : Nat) (c : UInt8) (r : Str) (h : c ≠ 10) (h' : c ≠ 39) : quo acc n (c :: r) = quo (acc ++ [c]) (n + 1) r := by
  cases r with
  | nil => rw [quo_nil]; unfold quo; rw [if_neg h, if_neg h']
  | cons d r => rw [quo]; rw [if_neg h, if_neg h']
theorem quo_two (acc : Str) (n : Nat) (r : Str) : quo acc n (39 :: 39 :: r) = quo (acc ++ [39]) (n + 2) r := by
  rw [quo]; rfl
theorem quo_end (acc : Str) (n : Nat) (r : Str) (h : ∀ r', r ≠ 39 :: r') : quo acc n (39 :: r) = (acc, n + 1) := by
  cases r with
  | nil => unfold quo; rfl
  | cons d r =>
    have : d ≠ 39 := fun e => h r (by rw [e])
    rw [quo]; rw [if_neg (by decide), if_pos rfl, if_neg this]
theorem size_mk (s : Str) : (ByteArray.mk s.toArray).size = s.length := rfl
theorem u8_eq {a b : UInt8} (h : (a.toNat : Int) = (b.toNat : Int)) : a = b := UInt8.toNat_inj.1 (by omega)
theorem bne_t {a : UInt8} {n : Int} (b : UInt8) (h : ((a.toNat : Int) != n) = true) (hb : n = (b.toNat : Int)) : a ≠ b := by
  intro e; subst e; subst hb; simp at h
theorem bne_f {a : UInt8} {n : Int} (b : UInt8) (h : ((a.toNat : Int) != n) = false) (hb : n = (b.toNat : Int)) : a = b := by
  subst hb; exact u8_eq (by simpa using h)
theorem beq_t {a : UInt8} {n : Int} (b : UInt8) (h : ((a.toNat : Int) == n) = true) (hb : n = (b.toNat : Int)) : a = b := by
  subst hb; exact u8_eq (by simpa using h)
theorem beq_f {a : UInt8} {n : Int} (b : UInt8) (h : ((a.toNat : Int) == n) = false) (hb : n = (b.toNat : Int)) : a ≠ b := by
  intro e; subst e; subst hb; simp at h
theorem drop_get (s : Str) (k : Nat) (h : k < s.length) : s.drop k = s[k] :: s.drop (k + 1) := List.drop_eq_getElem_cons h
theorem take_one (s : Str) (k : Nat) (h : k < s.length) : (s.drop k).take 1 = [s[k]] := by rw [drop_get s k h]; rfl
/-- the number that digits say, below 0; none: more than 64 bits hold -/
def negNum (n : Int) : Str → Option Int
  | [] => some n
  | c :: r => if n < (-9223372036854775808 + ((c.toNat : Int) - 48)).tdiv 10 then none else negNum (10 * n - ((c.toNat : Int) - 48)) r
def number (s : Str) (neg : Bool) : Int × Bool :=
  match negNum 0 s with
  | none => (0, false)
  | some n => if neg then (n, true) else (if n = -9223372036854775808 then n else -n, decide (n ≠ -9223372036854775808))
theorem digit_of {c : UInt8} (h : digits.contains c = true) : 48 ≤ c.toNat ∧ c.toNat ≤ 57 := by
  simp [digits] at h
  rcases h with h | h | h | h | h | h | h | h | h | h <;> subst h <;> decide
theorem mem_of_runs {set s : Str} (hd : runs set s = s.length) (k : Nat) (hk : k < s.length) : set.contains s[k] = true := by
  induction s generalizing k with
  | nil => simp at hk
  | cons c s ih =>
    rw [runs_cons] at hd
    by_cases h : set.contains c = true
    · rw [if_pos h] at hd
      cases k with
      | zero => exact h
      | succ k => exact ih (by simp at hd; exact hd) k (by simpa using hk)
    · rw [if_neg h] at hd; simp at hd
theorem digit_at {s : Str} (hd : runs digits s = s.length) (k : Nat) (hk : k < s.length) : 48 ≤ s[k].toNat ∧ s[k].toNat ≤ 57 := digit_of (mem_of_runs hd k hk)
theorem tdiv_lo (d : Int) (h0 : 0 ≤ d) (h9 : d ≤ 9) : (-9223372036854775808 + d).tdiv 10 = -((9223372036854775808 - d) / 10) := by
  have e : (-9223372036854775808 + d) = -(9223372036854775808 - d) := by omega
  rw [e, Int.neg_tdiv, Int.tdiv_eq_ediv_of_nonneg (by omega)]
theorem negNum_cons (n : Int) (c : UInt8) (r : Str) : negNum n (c :: r) = if n < (-9223372036854775808 + ((c.toNat : Int) - 48)).tdiv 10 then none else negNum (10 * n - ((c.toNat : Int) - 48)) r := by
  rw [negNum]
theorem number_none {s : Str} (neg : Bool) (h : negNum 0 s = none) : number s neg = (0, false) := by
  unfold number; rw [h]
theorem number_pos {s : Str} {n : Int} (h : negNum 0 s = some n) : number s false = (if n = -9223372036854775808 then n else -n, decide (n ≠ -9223372036854775808)) := by
  unfold number; rw [h]; rfl
theorem number_neg {s : Str} {n : Int} (h : negNum 0 s = some n) : number s true = (n, true) := by
  unfold number; rw [h]; rfl
theorem neg_wrap (x : Int) (h1 : -9223372036854775808 ≤ x) (h2 : x ≤ 0) : wrap64 (-x) = if x = -9223372036854775808 then x else -x := by
  unfold wrap64; split <;> omega
end Bg
end Go.Proofs.YtfkdfplnhlnnoaaGreatDoor
end
section
namespace Go.Proofs.YtfkdfplnhlnnoaaGreatDoor
open Go.RowKit
theorem ret_bool {a b : Bool} (h : a = b) : Ending.returned (.bool a) = .returned (.bool b) := by rw [h]
theorem ret_int {k : IntKind} {a b : Int} (h : a = b) : Ending.returned (.int k a) = .returned (.int k b) := by rw [h]
theorem ret_two {a a' b b' : Value} (h : a = a') (h' : b = b') : Ending.returned (.tuple #[a, b]) = .returned (.tuple #[a', b']) := by rw [h, h']
theorem vint {k : IntKind} {a b : Int} (h : a = b) : Value.int k a = .int k b := by rw [h]
theorem vbool {a b : Bool} (h : a = b) : Value.bool a = .bool b := by rw [h]
set_option maxHeartbeats 400000 in
theorem ref_in (t s : Bg.Str) (w : World) (hs : s.length ≤ 100000) (ht : t.length ≤ 100000) :
    Calls Tryz.prog 56 #[.string ⟨t.toArray⟩, .string ⟨s.toArray⟩] w fun e w' => e = .returned (.bool (Bg.occ t s)) ∧ w = w' := by
  have hex := Bg.ext_mk
  go_enter Tryz.func56, Tryz.ntmps56
  go_wp2
  go_loop [5] (fun i => ∃ k : Nat, k ≤ s.length + 1 ∧ i = .int .i64 k ∧ Hid (∀ j, j < k → j + t.length ≤ s.length → (s.drop j).take t.length ≠ t)) (fun i => s.length + 1 - (intOf i).toNat)
  case atStart => exact ⟨0, Nat.zero_le _, rfl, by intro j hj; omega⟩
  case round =>
    obtain ⟨k, hk, rfl, hn⟩ := hrel
    by_cases hlt : k + t.length ≤ s.length
    · go_wp2
      · go_ret
        have he : (List.take t.length (List.drop k s) == t) = true := by assumption
        exact ⟨ret_bool (Bg.occ_true k hlt (by simpa using he)).symm, rfl⟩
      · have he : (List.take t.length (List.drop k s) == t) = false := by assumption
        refine ⟨⟨k + 1, by omega, by go_num, ?_⟩, by simp [intOf]; omega⟩
        intro j hj hl
        by_cases hjk : j = k
        · subst hjk; simpa using he
        · exact hn.out j (by omega) hl
    · go_wp2
      go_ret
      refine ⟨ret_bool ?_, rfl⟩
      refine (Bg.occ_false ?_).symm
      intro j hj
      exact hn.out j (by omega) hj
set_option maxHeartbeats 400000 in
theorem ref_run (s set : Bg.Str) (w : World) (hs : s.length ≤ 100000) (ht : set.length ≤ 100000) :
    Calls Tryz.prog 35 #[.string ⟨s.toArray⟩, .string ⟨set.toArray⟩] w fun e w' => e = .returned (.int .i64 (Bg.runs set s)) ∧ w = w' := by
  have hex := Bg.ext_mk
  go_enter Tryz.func35, Tryz.ntmps35
  go_wp2
  go_loop [5] (fun i => ∃ k : Nat, k ≤ s.length ∧ i = .int .i64 k ∧ Hid (∀ j, (h : j < k) → (h' : j < s.length) → set.contains s[j] = true)) (fun i => s.length - (intOf i).toNat)
  case atStart => exact ⟨0, Nat.zero_le _, rfl, by intro j hj; omega⟩
  case round =>
    obtain ⟨k, hk, rfl, hn⟩ := hrel
    by_cases hlt : k < s.length
    · have hone : Hid ((s.drop k).take 1 = [s[k]]) := by rw [List.drop_eq_getElem_cons hlt]; rfl
      go_wp2_with fail
      rw [hone.out]
      refine (ref_in [s[k]] set _ ht (by show (1 : Nat) ≤ 100000; omega)).mono ?_
      rintro e w' ⟨rfl, rfl⟩
      rw [Bg.occ_one]
      cases hc : set.contains s[k]
      · go_wp2
        go_ret
        exact ⟨ret_int (by rw [Bg.runs_stop set s k hlt hn.out hc]), rfl⟩
      · go_wp2
        refine ⟨⟨k + 1, by omega, by go_num, ?_⟩, by simp [intOf]; omega⟩
        intro j hj hl
        by_cases hjk : j = k
        · subst hjk; exact hc
        · exact hn.out j (by omega) hl
    · go_wp2
      go_ret
      exact ⟨ret_int (by rw [Bg.runs_all set s (fun j h => hn.out j (by omega) h)]; omega), rfl⟩
set_option maxRecDepth 10000 in
set_option maxHeartbeats 400000 in
theorem ref_isKey (s : Bg.Str) (w : World) (hs : s.length ≤ 90000) :
    Calls Tryz.prog 55 #[.string ⟨s.toArray⟩] w fun e w' => e = .returned (.bool (Bg.isKey s)) ∧ w = w' := by
  have happ := Bg.app_mk
  go_enter Tryz.func55, Tryz.ntmps55
  go_wp2_with fail
  refine (ref_in (32 :: (s ++ [32])) Bg.reserved _ Bg.reserved_len (by simp only [List.length_append, List.length_cons, List.length_nil]; omega)).mono ?_
  rintro e w' ⟨rfl, rfl⟩
  go_wp2
  go_ret
  exact ⟨rfl, rfl⟩
end Go.Proofs.YtfkdfplnhlnnoaaGreatDoor
end
section
namespace Go.Proofs.YtfkdfplnhlnnoaaGreatDoor
open Go.RowKit
set_option maxHeartbeats 400000 in
theorem ref_quoted (s : Bg.Str) (w : World) (hs : s.length ≤ 90000) :
    Calls Tryz.prog 32 #[.string ⟨s.toArray⟩] w fun e w' => e = .returned (.tuple #[.string ⟨(Bg.quoted s).1.toArray⟩, .int .i64 (Bg.quoted s).2]) ∧ w = w' := by
  have hex := Bg.ext_mk
  have happ := Bg.app_mk
  go_enter Tryz.func32, Tryz.ntmps32
  go_wp2
  go_loop [4, 5] (fun t i => ∃ (k : Nat) (acc : Bg.Str), 1 ≤ k ∧ k ≤ s.length + 1 ∧ acc.length ≤ k ∧ i = .int .i64 k ∧ t = .string ⟨acc.toArray⟩ ∧ Hid (Bg.quo acc k (s.drop k) = Bg.quoted s)) (fun _ i => s.length + 1 - (intOf i).toNat)
  case atStart => exact ⟨1, [], by omega, by omega, by simp, rfl, rfl, rfl⟩
  case round =>
    obtain ⟨k, acc, hk1, hk, hacc, rfl, rfl, hq⟩ := hrel
    by_cases hlt : k < s.length
    · have hsz : k < (ByteArray.mk s.toArray).size := hlt
      have hd := Bg.drop_get s k hlt
      have HD : Hid (s.drop k = s[k] :: s.drop (k + 1)) := hd
      have H1 : Hid ((s.drop k).take 1 = [s[k]]) := Bg.take_one s k hlt
      clear hd
      go_wp2
      · have h1 : (((ByteArray.mk s.toArray)[k].toNat : Int) != 10) = true := by assumption
        have h2 : (((ByteArray.mk s.toArray)[k].toNat : Int) != 39) = true := by assumption
        refine ⟨⟨k + 1, acc ++ [s[k]], by omega, by omega, by simp; omega, by go_num, by rw [H1.out], ?_⟩, by simp [intOf]; omega⟩
        show Bg.quo (acc ++ [s[k]]) (k + 1) (s.drop (k + 1)) = Bg.quoted s
        have n1 : s[k] ≠ 10 := Bg.bne_t 10 h1 rfl
        have n2 : s[k] ≠ 39 := Bg.bne_t 39 h2 rfl
        rw [← hq.out, HD.out, Bg.quo_plain _ _ _ _ n1 n2]
      · have h2 : (((ByteArray.mk s.toArray)[k].toNat : Int) != 39) = false := by assumption
        have hl2 : k + 1 < s.length := by omega
        have h3 : ((((ByteArray.mk s.toArray)[k + 1]'hl2).toNat : Int) == 39) = true := by assumption
        refine ⟨⟨k + 2, acc ++ [39], by omega, by omega, by simp; omega, by go_num, rfl, ?_⟩, by simp [intOf]; omega⟩
        show Bg.quo (acc ++ [39]) (k + 2) (s.drop (k + 2)) = Bg.quoted s
        have e1 : s[k] = 39 := Bg.bne_f 39 h2 rfl
        have e2 : s[k + 1] = 39 := Bg.beq_t 39 h3 rfl
        rw [← hq.out, HD.out, Bg.drop_get s (k + 1) hl2, e1, e2, Bg.quo_two]
      · have h2 : (((ByteArray.mk s.toArray)[k].toNat : Int) != 39) = false := by assumption
        have hl2 : k + 1 < s.length := by omega
        have h3 : ((((ByteArray.mk s.toArray)[k + 1]'hl2).toNat : Int) == 39) = false := by assumption
        go_ret2
        have e1 : s[k] = 39 := Bg.bne_f 39 h2 rfl
        have e2 : s[k + 1] ≠ 39 := Bg.beq_f 39 h3 rfl
        have hr : Bg.quoted s = (acc, k + 1) := by
          rw [← hq.out, HD.out, e1, Bg.quo_end _ _ _ (fun r' e => e2 (by rw [Bg.drop_get s (k + 1) hl2] at e; exact (List.cons.inj e).1))]
        exact ⟨by rw [hr]; rfl, rfl⟩
      · have h2 : (((ByteArray.mk s.toArray)[k].toNat : Int) != 39) = false := by assumption
        go_ret2
        have e1 : s[k] = 39 := Bg.bne_f 39 h2 rfl
        have hr : Bg.quoted s = (acc, k + 1) := by
          rw [← hq.out, HD.out, e1, Bg.quo_end _ _ _ (fun r' e => by rw [List.drop_eq_nil_of_le (by omega)] at e; cases e)]
        exact ⟨by rw [hr]; rfl, rfl⟩
      · have h1 : (((ByteArray.mk s.toArray)[k].toNat : Int) != 10) = false := by assumption
        go_ret2
        have hr : Bg.quoted s = ([], 0) := by
          have e1 : s[k] = 10 := Bg.bne_f 10 h1 rfl
          rw [← hq.out, HD.out, e1, Bg.quo_nl]
        exact ⟨by rw [hr]; rfl, rfl⟩
    · go_wp2
      go_ret2
      have hr : Bg.quoted s = ([], 0) := by
        rw [← hq.out, List.drop_eq_nil_of_le (by omega), Bg.quo_nil]
      exact ⟨by rw [hr]; rfl, rfl⟩
set_option maxHeartbeats 400000 in
theorem ref_number (s : Bg.Str) (neg : Bool) (w : World) (hs : s.length ≤ 90000) (hd : Bg.runs Bg.digits s = s.length) :
    Calls Tryz.prog 36 #[.string ⟨s.toArray⟩, .bool neg] w fun e w' => e = .returned (.tuple #[.int .i64 (Bg.number s neg).1, .bool (Bg.number s neg).2]) ∧ w = w' := by
  have hex := Bg.ext_mk
  go_enter Tryz.func36, Tryz.ntmps36
  go_wp2
  go_loop [6, 7, 8] (fun n i _ => ∃ (k : Nat) (x : Int), k ≤ s.length ∧ -9223372036854775808 ≤ x ∧ x ≤ 0 ∧ i = .int .i64 k ∧ n = .int .i64 x ∧ Hid (Bg.negNum x (s.drop k) = Bg.negNum 0 s)) (fun _ i _ => s.length - (intOf i).toNat)
  case atStart => exact ⟨0, 0, by omega, by omega, by omega, rfl, rfl, rfl⟩
  case round =>
    obtain ⟨k, x, hk, hx1, hx2, rfl, rfl, hq⟩ := hrel
    by_cases hlt : k < s.length
    · have hb := Bg.digit_at hd k hlt
      obtain ⟨hb1, hb2⟩ := hb
      have hb3 : 48 ≤ ((ByteArray.mk s.toArray)[k]'hlt).toNat := hb1
      have hb4 : ((ByteArray.mk s.toArray)[k]'hlt).toNat ≤ 57 := hb2
      clear hb1 hb2
      have HD : Hid (s.drop k = s[k] :: s.drop (k + 1)) := Bg.drop_get s k hlt
      have HT : Hid ((-9223372036854775808 + ((((ByteArray.mk s.toArray)[k]'hlt).toNat : Int) - 48)).tdiv 10 = -((9223372036854775808 - ((((ByteArray.mk s.toArray)[k]'hlt).toNat : Int) - 48)) / 10)) := Bg.tdiv_lo _ (by omega) (by omega)
      go_wp2
      · have h1 : x < (-9223372036854775808 + ((((ByteArray.mk s.toArray)[k]'hlt).toNat : Int) - 48)).tdiv 10 := by assumption
        go_ret2
        have hr := Bg.number_none (s := s) neg (by rw [← hq.out, HD.out, Bg.negNum_cons]; exact if_pos h1)
        exact ⟨by rw [hr]; rfl, rfl⟩
      · have h1 : (-9223372036854775808 + ((((ByteArray.mk s.toArray)[k]'hlt).toNat : Int) - 48)).tdiv 10 ≤ x := by assumption
        rw [HT.out] at h1
        have w1 : wrap64 (10 * x) = 10 * x := IntWalk.wrap64_in _ ⟨by omega, by omega⟩
        have w2 : wrap64 (10 * x - ((((ByteArray.mk s.toArray)[k]'hlt).toNat : Int) - 48)) = 10 * x - ((((ByteArray.mk s.toArray)[k]'hlt).toNat : Int) - 48) := IntWalk.wrap64_in _ ⟨by omega, by omega⟩
        refine ⟨⟨k + 1, 10 * x - ((((ByteArray.mk s.toArray)[k]'hlt).toNat : Int) - 48), by omega, by omega, by omega, by go_num, by rw [w1, w2], ?_⟩, by simp [intOf]; omega⟩
        show Bg.negNum (10 * x - ((s[k].toNat : Int) - 48)) (s.drop (k + 1)) = Bg.negNum 0 s
        have h1' : ¬ x < (-9223372036854775808 + ((s[k].toNat : Int) - 48)).tdiv 10 := by
          show ¬ x < (-9223372036854775808 + ((((ByteArray.mk s.toArray)[k]'hlt).toNat : Int) - 48)).tdiv 10
          rw [HT.out]; omega
        rw [← hq.out, HD.out, Bg.negNum_cons, if_neg h1']
    · have hs0 : Hid (Bg.negNum 0 s = some x) := by
        show Bg.negNum 0 s = some x
        rw [← hq.out, List.drop_eq_nil_of_le (by omega)]; rfl
      cases neg
      · go_wp2
        go_ret2
        have hr := Bg.number_pos hs0.out
        refine ⟨ret_two (vint ?_) (vbool ?_), rfl⟩
        · rw [hr]; exact Bg.neg_wrap x hx1 hx2
        · rw [hr]
          by_cases h0 : x = -9223372036854775808
          · rw [h0]; rfl
          · simp [h0]
      · go_wp2
        go_ret2
        have hr := Bg.number_neg hs0.out
        exact ⟨by rw [hr]; rfl, rfl⟩
end Go.Proofs.YtfkdfplnhlnnoaaGreatDoor
end
section
namespace Go.Proofs.YtfkdfplnhlnnoaaGreatDoor
open Go.RowKit
namespace Bg
/-- the lines of a text, cur of the first one being gone -/
def linesFrom (cur : Str) : Str → List Str
  | [] => [cur]
  | c :: r => if c = 10 then cur :: linesFrom [] r else linesFrom (cur ++ [c]) r
def lines (s : Str) : List Str := linesFrom [] s
theorem quo_leN (m : Nat) : ∀ (l : Str), l.length ≤ m → ∀ acc n, (quo acc n l).2 ≤ n + l.length := by
  induction m with
  | zero =>
    intro l hl acc n
    obtain rfl : l = [] := by cases l <;> simp_all
    rw [quo_nil]; simp
  | succ m ih =>
    intro l hl acc n
    cases l with
    | nil => rw [quo_nil]; simp
    | cons c r =>
      simp only [List.length_cons] at hl ⊢
      by_cases h1 : c = 10
      · subst h1; rw [quo_nl]; simp
      · by_cases h2 : c = 39
        · subst h2
          by_cases h3 : ∃ r', r = 39 :: r'
          · obtain ⟨r', rfl⟩ := h3
            rw [quo_two]
            simp only [List.length_cons] at hl ⊢
            have := ih r' (by omega) (acc ++ [39]) (n + 2)
            omega
          · rw [quo_end _ _ _ (fun r' e => h3 ⟨r', e⟩)]; simp <;> omega
        · rw [quo_plain _ _ _ _ h1 h2]
          have := ih r (by omega) (acc ++ [c]) (n + 1)
          omega
theorem quoted_le (c : UInt8) (r : Str) : (quoted (c :: r)).2 ≤ (c :: r).length := by
  have := quo_leN r.length r (Nat.le_refl _) [] 1
  unfold quoted
  simp only [List.drop_succ_cons, List.drop_zero, List.length_cons]
  omega
end Bg
end Go.Proofs.YtfkdfplnhlnnoaaGreatDoor
end
