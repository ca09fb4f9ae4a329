import Derived.Test.YtfkdfplnhlnnoaaGreatDoorBgJa00
import Derived.Test.YtfkdfplnhlnnoaaGreatDoorBgShelf
section
namespace Go.Proofs.YtfkdfplnhlnnoaaGreatDoor
open Go.RowKit
set_option linter.unusedSimpArgs false
set_option linter.unusedVariables false
namespace Bg
def dig (c : UInt8) : Bool := digits.contains c
def nam (c : UInt8) : Bool := (letters ++ digits).contains c
def inl (c : UInt8) : Bool := c != 10
theorem all_u8 {p : UInt8 → Bool} (h : (List.range 256).all (fun n => p (UInt8.ofNat n)) = true) (c : UInt8) : p c = true := by
  have h1 := List.all_eq_true.1 h c.toNat (by simp; exact c.toNat_lt)
  rwa [UInt8.ofNat_toNat] at h1
theorem dig_iff (c : UInt8) : dig c = decide (48 ≤ (c.toNat : Int) ∧ (c.toNat : Int) ≤ 57) := by
  have := all_u8 (p := fun c => dig c == decide (48 ≤ (c.toNat : Int) ∧ (c.toNat : Int) ≤ 57)) (by decide +kernel) c
  simpa using this
theorem nam_iff (c : UInt8) : nam c = decide ((48 ≤ (c.toNat : Int) ∧ (c.toNat : Int) ≤ 57) ∨ (97 ≤ (c.toNat : Int) ∧ (c.toNat : Int) ≤ 122) ∨ (65 ≤ (c.toNat : Int) ∧ (c.toNat : Int) ≤ 90) ∨ (c.toNat : Int) = 95) := by
  have := all_u8 (p := fun c => nam c == decide ((48 ≤ (c.toNat : Int) ∧ (c.toNat : Int) ≤ 57) ∨ (97 ≤ (c.toNat : Int) ∧ (c.toNat : Int) ≤ 122) ∨ (65 ≤ (c.toNat : Int) ∧ (c.toNat : Int) ≤ 90) ∨ (c.toNat : Int) = 95)) (by decide +kernel) c
  simpa using this
theorem inl_iff (c : UInt8) : inl c = ((c.toNat : Int) != 10) := by
  have := all_u8 (p := fun c => inl c == ((c.toNat : Int) != 10)) (by decide +kernel) c
  simpa using this
theorem takeWhile_all (p : UInt8 → Bool) : ∀ (s : Str), (∀ j, (h : j < s.length) → p s[j] = true) → (s.takeWhile p).length = s.length
  | [], _ => rfl
  | c :: s, h => by
    have h0 := h 0 (by simp)
    simp only [List.getElem_cons_zero] at h0
    rw [List.takeWhile_cons, h0, if_pos rfl, List.length_cons, takeWhile_all p s (fun j hj => by have := h (j + 1) (by simp; omega); simpa using this), List.length_cons]
theorem takeWhile_stop (p : UInt8 → Bool) : ∀ (s : Str) (k : Nat) (hk : k < s.length), (∀ j, j < k → (h' : j < s.length) → p s[j] = true) → p s[k] = false → (s.takeWhile p).length = k
  | c :: s, 0, _, _, h0 => by
    simp only [List.getElem_cons_zero] at h0
    rw [List.takeWhile_cons, h0]; rfl
  | c :: s, k + 1, hk, h, h0 => by
    have h1 := h 0 (by omega) (by simp)
    simp only [List.getElem_cons_zero] at h1
    simp only [List.getElem_cons_succ] at h0
    rw [List.takeWhile_cons, h1, if_pos rfl, List.length_cons, takeWhile_stop p s k (by simpa using hk) (fun j hj hl => by have := h (j + 1) (by omega) (by simp; omega); simpa using this) h0]
end Bg
set_option maxHeartbeats 400000 in
theorem w_isDigit (c : UInt8) (w : World) :
    Calls Tryz.prog 106 #[.int .u8 c.toNat] w fun e w' => e = .returned (.bool (Bg.dig c)) ∧ w = w' := by
  have H : Hid _ := Bg.dig_iff c
  go_enter Tryz.func106, Tryz.ntmps106
  go_wp2
  all_goals
    go_ret
    refine ⟨ret_bool ?_, rfl⟩
    rw [H.out]
    rw [Bool.eq_iff_iff]
    simp only [decide_eq_true_eq, Bool.or_eq_true, Bool.and_eq_true, beq_iff_eq, iff_true, true_iff, Bool.false_eq_true, iff_false, false_iff]
    omega
set_option maxHeartbeats 400000 in
theorem w_inLine (c : UInt8) (w : World) :
    Calls Tryz.prog 105 #[.int .u8 c.toNat] w fun e w' => e = .returned (.bool (Bg.inl c)) ∧ w = w' := by
  go_enter Tryz.func105, Tryz.ntmps105
  go_wp2
  go_ret
  exact ⟨ret_bool (Bg.inl_iff c).symm, rfl⟩
set_option maxHeartbeats 400000 in
theorem w_isNamed (c : UInt8) (w : World) :
    Calls Tryz.prog 108 #[.int .u8 c.toNat] w fun e w' => e = .returned (.bool (Bg.nam c)) ∧ w = w' := by
  have H : Hid _ := Bg.nam_iff c
  have H2 : Hid _ := Bg.dig_iff c
  go_enter Tryz.func108, Tryz.ntmps108
  go_wp2_with fail
  refine (w_isDigit c _).mono ?_
  rintro e w' ⟨rfl, rfl⟩
  cases hd : Bg.dig c
  all_goals
    have HD : Hid _ := hd
    clear hd
    go_wp2
  all_goals
    go_ret
    refine ⟨ret_bool ?_, rfl⟩
    have hd := HD.out
    rw [H2.out] at hd
    rw [H.out]
    first | (rw [decide_eq_false_iff_not] at hd) | (rw [decide_eq_true_eq] at hd)
    rw [Bool.eq_iff_iff]
    simp only [decide_eq_true_eq, Bool.or_eq_true, Bool.and_eq_true, beq_iff_eq, iff_true, true_iff, Bool.false_eq_true, iff_false, false_iff]
    omega
set_option maxRecDepth 100000 in
set_option maxHeartbeats 400000 in
theorem w_run_dig (s : Bg.Str) (w : World) (hs : s.length ≤ 90000) :
    Calls Tryz.prog 104 #[.string ⟨s.toArray⟩, .func (.func 106) #[] #[]] w fun e w' => e = .returned (.int .i64 (s.takeWhile Bg.dig).length) ∧ w = w' := by
  go_enter Tryz.func104, Tryz.ntmps104
  go_wp2
  go_loop [5] (fun n => ∃ k : Nat, k ≤ s.length ∧ n = .int .i64 k ∧ Hid (∀ j, j < k → (h : j < s.length) → Bg.dig s[j] = true)) (fun n => s.length - (intOf n).toNat)
  case atStart => exact ⟨0, Nat.zero_le _, rfl, by intro j hj; omega⟩
  case round =>
    obtain ⟨k, hk, rfl, hn⟩ := hrel
    by_cases hlt : k < s.length
    · have hsz : k < (ByteArray.mk s.toArray).size := hlt
      go_wp2_with fail
      refine (w_isDigit ((ByteArray.mk s.toArray)[k]'hsz) _).mono ?_
      rintro e w' ⟨rfl, rfl⟩
      cases hc : Bg.dig ((ByteArray.mk s.toArray)[k]'hsz)
      · go_wp2
        go_ret
        exact ⟨ret_int (by rw [Bg.takeWhile_stop Bg.dig s k hlt hn.out hc]), rfl⟩
      · go_wp2
        refine ⟨⟨k + 1, by omega, by go_num, ?_⟩, by simp [intOf] <;> omega⟩
        intro j hj hl
        by_cases hjk : j = k
        · subst hjk; exact hc
        · exact hn.out j (by omega) hl
    · go_wp2
      go_ret
      exact ⟨ret_int (by rw [Bg.takeWhile_all Bg.dig s (fun j h => hn.out j (by omega) h)]; omega), rfl⟩
set_option maxRecDepth 100000 in
set_option maxHeartbeats 400000 in
theorem w_run_nam (s : Bg.Str) (w : World) (hs : s.length ≤ 90000) :
    Calls Tryz.prog 104 #[.string ⟨s.toArray⟩, .func (.func 108) #[] #[]] w fun e w' => e = .returned (.int .i64 (s.takeWhile Bg.nam).length) ∧ w = w' := by
  go_enter Tryz.func104, Tryz.ntmps104
  go_wp2
  go_loop [5] (fun n => ∃ k : Nat, k ≤ s.length ∧ n = .int .i64 k ∧ Hid (∀ j, j < k → (h : j < s.length) → Bg.nam s[j] = true)) (fun n => s.length - (intOf n).toNat)
  case atStart => exact ⟨0, Nat.zero_le _, rfl, by intro j hj; omega⟩
  case round =>
    obtain ⟨k, hk, rfl, hn⟩ := hrel
    by_cases hlt : k < s.length
    · have hsz : k < (ByteArray.mk s.toArray).size := hlt
      go_wp2_with fail
      refine (w_isNamed ((ByteArray.mk s.toArray)[k]'hsz) _).mono ?_
      rintro e w' ⟨rfl, rfl⟩
      cases hc : Bg.nam ((ByteArray.mk s.toArray)[k]'hsz)
      · go_wp2
        go_ret
        exact ⟨ret_int (by rw [Bg.takeWhile_stop Bg.nam s k hlt hn.out hc]), rfl⟩
      · go_wp2
        refine ⟨⟨k + 1, by omega, by go_num, ?_⟩, by simp [intOf] <;> omega⟩
        intro j hj hl
        by_cases hjk : j = k
        · subst hjk; exact hc
        · exact hn.out j (by omega) hl
    · go_wp2
      go_ret
      exact ⟨ret_int (by rw [Bg.takeWhile_all Bg.nam s (fun j h => hn.out j (by omega) h)]; omega), rfl⟩
set_option maxRecDepth 100000 in
set_option maxHeartbeats 400000 in
theorem w_run_inl (s : Bg.Str) (w : World) (hs : s.length ≤ 90000) :
    Calls Tryz.prog 104 #[.string ⟨s.toArray⟩, .func (.func 105) #[] #[]] w fun e w' => e = .returned (.int .i64 (s.takeWhile Bg.inl).length) ∧ w = w' := by
  go_enter Tryz.func104, Tryz.ntmps104
  go_wp2
  go_loop [5] (fun n => ∃ k : Nat, k ≤ s.length ∧ n = .int .i64 k ∧ Hid (∀ j, j < k → (h : j < s.length) → Bg.inl s[j] = true)) (fun n => s.length - (intOf n).toNat)
  case atStart => exact ⟨0, Nat.zero_le _, rfl, by intro j hj; omega⟩
  case round =>
    obtain ⟨k, hk, rfl, hn⟩ := hrel
    by_cases hlt : k < s.length
    · have hsz : k < (ByteArray.mk s.toArray).size := hlt
      go_wp2_with fail
      refine (w_inLine ((ByteArray.mk s.toArray)[k]'hsz) _).mono ?_
      rintro e w' ⟨rfl, rfl⟩
      cases hc : Bg.inl ((ByteArray.mk s.toArray)[k]'hsz)
      · go_wp2
        go_ret
        exact ⟨ret_int (by rw [Bg.takeWhile_stop Bg.inl s k hlt hn.out hc]), rfl⟩
      · go_wp2
        refine ⟨⟨k + 1, by omega, by go_num, ?_⟩, by simp [intOf] <;> omega⟩
        intro j hj hl
        by_cases hjk : j = k
        · subst hjk; exact hc
        · exact hn.out j (by omega) hl
    · go_wp2
      go_ret
      exact ⟨ret_int (by rw [Bg.takeWhile_all Bg.inl s (fun j h => hn.out j (by omega) h)]; omega), rfl⟩
theorem Bg.takeWhile_dig (s : Bg.Str) : (s.takeWhile Bg.dig).length = Bg.runs Bg.digits s := rfl
theorem Bg.takeWhile_nam (s : Bg.Str) : (s.takeWhile Bg.nam).length = Bg.runs (Bg.letters ++ Bg.digits) s := rfl
set_option maxHeartbeats 400000 in
theorem w_Digits (s : Bg.Str) (w : World) (hs : s.length ≤ 90000) :
    Calls Tryz.prog 134 #[.string ⟨s.toArray⟩] w fun e w' => e = .returned (.int .i64 (Bg.runs Bg.digits s)) ∧ w = w' := by
  go_enter Tryz.func134, Tryz.ntmps134
  go_wp2_with fail
  refine (w_run_dig s _ hs).mono ?_
  rintro e w' ⟨rfl, rfl⟩
  rw [Bg.takeWhile_dig]
  go_wp2
  go_ret
  exact ⟨rfl, rfl⟩
set_option maxHeartbeats 400000 in
theorem w_NameBytes (s : Bg.Str) (w : World) (hs : s.length ≤ 90000) :
    Calls Tryz.prog 130 #[.string ⟨s.toArray⟩] w fun e w' => e = .returned (.int .i64 (if 0 < Bg.runs Bg.digits s then 0 else Bg.runs (Bg.letters ++ Bg.digits) s : Nat)) ∧ w = w' := by
  by_cases h : 0 < Bg.runs Bg.digits s
  · rw [if_pos h]
    go_enter Tryz.func130, Tryz.ntmps130
    go_wp2_with fail
    refine (w_Digits s _ hs).mono ?_
    rintro e w' ⟨rfl, rfl⟩
    go_wp2
    go_ret
    exact ⟨rfl, rfl⟩
  · rw [if_neg h]
    go_enter Tryz.func130, Tryz.ntmps130
    go_wp2_with fail
    refine (w_Digits s _ hs).mono ?_
    rintro e w' ⟨rfl, rfl⟩
    go_wp2_with fail
    refine (w_run_nam s _ hs).mono ?_
    rintro e w' ⟨rfl, rfl⟩
    rw [Bg.takeWhile_nam]
    go_wp2
    go_ret
    exact ⟨rfl, rfl⟩
end Go.Proofs.YtfkdfplnhlnnoaaGreatDoor
end
section
namespace Go.Proofs.YtfkdfplnhlnnoaaGreatDoor
open Go.RowKit
def strV (l : Bg.Str) : Value := .string ⟨l.toArray⟩
theorem Tryz.infoStr : (Tryz.prog.info? 9).map (fun i => (i.zero, i.size, i.bytes)) = some (some (.string ⟨#[]⟩), 1, 16) := by kernel_rfl
theorem below_append {n : Nat} {w0 wr w1 : World} {o : Obj} {e : TypeId} {sz m : Nat} {v : Value} {xs : List Value} (hB : Below n w0 wr) (hn : n ≤ wr.heap.size) (hown : wr.ownsRow n e sz v m xs) (hg : (wr.alloc o).grownBy w1 v.ownBlock) : Below n w0 w1 :=
  (hB.alloc hn o).grown hg (by simp; omega) (fun k e => (hown.lt k e).1)
end Go.Proofs.YtfkdfplnhlnnoaaGreatDoor
end
section
namespace Go.Proofs.YtfkdfplnhlnnoaaGreatDoor
open Go.RowKit
theorem Tryz.infoByte : (Tryz.prog.info? 5).map (fun i => (i.zero, i.size, i.bytes)) = some (some (.int .u8 0), 1, 1) := by kernel_rfl
def byteV (c : UInt8) : Value := .int .u8 c.toNat
/-- 'string(b)', b a row of the call's own. -/
theorem own_string {wr : World} {base : Nat} {v : Value} {l : Bg.Str} (h : wr.ownsRow base 5 1 v l.length (l.map byteV)) :
    (convert 182 9 v).run Tryz.prog wr = .ok (.string ⟨l.toArray⟩) wr := by
  rcases h.2 with ⟨rfl, h0⟩ | ⟨g, cap, cur, rfl, _⟩
  · obtain rfl : l = [] := List.length_eq_zero_iff.1 h0
    rw [run_convert_bytes_string wr 182 9 5 none 0 0 Tryz.underlying182 Tryz.underlying5 Tryz.underlying9]
    simp [Conv.bytesToString]
    rfl
  · refine run_convert_bytes_back wr 182 9 5 ⟨g, 0, none⟩ cap l Tryz.underlying182 Tryz.underlying5 Tryz.underlying9 fun j hj => ?_
    exact h.cells (g := g) rfl j _ (by simp [List.getElem?_eq_getElem hj, byteV])
set_option maxRecDepth 100000 in
set_option maxHeartbeats 1000000 in
theorem w_Quoted (s : Bg.Str) (w : World) (hs : s.length ≤ 90000) :
    Calls Tryz.prog 110 #[.string ⟨s.toArray⟩] w fun e w' => e = .returned (.tuple #[.string ⟨(Bg.quoted s).1.toArray⟩, .int .i64 (Bg.quoted s).2]) ∧ Below w.heap.size w w' := by
  have hex := Bg.ext_mk
  obtain ⟨i0, hi, hz0, hz1, hz2⟩ := info_parts Tryz.infoByte
  go_enter Tryz.func110, Tryz.ntmps110
  go_wp2
  go_loopw [4, 5] (fun v i wr => ∃ (k : Nat) (acc : Bg.Str), 1 ≤ k ∧ k ≤ s.length + 1 ∧ acc.length ≤ k ∧ i = .int .i64 k ∧ wr.ownsRow w.heap.size 5 1 v acc.length (acc.map byteV) ∧ Below w.heap.size w wr ∧ Hid (Bg.quo acc k (s.drop k) = Bg.quoted s)) (fun _ i _ => s.length + 1 - (intOf i).toNat)
  case atStart => exact ⟨1, [], by omega, by omega, by simp, rfl, World.ownsRow_nil _ _ _ _, Below.refl _ _, rfl⟩
  case round =>
    obtain ⟨k, acc, hk1, hk, hacc, rfl, hown, hB, hq⟩ := hrel
    by_cases hlt : k < s.length
    · have hsz : k < (ByteArray.mk s.toArray).size := hlt
      have HD : Hid (s.drop k = s[k] :: s.drop (k + 1)) := Bg.drop_get s k hlt
      go_wp2_with fail
      refine (w_inLine ((ByteArray.mk s.toArray)[k]'hsz) _).mono ?_
      rintro e w' ⟨rfl, rfl⟩
      cases hc : Bg.inl ((ByteArray.mk s.toArray)[k]'hsz)
      · go_wp2
        go_ret2
        have hc' : Bg.inl s[k] = false := hc
        have e1 : s[k] = 10 := by simpa [Bg.inl] using hc'
        have hr : Bg.quoted s = ([], 0) := by rw [← hq.out, HD.out, e1, Bg.quo_nl]
        exact ⟨by rw [hr]; rfl, hB⟩
      · have hc' : Bg.inl s[k] = true := hc
        have n1 : s[k] ≠ 10 := by simpa [Bg.inl] using hc'
        clear hc'
        have HN : Hid (s[k] ≠ 10) := n1
        clear n1
        go_wp2_with (at_builtin; refine wpList_append_own _ rfl _ _ 182 rfl w.heap.size 5 i0 (.int .u8 0) 1 1 Tryz.underlying182 hi hz0 hz1 hz2 rfl (by decide) _ _ _ rfl (hown.alloc _) ⟨wr.heap.size, 0, none⟩ 1 1 [byteV ((ByteArray.mk s.toArray)[k]'hsz)] rfl rfl (cell_one_new _ _ _) (by simp [Value.oneCell', byteV]) (by unfold maxLen; omega) (by omega) (by have := hB.size; simp; omega) ?_; intro v' w1 hown' hgrow _)
        · have h2 : (((ByteArray.mk s.toArray)[k].toNat : Int) == 39) = true := by assumption
          have e39 : s[k] = 39 := Bg.beq_t 39 h2 rfl
          rw [List.take_of_length_le (by simp)]
          refine (Tryz.strings_HasPrefix _ _ _).mono ?_
          rintro e w' ⟨rfl, hw⟩
          obtain rfl := hw.symm
          have hpx : Lib.hasPrefix (s.drop k) [39, 39] = ((s.drop (k + 1)).head? == some 39) := by
            rw [HD.out, e39]
            cases s.drop (k + 1) with
            | nil => rfl
            | cons d r => simp [Lib.hasPrefix, List.isPrefixOf, Bool.beq_comm (a := d)]
          rw [show (ByteArray.mk (s.drop k).toArray).data.toList = s.drop k from rfl, show (ByteArray.mk #[39, 39]).data.toList = [39, 39] from rfl, hpx]
          cases hr' : ((s.drop (k + 1)).head? == some 39)
          rotate_left
          · have hr2 : ∃ r', s.drop (k + 1) = 39 :: r' := by
              cases hd : s.drop (k + 1) with
              | nil => rw [hd] at hr'; cases hr'
              | cons d r => rw [hd] at hr'; simp at hr'; exact ⟨r, by rw [hr']⟩
            clear hr' hpx
            obtain ⟨r', hr3⟩ := hr2
            have HR : Hid (s.drop (k + 1) = 39 :: r') := hr3
            have hl2 : k + 1 < s.length := by
              have := congrArg List.length hr3
              simp at this; omega
            clear hr3
            have hsz2 : k + 1 < (ByteArray.mk s.toArray).size := hl2
            go_wp2_with (at_builtin; refine wpList_append_own _ rfl _ _ 182 rfl w.heap.size 5 i0 (.int .u8 0) 1 1 Tryz.underlying182 hi hz0 hz1 hz2 rfl (by decide) _ _ _ rfl (hown.alloc _) ⟨wr.heap.size, 0, none⟩ 1 1 [byteV ((ByteArray.mk s.toArray)[k + 1]'hsz2)] rfl rfl (cell_one_new _ _ _) (by simp [Value.oneCell', byteV]) (by unfold maxLen; omega) (by omega) (by have := hB.size; simp; omega) ?_; intro v' w1 hown' hgrow _)
            have hown2 : w1.ownsRow w.heap.size 5 1 v' (acc.length + 1) (acc.map byteV ++ [byteV s[k + 1]]) := hown'
            have e2 : s[k + 1] = 39 := by
              have := HR.out
              rw [Bg.drop_get s (k + 1) hl2] at this
              exact (List.cons.inj this).1
            rw [e2] at hown2
            refine ⟨⟨k + 2, acc ++ [39], by omega, by omega, by simp; omega, by go_num, by simpa using hown2, below_append hB hB.size hown hgrow, ?_⟩, by simp [intOf] <;> omega⟩
            show Bg.quo (acc ++ [39]) (k + 2) (s.drop (k + 2)) = Bg.quoted s
            rw [← hq.out, HD.out, Bg.drop_get s (k + 1) hl2, e39, e2, Bg.quo_two]
          · have hconv := own_string hown
            clear hpx
            have HR : Hid (Bg.quoted s = (acc, k + 1)) := by
              show Bg.quoted s = (acc, k + 1)
              rw [← hq.out, HD.out, e39, Bg.quo_end _ _ _ (fun r' e => by rw [e] at hr'; cases hr')]
            clear hr'
            go_wp2
            go_ret2
            exact ⟨by rw [HR.out]; rfl, hB⟩
        · have h2 : (((ByteArray.mk s.toArray)[k].toNat : Int) == 39) = false := by assumption
          have n39 : s[k] ≠ 39 := Bg.beq_f 39 h2 rfl
          have hown2 : w1.ownsRow w.heap.size 5 1 v' (acc.length + 1) (acc.map byteV ++ [byteV s[k]]) := hown'
          refine ⟨⟨k + 1, acc ++ [s[k]], by omega, by omega, by simp; omega, by go_num, by simpa using hown2, below_append hB hB.size hown hgrow, ?_⟩, by simp [intOf] <;> omega⟩
          show Bg.quo (acc ++ [s[k]]) (k + 1) (s.drop (k + 1)) = Bg.quoted s
          rw [← hq.out, HD.out, Bg.quo_plain _ _ _ _ HN.out n39]
    · go_wp2
      go_ret2
      have hr : Bg.quoted s = ([], 0) := by
        rw [← hq.out, List.drop_eq_nil_of_le (by omega), Bg.quo_nil]
      exact ⟨by rw [hr]; rfl, hB⟩
end Go.Proofs.YtfkdfplnhlnnoaaGreatDoor
end
