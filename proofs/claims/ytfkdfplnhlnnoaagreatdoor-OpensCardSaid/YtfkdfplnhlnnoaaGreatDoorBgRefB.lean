/- The document's answer (package bagsref): quoted, number. -/
import Derived.Test.YtfkdfplnhlnnoaaGreatDoorBgRefA
namespace Go.Proofs.YtfkdfplnhlnnoaaGreatDoor
open Go.RowKit

set_option maxHeartbeats 400000 in
theorem ref_quoted (s : Bg.Str) (w : World) (hs : s.length ≤ 90000) :
    Calls Tryz.prog 32 #[.string ⟨s.toArray⟩] w fun e w' => e = .returned (.tuple #[.string ⟨(Bg.quoted s).1.toArray⟩, .int .i64 (Bg.quoted s).2]) ∧ w = w' := by
  have hex := Bg.ext_mk
  have happ := Bg.app_mk
  go_enter Tryz.func32, Tryz.ntmps32
  go_wp2
  go_loop [4, 5] (fun t i => ∃ (k : Nat) (acc : Bg.Str), 1 ≤ k ∧ k ≤ s.length + 1 ∧ acc.length ≤ k ∧ i = .int .i64 k ∧ t = .string ⟨acc.toArray⟩ ∧ Hid (Bg.quo acc k (s.drop k) = Bg.quoted s)) (fun _ i => s.length + 1 - (intOf i).toNat)
  case atStart => exact ⟨1, [], by omega, by omega, by simp, rfl, rfl, rfl⟩
  case round =>
    obtain ⟨k, acc, hk1, hk, hacc, rfl, rfl, hq⟩ := hrel
    by_cases hlt : k < s.length
    · have hsz : k < (ByteArray.mk s.toArray).size := hlt
      have hd := Bg.drop_get s k hlt
      have HD : Hid (s.drop k = s[k] :: s.drop (k + 1)) := hd
      have H1 : Hid ((s.drop k).take 1 = [s[k]]) := Bg.take_one s k hlt
      clear hd
      go_wp2
      · have h1 : (((ByteArray.mk s.toArray)[k].toNat : Int) != 10) = true := by assumption
        have h2 : (((ByteArray.mk s.toArray)[k].toNat : Int) != 39) = true := by assumption
        refine ⟨⟨k + 1, acc ++ [s[k]], by omega, by omega, by simp; omega, by go_num, by rw [H1.out], ?_⟩, by simp [intOf]; omega⟩
        show Bg.quo (acc ++ [s[k]]) (k + 1) (s.drop (k + 1)) = Bg.quoted s
        have n1 : s[k] ≠ 10 := Bg.bne_t 10 h1 rfl
        have n2 : s[k] ≠ 39 := Bg.bne_t 39 h2 rfl
        rw [← hq.out, HD.out, Bg.quo_plain _ _ _ _ n1 n2]
      · have h2 : (((ByteArray.mk s.toArray)[k].toNat : Int) != 39) = false := by assumption
        have hl2 : k + 1 < s.length := by omega
        have h3 : ((((ByteArray.mk s.toArray)[k + 1]'hl2).toNat : Int) == 39) = true := by assumption
        refine ⟨⟨k + 2, acc ++ [39], by omega, by omega, by simp; omega, by go_num, rfl, ?_⟩, by simp [intOf]; omega⟩
        show Bg.quo (acc ++ [39]) (k + 2) (s.drop (k + 2)) = Bg.quoted s
        have e1 : s[k] = 39 := Bg.bne_f 39 h2 rfl
        have e2 : s[k + 1] = 39 := Bg.beq_t 39 h3 rfl
        rw [← hq.out, HD.out, Bg.drop_get s (k + 1) hl2, e1, e2, Bg.quo_two]
      · have h2 : (((ByteArray.mk s.toArray)[k].toNat : Int) != 39) = false := by assumption
        have hl2 : k + 1 < s.length := by omega
        have h3 : ((((ByteArray.mk s.toArray)[k + 1]'hl2).toNat : Int) == 39) = false := by assumption
        go_ret2
        have e1 : s[k] = 39 := Bg.bne_f 39 h2 rfl
        have e2 : s[k + 1] ≠ 39 := Bg.beq_f 39 h3 rfl
        have hr : Bg.quoted s = (acc, k + 1) := by
          rw [← hq.out, HD.out, e1, Bg.quo_end _ _ _ (fun r' e => e2 (by rw [Bg.drop_get s (k + 1) hl2] at e; exact (List.cons.inj e).1))]
        exact ⟨by rw [hr]; rfl, rfl⟩
      · have h2 : (((ByteArray.mk s.toArray)[k].toNat : Int) != 39) = false := by assumption
        go_ret2
        have e1 : s[k] = 39 := Bg.bne_f 39 h2 rfl
        have hr : Bg.quoted s = (acc, k + 1) := by
          rw [← hq.out, HD.out, e1, Bg.quo_end _ _ _ (fun r' e => by rw [List.drop_eq_nil_of_le (by omega)] at e; cases e)]
        exact ⟨by rw [hr]; rfl, rfl⟩
      · have h1 : (((ByteArray.mk s.toArray)[k].toNat : Int) != 10) = false := by assumption
        go_ret2
        have hr : Bg.quoted s = ([], 0) := by
          have e1 : s[k] = 10 := Bg.bne_f 10 h1 rfl
          rw [← hq.out, HD.out, e1, Bg.quo_nl]
        exact ⟨by rw [hr]; rfl, rfl⟩
    · go_wp2
      go_ret2
      have hr : Bg.quoted s = ([], 0) := by
        rw [← hq.out, List.drop_eq_nil_of_le (by omega), Bg.quo_nil]
      exact ⟨by rw [hr]; rfl, rfl⟩

set_option maxHeartbeats 400000 in
theorem ref_number (s : Bg.Str) (neg : Bool) (w : World) (hs : s.length ≤ 90000) (hd : Bg.runs Bg.digits s = s.length) :
    Calls Tryz.prog 36 #[.string ⟨s.toArray⟩, .bool neg] w fun e w' => e = .returned (.tuple #[.int .i64 (Bg.number s neg).1, .bool (Bg.number s neg).2]) ∧ w = w' := by
  have hex := Bg.ext_mk
  go_enter Tryz.func36, Tryz.ntmps36
  go_wp2
  go_loop [6, 7, 8] (fun n i _ => ∃ (k : Nat) (x : Int), k ≤ s.length ∧ -9223372036854775808 ≤ x ∧ x ≤ 0 ∧ i = .int .i64 k ∧ n = .int .i64 x ∧ Hid (Bg.negNum x (s.drop k) = Bg.negNum 0 s)) (fun _ i _ => s.length - (intOf i).toNat)
  case atStart => exact ⟨0, 0, by omega, by omega, by omega, rfl, rfl, rfl⟩
  case round =>
    obtain ⟨k, x, hk, hx1, hx2, rfl, rfl, hq⟩ := hrel
    by_cases hlt : k < s.length
    · have hb := Bg.digit_at hd k hlt
      obtain ⟨hb1, hb2⟩ := hb
      have hb3 : 48 ≤ ((ByteArray.mk s.toArray)[k]'hlt).toNat := hb1
      have hb4 : ((ByteArray.mk s.toArray)[k]'hlt).toNat ≤ 57 := hb2
      clear hb1 hb2
      have HD : Hid (s.drop k = s[k] :: s.drop (k + 1)) := Bg.drop_get s k hlt
      have HT : Hid ((-9223372036854775808 + ((((ByteArray.mk s.toArray)[k]'hlt).toNat : Int) - 48)).tdiv 10 = -((9223372036854775808 - ((((ByteArray.mk s.toArray)[k]'hlt).toNat : Int) - 48)) / 10)) := Bg.tdiv_lo _ (by omega) (by omega)
      go_wp2
      · have h1 : x < (-9223372036854775808 + ((((ByteArray.mk s.toArray)[k]'hlt).toNat : Int) - 48)).tdiv 10 := by assumption
        go_ret2
        have hr := Bg.number_none (s := s) neg (by rw [← hq.out, HD.out, Bg.negNum_cons]; exact if_pos h1)
        exact ⟨by rw [hr]; rfl, rfl⟩
      · have h1 : (-9223372036854775808 + ((((ByteArray.mk s.toArray)[k]'hlt).toNat : Int) - 48)).tdiv 10 ≤ x := by assumption
        rw [HT.out] at h1
        have w1 : wrap64 (10 * x) = 10 * x := IntWalk.wrap64_in _ ⟨by omega, by omega⟩
        have w2 : wrap64 (10 * x - ((((ByteArray.mk s.toArray)[k]'hlt).toNat : Int) - 48)) = 10 * x - ((((ByteArray.mk s.toArray)[k]'hlt).toNat : Int) - 48) := IntWalk.wrap64_in _ ⟨by omega, by omega⟩
        refine ⟨⟨k + 1, 10 * x - ((((ByteArray.mk s.toArray)[k]'hlt).toNat : Int) - 48), by omega, by omega, by omega, by go_num, by rw [w1, w2], ?_⟩, by simp [intOf]; omega⟩
        show Bg.negNum (10 * x - ((s[k].toNat : Int) - 48)) (s.drop (k + 1)) = Bg.negNum 0 s
        have h1' : ¬ x < (-9223372036854775808 + ((s[k].toNat : Int) - 48)).tdiv 10 := by
          show ¬ x < (-9223372036854775808 + ((((ByteArray.mk s.toArray)[k]'hlt).toNat : Int) - 48)).tdiv 10
          rw [HT.out]; omega
        rw [← hq.out, HD.out, Bg.negNum_cons, if_neg h1']
    · have hs0 : Hid (Bg.negNum 0 s = some x) := by
        show Bg.negNum 0 s = some x
        rw [← hq.out, List.drop_eq_nil_of_le (by omega)]; rfl
      cases neg
      · go_wp2
        go_ret2
        have hr := Bg.number_pos hs0.out
        refine ⟨ret_two (vint ?_) (vbool ?_), rfl⟩
        · rw [hr]; exact Bg.neg_wrap x hx1 hx2
        · rw [hr]
          by_cases h0 : x = -9223372036854775808
          · rw [h0]; rfl
          · simp [h0]
      · go_wp2
        go_ret2
        have hr := Bg.number_neg hs0.out
        exact ⟨by rw [hr]; rfl, rfl⟩
end Go.Proofs.YtfkdfplnhlnnoaaGreatDoor
