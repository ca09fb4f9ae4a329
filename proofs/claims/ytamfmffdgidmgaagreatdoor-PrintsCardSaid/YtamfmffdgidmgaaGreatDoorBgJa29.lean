import Derived.Test.YtamfmffdgidmgaaGreatDoorBgPrG
import Derived.Test.YtamfmffdgidmgaaGreatDoorBgShelf2
import Derived.Test.YtamfmffdgidmgaaGreatDoorBgTwC
section
namespace Go.Proofs.YtamfmffdgidmgaaGreatDoor
open Go.RowKit
namespace Gr
set_option linter.unusedSimpArgs false
set_option linter.unusedVariables false
/-- the powers of ten, as they are laid -/
def Pows (w : World) : Prop := Lib.TabIs Tryz.prog w "internal/strconv.uint64pow10" .u64 Lib.pow10Tab
theorem gPow : Tryz.prog.globalNamed "internal/strconv.uint64pow10" = some 7 := by kernel_rfl
theorem Pows.below {n : Nat} {w w' : World} (h : Pows w) (hB : Below n w w') (hn : 13 ≤ n) : Pows w' := by
  unfold Pows Lib.TabIs World.var? at *
  rw [gPow] at *
  simp only [Option.bind_some] at *
  rw [hB.block _ (Nat.lt_of_lt_of_le (by decide) hn)]
  exact h
theorem decN_eq (n : Nat) : decN n = Lib.decDigits n := by
  induction n using Nat.strongRecOn with
  | ind n ih =>
    rw [decN, Lib.decDigits]
    by_cases h : n < 10
    · rw [if_pos h, dif_pos h]
    · rw [if_neg h, dif_neg h, ih _ (by omega)]
theorem dec_eq (n : Int) : dec n = Lib.itoa n := by
  unfold dec Lib.itoa
  split
  · rw [decN_eq]
  · rw [decN_eq, show n.natAbs = n.toNat from by omega]
theorem below_grow (w : World) (q : Nat) (os : Array Obj) : Below w.heap.size w (Sort.grow (w.drewN q) os) :=
  ⟨rfl, rfl, rfl, by simp [Sort.grow, World.drewN], fun i hi => by unfold Sort.grow; exact Array.getElem?_append_left hi⟩
theorem w_null (W0 : World) : Says 125 #[.agg #[]] [110, 117, 108, 108] W0 := by
  unfold Says
  go_enter Tryz.func125, Tryz.ntmps125
  go_wp2_with fail
  go_ret
  exact ⟨rfl, wsum _⟩
theorem w_int (n : Int) (h0 : -9223372036854775808 ≤ n) (h1 : n ≤ 9223372036854775807) (W0 : World) (hp : Pows W0) : Says 126 #[.int .i64 n] (dec n) W0 := by
  unfold Says
  rw [dec_eq]
  go_enter Tryz.func126, Tryz.ntmps126
  go_wp2_with fail
  refine (Tryz.strconv_FormatInt_10 n h0 h1 _ hp).mono ?_
  rintro e w1 ⟨rfl, k, os, rfl⟩
  go_wp2_with fail
  go_ret
  exact ⟨rfl, below_grow _ _ _⟩
theorem quoteB_snoc (c : UInt8) : ∀ s : Bg.Str, quoteB (s ++ [c]) = quoteB s ++ (if c = 39 then [39, 39] else [c])
  | [] => by by_cases h : c = 39 <;> simp [quoteB, h]
  | d :: s => by
    have ih := quoteB_snoc c s
    by_cases h : d = 39 <;> simp [quoteB, h, ih]
theorem own39 (acc : Bg.Str) : (acc ++ [39]).map byteV = acc.map byteV ++ [.int .u8 39] := by rw [List.map_append]; rfl
set_option maxRecDepth 100000 in
set_option maxHeartbeats 1000000 in
theorem w_text (s : Bg.Str) (hs : s.length ≤ 90000) (w : World) : Says 127 #[.string ⟨s.toArray⟩] (quote s) w := by
  have hex := Bg.ext_mk
  obtain ⟨i0, hi, hz0, hz1, hz2⟩ := info_parts Tryz.infoByte
  have hown0 : (w.alloc (.cells #[byteV 39] 5)).ownsRow w.heap.size 5 1 (.slice (some ⟨w.heap.size, 0, none⟩) 1 1) 1 [byteV 39] := World.ownsRow_lit w #[byteV 39] 1 (Nat.le_refl _) (by unfold maxLen; omega) rfl
  unfold Says
  go_enter Tryz.func127, Tryz.ntmps127
  go_wp2_with fail
  go_loopw [3, 4] (fun v i wr => ∃ (k : Nat) (acc : Bg.Str), k ≤ s.length ∧ acc.length ≤ 2 * k + 1 ∧ i = .int .i64 k ∧ wr.ownsRow w.heap.size 5 1 v acc.length (acc.map byteV) ∧ Below w.heap.size w wr ∧ Hid (acc = 39 :: quoteB (s.take k))) (fun _ i _ => s.length - (intOf i).toNat)
  case atStart => exact ⟨0, [39], by omega, by simp, rfl, hown0, wsum _, rfl⟩
  case round =>
    obtain ⟨k, acc, hk, hacc, rfl, hown, hB, hq⟩ := hrel
    by_cases hlt : k < s.length
    · have hsz : k < (ByteArray.mk s.toArray).size := hlt
      have HT : Hid (39 :: quoteB (s.take (k + 1)) = acc ++ (if s[k] = 39 then [39, 39] else [s[k]])) := by
        show _ = _
        rw [List.take_succ_eq_append_getElem hlt, quoteB_snoc, hq.out]; rfl
      clear hq
      by_cases hc : s[k] = 39
      · have hc' : (((ByteArray.mk s.toArray)[k]'hsz).toNat : Int) = 39 := by
          have : (ByteArray.mk s.toArray)[k]'hsz = 39 := hc
          rw [this]; rfl
        have HT2 : Hid (39 :: quoteB (s.take (k + 1)) = acc ++ [39] ++ [39]) := by show _ = _; rw [HT.out, if_pos hc]; simp
        have hb1 : (((ByteArray.mk s.toArray)[k]'hsz).toNat : Int) == 39 := by rw [hc']; rfl
        clear HT hc
        go_wp2_with (at_builtin; first | (refine wpList_append_own _ rfl _ _ 249 rfl w.heap.size 5 i0 (.int .u8 0) 1 1 Tryz.underlying249 hi hz0 hz1 hz2 rfl (by decide) _ _ _ rfl (hown.alloc _) ⟨wr.heap.size, 0, none⟩ 1 1 [.int .u8 39] rfl rfl (cell_one_new _ _ _) (by simp [Value.oneCell', byteV]) (by unfold maxLen; (try simp only [List.length_append, List.length_cons, List.length_nil]); omega) (by (try simp only [List.length_append, List.length_cons, List.length_nil]); omega) (by have := hB.size; simp; omega) ?_; intro v1 w1 hown1 hg1 _; have hown1 : w1.ownsRow w.heap.size 5 1 v1 (acc ++ [39]).length ((acc ++ [39]).map byteV) := (by rw [own39]; simpa using hown1); have hB1 := below_append hB hB.size hown hg1) | (refine wpList_append_own _ rfl _ _ 249 rfl w.heap.size 5 i0 (.int .u8 0) 1 1 Tryz.underlying249 hi hz0 hz1 hz2 rfl (by decide) _ _ _ rfl (hown1.alloc _) ⟨w1.heap.size, 0, none⟩ 1 1 [.int .u8 39] rfl rfl (cell_one_new _ _ _) (by simp [Value.oneCell', byteV]) (by unfold maxLen; (try simp only [List.length_append, List.length_cons, List.length_nil]); omega) (by (try simp only [List.length_append, List.length_cons, List.length_nil]); omega) (by have := hB1.size; simp; omega) ?_; intro v2 w2 hown2 hg2 _))
        have hown3 : w2.ownsRow w.heap.size 5 1 v2 (acc ++ [39] ++ [39]).length ((acc ++ [39] ++ [39]).map byteV) := by
          rw [own39]; simpa using hown2
        exact ⟨⟨k + 1, acc ++ [39] ++ [39], by omega, by simp; omega, by go_num, hown3, below_append hB1 hB1.size hown1 hg2, HT2.out.symm⟩, by simp [intOf] <;> omega⟩
      · have hc' : ((((ByteArray.mk s.toArray)[k]'hsz).toNat : Int) == 39) = false := by
          have h1 : (s[k]).toNat ≠ 39 := fun e => hc (UInt8.toNat_inj.1 e)
          have h2 : (((ByteArray.mk s.toArray)[k]'hsz).toNat : Int) ≠ 39 := fun e => h1 (by have : (((ByteArray.mk s.toArray)[k]'hsz)).toNat = 39 := by omega
                                                                                            exact this)
          simpa using h2
        have HT2 : Hid (39 :: quoteB (s.take (k + 1)) = acc ++ [s[k]]) := by show _ = _; rw [HT.out, if_neg hc]
        clear HT hc
        go_wp2_with (at_builtin; refine wpList_append_own _ rfl _ _ 249 rfl w.heap.size 5 i0 (.int .u8 0) 1 1 Tryz.underlying249 hi hz0 hz1 hz2 rfl (by decide) _ _ _ rfl (hown.alloc _) ⟨wr.heap.size, 0, none⟩ 1 1 [byteV ((ByteArray.mk s.toArray)[k]'hsz)] rfl rfl (cell_one_new _ _ _) (by simp [Value.oneCell', byteV]) (by unfold maxLen; (try simp only [List.length_append, List.length_cons, List.length_nil]); omega) (by (try simp only [List.length_append, List.length_cons, List.length_nil]); omega) (by have := hB.size; simp; omega) ?_; intro v1 w1 hown1 hg1 _)
        have hown3 : w1.ownsRow w.heap.size 5 1 v1 (acc ++ [s[k]]).length ((acc ++ [s[k]]).map byteV) := by
          have h2 : w1.ownsRow w.heap.size 5 1 v1 (acc.length + 1) (acc.map byteV ++ [byteV s[k]]) := hown1
          simpa using h2
        exact ⟨⟨k + 1, acc ++ [s[k]], by omega, by simp; omega, by go_num, hown3, below_append hB hB.size hown hg1, HT2.out.symm⟩, by simp [intOf] <;> omega⟩
    · obtain rfl : k = s.length := by omega
      have HF : Hid (quote s = acc ++ [39]) := by show _ = _; rw [hq.out]; unfold quote; rw [List.take_of_length_le (Nat.le_refl _)]; rfl
      clear hq
      go_wp2_with (at_builtin; refine wpList_append_own _ rfl _ _ 249 rfl w.heap.size 5 i0 (.int .u8 0) 1 1 Tryz.underlying249 hi hz0 hz1 hz2 rfl (by decide) _ _ _ rfl (hown.alloc _) ⟨wr.heap.size, 0, none⟩ 1 1 [.int .u8 39] rfl rfl (cell_one_new _ _ _) (by simp [Value.oneCell', byteV]) (by unfold maxLen; (try simp only [List.length_append, List.length_cons, List.length_nil]); omega) (by (try simp only [List.length_append, List.length_cons, List.length_nil]); omega) (by have := hB.size; simp; omega) ?_; intro v1 w1 hown1 hg1 _; have hown1 : w1.ownsRow w.heap.size 5 1 v1 (acc ++ [39]).length ((acc ++ [39]).map byteV) := (by rw [own39]; simpa using hown1); have hconv := own_string hown1)
      go_ret
      exact ⟨by first | (rw [HF.out]; done) | (rw [HF.out]; rfl) | simp [HF.out], below_append hB hB.size hown hg1⟩
end Gr
end Go.Proofs.YtamfmffdgidmgaaGreatDoor
end
section
namespace Go.Proofs.YtamfmffdgidmgaaGreatDoor
open Go.RowKit
namespace Gr
set_option linter.unusedSimpArgs false
set_option linter.unusedVariables false
theorem dig_one : ∀ n, n < 10 → (Bg.digits.drop n).take 1 = [UInt8.ofNat (48 + n)] := by decide
theorem decN_small {n : Nat} (h : n < 10) : decN n = [UInt8.ofNat (48 + n)] := by rw [decN, if_pos h]
theorem decN_big {n : Nat} (h : ¬ n < 10) : decN n = decN (n / 10) ++ [UInt8.ofNat (48 + n % 10)] := by rw [decN, if_neg h]
theorem decN_len (k : Nat) : ∀ n, n < 10 ^ (k + 1) → (decN n).length ≤ k + 1 := by
  induction k with
  | zero => intro n h; rw [decN_small (by simpa using h)]; simp
  | succ k ih =>
    intro n h
    by_cases h1 : n < 10
    · rw [decN_small h1]; simp
    · rw [decN_big h1, List.length_append]
      have := ih (n / 10) (by rw [Nat.div_lt_iff_lt_mul (by omega)]; rw [Nat.pow_succ] at h; exact h)
      simp; omega
set_option maxRecDepth 10000 in
set_option maxHeartbeats 1000000 in
theorem ref_decN (m : Nat) : ∀ (n : Nat) (w : World), n < m → n < 9223372036854775808 →
    Calls Tryz.prog 29 #[.int .i64 n] w fun e w' => e = .returned (.string ⟨(decN n).toArray⟩) ∧ w = w' := by
  induction m with
  | zero => intro n w h; omega
  | succ m ih =>
    intro n w hn hb
    have hex := Bg.ext_mk
    by_cases h1 : n < 10
    · have HD : Hid (decN n = (Bg.digits.drop n).take 1) := by show _ = _; rw [decN_small h1, dig_one n h1]
      go_enter Tryz.func29, Tryz.ntmps29
      go_wp2_with fail
      go_ret
      exact ⟨by rw [HD.out]; rfl, rfl⟩
    · have HD : Hid (decN n = decN (n / 10) ++ (Bg.digits.drop (n % 10)).take 1) := by
        show _ = _
        rw [decN_big h1, dig_one _ (Nat.mod_lt _ (by omega))]
      have happ := Bg.app_mk
      have hlen := decN_len 19 (n / 10) (by rw [show (10 : Nat) ^ (19 + 1) = 100000000000000000000 from rfl]; omega)
      have hm10 : n % 10 < 10 := Nat.mod_lt _ (by omega)
      go_enter Tryz.func29, Tryz.ntmps29
      go_wp2_with fail
      rw [show (n : Int) / 10 = ((n / 10 : Nat) : Int) from by omega]
      refine (ih (n / 10) _ (by omega) (by omega)).mono ?_
      rintro e w' ⟨rfl, rfl⟩
      generalize hq : decN (n / 10) = q at HD hlen ⊢
      clear hq
      go_wp2_with fail
      go_ret
      exact ⟨by rw [HD.out]; rfl, rfl⟩
set_option maxRecDepth 10000 in
set_option maxHeartbeats 1000000 in
theorem ref_decimal (n : Int) (w : World) (h1 : -9223372036854775808 ≤ n) (h2 : n ≤ 9223372036854775807) :
    Calls Tryz.prog 29 #[.int .i64 n] w fun e w' => e = .returned (.string ⟨(dec n).toArray⟩) ∧ w = w' := by
  by_cases hn : n < 0
  · have HD : Hid (dec n = 45 :: decN n.natAbs) := by show _ = _; unfold dec; rw [if_pos hn]
    by_cases hm : n = -9223372036854775808
    · subst hm
      have HX : Hid (dec (-9223372036854775808) = [45, 57, 50, 50, 51, 51, 55, 50, 48, 51, 54, 56, 53, 52, 55, 55, 53, 56, 48, 56]) := by show _ = _; decide +kernel
      go_enter Tryz.func29, Tryz.ntmps29
      go_wp2_with fail
      go_ret
      exact ⟨by rw [HX.out]; rfl, rfl⟩
    · have happ := Bg.app_mk
      have hlen := decN_len 19 n.natAbs (by rw [show (10 : Nat) ^ (19 + 1) = 100000000000000000000 from rfl]; omega)
      have hm' : (n == -9223372036854775808) = false := by simpa using hm
      have hneg : IntKind.i64.wrap (-n) = -n := by rw [IntKind.wrap_i64]; omega
      go_enter Tryz.func29, Tryz.ntmps29
      go_wp2_with fail
      rw [show -n = ((n.natAbs : Nat) : Int) from by omega]
      refine (ref_decN (n.natAbs + 1) n.natAbs _ (by omega) (by omega)).mono ?_
      rintro e w' ⟨rfl, rfl⟩
      generalize decN n.natAbs = q at HD hlen ⊢
      go_wp2_with fail
      go_ret
      exact ⟨by rw [HD.out]; rfl, rfl⟩
  · obtain ⟨k, rfl⟩ : ∃ k : Nat, n = k := ⟨n.toNat, by omega⟩
    have e : dec (k : Int) = decN k := by unfold dec; rw [if_neg hn]; rfl
    rw [e]
    exact ref_decN (k + 1) k w (by omega) (by omega)
theorem quoteB_app : ∀ (a : Bg.Str) (c : UInt8), quoteB (a ++ [c]) = quoteB a ++ (if c = 39 then [39, 39] else [c])
  | [], c => by by_cases h : c = 39 <;> simp [quoteB, h]
  | x :: a, c => by
    rw [List.cons_append]
    unfold quoteB
    rw [quoteB_app a c]
    split <;> simp
set_option maxRecDepth 10000 in
set_option maxHeartbeats 1000000 in
theorem ref_quote (s : Bg.Str) (w : World) (hs : s.length ≤ 90000) :
    Calls Tryz.prog 30 #[.string ⟨s.toArray⟩] w fun e w' => e = .returned (.string ⟨(quote s).toArray⟩) ∧ w = w' := by
  have hex := Bg.ext_mk
  have happ := Bg.app_mk
  go_enter Tryz.func30, Tryz.ntmps30
  go_wp2_with fail
  go_loopg [3, 4] (s.length + 1) (fun gk tv iv wr => ∃ (k : Nat) (q : Bg.Str), k ≤ s.length ∧ gk = s.length - k + 1 ∧ iv = .int .i64 k ∧ tv = .string ⟨(39 :: q).toArray⟩ ∧ q.length ≤ 2 * k ∧ w = wr ∧ Hid (q = quoteB (s.take k)))
  case atStart => exact ⟨0, [], by omega, by omega, rfl, rfl, by simp, rfl, by simp [Hid, quoteB]⟩
  case round =>
    obtain ⟨k, q, hk, rfl, rfl, rfl, hql, rfl, hq⟩ := hrel
    by_cases hlt : k < s.length
    · have hsz : k < (ByteArray.mk s.toArray).size := hlt
      have H1 : Hid ((s.drop k).take 1 = [s[k]]) := Bg.take_one s k hlt
      have HT : Hid (s.take (k + 1) = s.take k ++ [s[k]]) := by show _ = _; rw [List.take_succ_eq_append_getElem hlt]
      by_cases h39 : s[k] = 39
      · have hc : ((((ByteArray.mk s.toArray)[k]'hsz).toNat : Int) == 39) = true := by rw [beq_iff_eq]; show ((s[k]).toNat : Int) = 39; rw [h39]; rfl
        have HQ : Hid (q ++ [39, 39] = quoteB (s.take (k + 1))) := by show _ = _; rw [HT.out, quoteB_app, if_pos h39, hq.out]
        have H1' : Hid ((s.drop k).take 1 = [39]) := by show _ = _; rw [H1.out, h39]
        clear h39
        go_wp2_with fail
        go_roundg (s.length - (k + 1) + 1)
        case measure => omega
        case rel => exact ⟨k + 1, q ++ [39, 39], by omega, rfl, by exact vint (by omega), by rw [H1'.out]; first | done | simp, by simp; omega, rfl, HQ⟩
      · have hc : ((((ByteArray.mk s.toArray)[k]'hsz).toNat : Int) == 39) = false := by
          rw [beq_eq_false_iff_ne]; intro e; exact h39 (Bg.u8_eq e)
        have HQ : Hid (q ++ [s[k]] = quoteB (s.take (k + 1))) := by show _ = _; rw [HT.out, quoteB_app, if_neg h39, hq.out]
        clear h39
        go_wp2_with fail
        go_roundg (s.length - (k + 1) + 1)
        case measure => omega
        case rel => exact ⟨k + 1, q ++ [s[k]], by omega, rfl, by exact vint (by omega), by rw [H1.out]; first | done | simp, by simp; omega, rfl, HQ⟩
    · have HQ : Hid (quote s = 39 :: q ++ [39]) := by show _ = _; unfold quote; rw [hq.out, List.take_of_length_le (by omega)]; rfl
      go_wp2_with fail
      go_ret
      exact ⟨by rw [HQ.out]; rfl, rfl⟩
set_option maxRecDepth 10000 in
set_option maxHeartbeats 1000000 in
theorem ref_not (b : Bool) (w : World) : Calls Tryz.prog 28 #[.bool b] w fun e w' => e = .returned (.string ⟨(notP b).toArray⟩) ∧ w = w' := by
  cases b
  · go_enter Tryz.func28, Tryz.ntmps28
    go_wp2_with fail
    go_ret
    exact ⟨rfl, rfl⟩
  · go_enter Tryz.func28, Tryz.ntmps28
    go_wp2_with fail
    go_ret
    exact ⟨rfl, rfl⟩
set_option maxRecDepth 10000 in
set_option maxHeartbeats 1000000 in
theorem ref_as (s n : Bg.Str) (w : World) (hs : s.length ≤ 1000000) (hn : n.length ≤ 1000000) : Calls Tryz.prog 31 #[.string ⟨s.toArray⟩, .string ⟨n.toArray⟩] w fun e w' => e = .returned (.string ⟨(asP s n).toArray⟩) ∧ w = w' := by
  have happ := Bg.app_mk
  by_cases h0 : n = []
  · have HX : Hid (asP s n = s) := by show _ = _; unfold asP; rw [if_pos h0]
    subst h0
    go_enter Tryz.func31, Tryz.ntmps31
    go_wp2_with fail
    go_ret
    exact ⟨by rw [HX.out]; rfl, rfl⟩
  · have h0' : (n == []) = false := by simpa using h0
    have HX : Hid (asP s n = s ++ [32, 97, 115, 32] ++ n) := by show _ = _; unfold asP; rw [if_neg h0]
    clear h0
    go_enter Tryz.func31, Tryz.ntmps31
    go_wp2_with fail
    go_ret
    exact ⟨by rw [HX.out]; first | rfl | simp, rfl⟩
end Gr
end Go.Proofs.YtamfmffdgidmgaaGreatDoor
end
