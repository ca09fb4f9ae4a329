/- package words: Quoted. -/
import Derived.Test.YtfkdfplnhlnnoaaGreatDoorBgWordsA
import Derived.Test.YtfkdfplnhlnnoaaGreatDoorBgRefC
import Derived.Test.YtfkdfplnhlnnoaaGreatDoorBgShelf
namespace Go.Proofs.YtfkdfplnhlnnoaaGreatDoor
open Go.RowKit

theorem Tryz.infoByte : (Tryz.prog.info? 5).map (fun i => (i.zero, i.size, i.bytes)) = some (some (.int .u8 0), 1, 1) := by kernel_rfl
def byteV (c : UInt8) : Value := .int .u8 c.toNat
/-- 'string(b)', b a row of the call's own. -/
theorem own_string {wr : World} {base : Nat} {v : Value} {l : Bg.Str} (h : wr.ownsRow base 5 1 v l.length (l.map byteV)) :
    (convert 182 9 v).run Tryz.prog wr = .ok (.string ⟨l.toArray⟩) wr := by
  rcases h.2 with ⟨rfl, h0⟩ | ⟨g, cap, cur, rfl, _⟩
  · obtain rfl : l = [] := List.length_eq_zero_iff.1 h0
    rw [run_convert_bytes_string wr 182 9 5 none 0 0 Tryz.underlying182 Tryz.underlying5 Tryz.underlying9]
    simp [Conv.bytesToString]
    rfl
  · refine run_convert_bytes_back wr 182 9 5 ⟨g, 0, none⟩ cap l Tryz.underlying182 Tryz.underlying5 Tryz.underlying9 fun j hj => ?_
    exact h.cells (g := g) rfl j _ (by simp [List.getElem?_eq_getElem hj, byteV])

set_option maxRecDepth 100000 in
set_option maxHeartbeats 1000000 in
theorem w_Quoted (s : Bg.Str) (w : World) (hs : s.length ≤ 90000) :
    Calls Tryz.prog 110 #[.string ⟨s.toArray⟩] w fun e w' => e = .returned (.tuple #[.string ⟨(Bg.quoted s).1.toArray⟩, .int .i64 (Bg.quoted s).2]) ∧ Below w.heap.size w w' := by
  have hex := Bg.ext_mk
  obtain ⟨i0, hi, hz0, hz1, hz2⟩ := info_parts Tryz.infoByte
  go_enter Tryz.func110, Tryz.ntmps110
  go_wp2
  go_loopw [4, 5] (fun v i wr => ∃ (k : Nat) (acc : Bg.Str), 1 ≤ k ∧ k ≤ s.length + 1 ∧ acc.length ≤ k ∧ i = .int .i64 k ∧ wr.ownsRow w.heap.size 5 1 v acc.length (acc.map byteV) ∧ Below w.heap.size w wr ∧ Hid (Bg.quo acc k (s.drop k) = Bg.quoted s)) (fun _ i _ => s.length + 1 - (intOf i).toNat)
  case atStart => exact ⟨1, [], by omega, by omega, by simp, rfl, World.ownsRow_nil _ _ _ _, Below.refl _ _, rfl⟩
  case round =>
    obtain ⟨k, acc, hk1, hk, hacc, rfl, hown, hB, hq⟩ := hrel
    by_cases hlt : k < s.length
    · have hsz : k < (ByteArray.mk s.toArray).size := hlt
      have HD : Hid (s.drop k = s[k] :: s.drop (k + 1)) := Bg.drop_get s k hlt
      go_wp2_with fail
      refine (w_inLine ((ByteArray.mk s.toArray)[k]'hsz) _).mono ?_
      rintro e w' ⟨rfl, rfl⟩
      cases hc : Bg.inl ((ByteArray.mk s.toArray)[k]'hsz)
      · go_wp2
        go_ret2
        have hc' : Bg.inl s[k] = false := hc
        have e1 : s[k] = 10 := by simpa [Bg.inl] using hc'
        have hr : Bg.quoted s = ([], 0) := by rw [← hq.out, HD.out, e1, Bg.quo_nl]
        exact ⟨by rw [hr]; rfl, hB⟩
      · have hc' : Bg.inl s[k] = true := hc
        have n1 : s[k] ≠ 10 := by simpa [Bg.inl] using hc'
        clear hc'
        have HN : Hid (s[k] ≠ 10) := n1
        clear n1
        go_wp2_with (at_builtin; refine wpList_append_own _ rfl _ _ 182 rfl w.heap.size 5 i0 (.int .u8 0) 1 1 Tryz.underlying182 hi hz0 hz1 hz2 rfl (by decide) _ _ _ rfl (hown.alloc _) ⟨wr.heap.size, 0, none⟩ 1 1 [byteV ((ByteArray.mk s.toArray)[k]'hsz)] rfl rfl (cell_one_new _ _ _) (by simp [Value.oneCell', byteV]) (by unfold maxLen; omega) (by omega) (by have := hB.size; simp; omega) ?_; intro v' w1 hown' hgrow _)
        · have h2 : (((ByteArray.mk s.toArray)[k].toNat : Int) == 39) = true := by assumption
          have e39 : s[k] = 39 := Bg.beq_t 39 h2 rfl
          rw [List.take_of_length_le (by simp)]
          refine (Tryz.strings_HasPrefix _ _ _).mono ?_
          rintro e w' ⟨rfl, hw⟩
          obtain rfl := hw.symm
          have hpx : Lib.hasPrefix (s.drop k) [39, 39] = ((s.drop (k + 1)).head? == some 39) := by
            rw [HD.out, e39]
            cases s.drop (k + 1) with
            | nil => rfl
            | cons d r => simp [Lib.hasPrefix, List.isPrefixOf, Bool.beq_comm (a := d)]
          rw [show (ByteArray.mk (s.drop k).toArray).data.toList = s.drop k from rfl, show (ByteArray.mk #[39, 39]).data.toList = [39, 39] from rfl, hpx]
          cases hr' : ((s.drop (k + 1)).head? == some 39)
          rotate_left
          · have hr2 : ∃ r', s.drop (k + 1) = 39 :: r' := by
              cases hd : s.drop (k + 1) with
              | nil => rw [hd] at hr'; cases hr'
              | cons d r => rw [hd] at hr'; simp at hr'; exact ⟨r, by rw [hr']⟩
            clear hr' hpx
            obtain ⟨r', hr3⟩ := hr2
            have HR : Hid (s.drop (k + 1) = 39 :: r') := hr3
            have hl2 : k + 1 < s.length := by
              have := congrArg List.length hr3
              simp at this; omega
            clear hr3
            have hsz2 : k + 1 < (ByteArray.mk s.toArray).size := hl2
            go_wp2_with (at_builtin; refine wpList_append_own _ rfl _ _ 182 rfl w.heap.size 5 i0 (.int .u8 0) 1 1 Tryz.underlying182 hi hz0 hz1 hz2 rfl (by decide) _ _ _ rfl (hown.alloc _) ⟨wr.heap.size, 0, none⟩ 1 1 [byteV ((ByteArray.mk s.toArray)[k + 1]'hsz2)] rfl rfl (cell_one_new _ _ _) (by simp [Value.oneCell', byteV]) (by unfold maxLen; omega) (by omega) (by have := hB.size; simp; omega) ?_; intro v' w1 hown' hgrow _)
            have hown2 : w1.ownsRow w.heap.size 5 1 v' (acc.length + 1) (acc.map byteV ++ [byteV s[k + 1]]) := hown'
            have e2 : s[k + 1] = 39 := by
              have := HR.out
              rw [Bg.drop_get s (k + 1) hl2] at this
              exact (List.cons.inj this).1
            rw [e2] at hown2
            refine ⟨⟨k + 2, acc ++ [39], by omega, by omega, by simp; omega, by go_num, by simpa using hown2, below_append hB hB.size hown hgrow, ?_⟩, by simp [intOf] <;> omega⟩
            show Bg.quo (acc ++ [39]) (k + 2) (s.drop (k + 2)) = Bg.quoted s
            rw [← hq.out, HD.out, Bg.drop_get s (k + 1) hl2, e39, e2, Bg.quo_two]
          · have hconv := own_string hown
            clear hpx
            have HR : Hid (Bg.quoted s = (acc, k + 1)) := by
              show Bg.quoted s = (acc, k + 1)
              rw [← hq.out, HD.out, e39, Bg.quo_end _ _ _ (fun r' e => by rw [e] at hr'; cases hr')]
            clear hr'
            go_wp2
            go_ret2
            exact ⟨by rw [HR.out]; rfl, hB⟩
        · have h2 : (((ByteArray.mk s.toArray)[k].toNat : Int) == 39) = false := by assumption
          have n39 : s[k] ≠ 39 := Bg.beq_f 39 h2 rfl
          have hown2 : w1.ownsRow w.heap.size 5 1 v' (acc.length + 1) (acc.map byteV ++ [byteV s[k]]) := hown'
          refine ⟨⟨k + 1, acc ++ [s[k]], by omega, by omega, by simp; omega, by go_num, by simpa using hown2, below_append hB hB.size hown hgrow, ?_⟩, by simp [intOf] <;> omega⟩
          show Bg.quo (acc ++ [s[k]]) (k + 1) (s.drop (k + 1)) = Bg.quoted s
          rw [← hq.out, HD.out, Bg.quo_plain _ _ _ _ HN.out n39]
    · go_wp2
      go_ret2
      have hr : Bg.quoted s = ([], 0) := by
        rw [← hq.out, List.drop_eq_nil_of_le (by omega), Bg.quo_nil]
      exact ⟨by rw [hr]; rfl, hB⟩
end Go.Proofs.YtfkdfplnhlnnoaaGreatDoor
