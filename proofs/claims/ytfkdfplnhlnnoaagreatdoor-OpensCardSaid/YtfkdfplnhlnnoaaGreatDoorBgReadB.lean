/- package tables: numbers, values, fields. -/
import Derived.Test.YtfkdfplnhlnnoaaGreatDoorBgReadA
import Derived.Deep.QuietTactic
import Derived.BigQuiet
namespace Go.Proofs.YtfkdfplnhlnnoaaGreatDoor
open Go.RowKit
set_option linter.unusedSimpArgs false
set_option linter.unusedVariables false

/-- strconv's two errors lie in their variables -/
structure NumVars (w : World) : Prop where
  syn : ∃ tp p, w.var? Tryz.prog "strconv.ErrSyntax" = some #[.iface tp p]
  rng : ∃ tp p, w.var? Tryz.prog "strconv.ErrRange" = some #[.iface tp p]
theorem globSyn : Tryz.prog.globalNamed "strconv.ErrSyntax" = some 7 := by kernel_rfl
theorem globRng : Tryz.prog.globalNamed "strconv.ErrRange" = some 8 := by kernel_rfl
theorem NumVars.below {n : Nat} {w w' : World} (h : NumVars w) (hB : Below n w w') (hn : 13 ≤ n) : NumVars w' := by
  obtain ⟨⟨a, b, h1⟩, ⟨c, d, h2⟩⟩ := h
  exact ⟨⟨a, b, var?_below hB globSyn (by omega) h1⟩, ⟨c, d, var?_below hB globRng (by omega) h2⟩⟩

/-- strconv.ParseInt(s, 10, 64) by whether there is an error -/
theorem parseInt (s : Bg.Str) (w : World) (hs : s.length ≤ 90000) (hv : NumVars w) :
    Calls Tryz.prog 135 #[.string ⟨s.toArray⟩, .int .i64 10, .int .i64 64] w fun e w' => Below w.heap.size w w' ∧
      ((∃ v, Lib.parseIntB 64 s = .ok v ∧ e = .returned (.tuple #[.int .i64 v, .nilIface])) ∨
       ((∀ v, Lib.parseIntB 64 s ≠ .ok v) ∧ ∃ v t p, e = .returned (.tuple #[.int .i64 v, .iface t p]))) := by
  obtain ⟨⟨a, b, h1⟩, ⟨c, d, h2⟩⟩ := hv
  cases hp : Lib.parseIntB 64 s with
  | ok v =>
    refine (Tryz.strconv_ParseInt_10_at64_ok ⟨s.toArray⟩ (by rw [Bg.size_mk]; omega) v hp w).mono ?_
    rintro e w' ⟨rfl, hw⟩
    refine ⟨?_, .inl ⟨v, rfl, rfl⟩⟩
    rcases hw with rfl | ⟨t, rfl⟩
    · exact Below.refl _ _
    · exact Lib.bytesWorld_below _ _ _
  | «syntax» =>
    refine (Tryz.strconv_ParseInt_10_at64_syntax_var ⟨s.toArray⟩ (by rw [Bg.size_mk]; omega) hp a b w h1).mono ?_
    rintro e w' ⟨N, rfl, _, _, hB⟩
    exact ⟨hB, .inr ⟨(by intro v h; cases h), _, _, _, rfl⟩⟩
  | range =>
    refine (Tryz.strconv_ParseInt_10_at64_range_var ⟨s.toArray⟩ (by rw [Bg.size_mk]; omega) hp c d w h2).mono ?_
    rintro e w' ⟨N, rfl, _, _, hB⟩
    exact ⟨hB, .inr ⟨(by intro v h; cases h), _, _, _, rfl⟩⟩

/-- digits, with a minus ahead or not, that say a number of 64 bits -/
def numOk (s : Bg.Str) : Bool := (match Lib.parseIntB 64 s with | .ok _ => true | _ => false) && decide (Bg.runs Bg.digits (Lib.trimPrefix s [45]) = (Lib.trimPrefix s [45]).length)

set_option maxRecDepth 100000 in
set_option maxHeartbeats 1000000 in
theorem r_number (R : Nat) (line : Int) (s : Bg.Str) (w : World) (hs : s.length ≤ 90000) (hv : NumVars w) (hc : w.cell? ⟨R, 0, none⟩ = some (.int .i64 line)) :
    Calls Tryz.prog 132 #[.pointer (some ⟨R, 0, none⟩), .string ⟨s.toArray⟩] w fun e w' =>
      (numOk s = true ∧ (∃ t x, e = .returned (.iface t x)) ∧ Below w.heap.size w w') ∨ (numOk s = false ∧ bad w.heap.size line w e w') := by
  have hlt : R < w.heap.size := World.block_lt_of_cell? w ⟨R, 0, none⟩ hc
  go_enter Tryz.func132, Tryz.ntmps132
  go_wp2_with fail
  refine (Tryz.strings_TrimPrefix _ _ _).mono ?_
  rintro e w' ⟨rfl, hw⟩
  obtain rfl := hw.symm
  rw [show (ByteArray.mk s.toArray).data.toList = s from rfl, show (ByteArray.mk #[45]).data.toList = [45] from rfl]
  generalize hd : Lib.trimPrefix s [45] = d
  have HD : Hid (Lib.trimPrefix s [45] = d) := hd
  have hdl : d.length ≤ 90000 := by
    rw [← hd]; unfold Lib.trimPrefix
    split
    · rw [List.length_drop]; omega
    · exact hs
  clear hd
  go_wp2_with fail
  refine (parseInt s _ hs hv).mono ?_
  rintro e w1 ⟨hB1, ⟨v, hp, rfl⟩ | ⟨hp, v, t, p, rfl⟩⟩
  · have hc1 : w1.cell? ⟨R, 0, none⟩ = some (.int .i64 line) := (hB1.cell (p := ⟨R, 0, none⟩) hlt).trans hc
    have HP : Hid (Lib.parseIntB 64 s = .ok v) := hp
    clear hp
    go_wp2_with fail
    refine (w_Digits d _ hdl).mono ?_
    rintro e w2 ⟨rfl, rfl⟩
    by_cases hdd : Bg.runs Bg.digits d = d.length
    · have hdb : ((Bg.runs Bg.digits d : Int) == (d.length : Int)) = true := by simp [hdd]
      have HN : Hid (numOk s = true) := by
        show numOk s = true
        unfold numOk; rw [HP.out, HD.out, decide_eq_true hdd]; rfl
      clear hdd
      go_wp2_with fail
      refine (r_must_true _ _).mono ?_
      rintro e w3 ⟨rfl, rfl⟩
      go_wp2
      go_ret
      exact .inl ⟨HN.out, ⟨_, _, rfl⟩, hB1⟩
    · have hdb : ((Bg.runs Bg.digits d : Int) == (d.length : Int)) = false := by simp; omega
      have HN : Hid (numOk s = false) := by
        show numOk s = false
        unfold numOk; rw [HP.out, HD.out, decide_eq_false hdd]; rfl
      clear hdd
      go_wp2_with fail
      refine (r_must_false R line _ hc1).mono ?_
      rintro e w3 ⟨b, rfl, hb0, hb1, hB3⟩
      go_wp2
      exact ⟨rfl, .inr ⟨HN.out, b, rfl, hb0, hb1, hB1.trans (hB3.mono hB1.size)⟩⟩
  · have hc1 : w1.cell? ⟨R, 0, none⟩ = some (.int .i64 line) := (hB1.cell (p := ⟨R, 0, none⟩) hlt).trans hc
    have HP : Hid (∀ v, Lib.parseIntB 64 s ≠ .ok v) := hp
    clear hp
    have HN : Hid (numOk s = false) := by
      show numOk s = false
      unfold numOk
      cases hx : Lib.parseIntB 64 s with
      | ok v => exact absurd hx (HP.out v)
      | _ => rfl
    go_wp2_with fail
    refine (r_must_false R line _ hc1).mono ?_
    rintro e w3 ⟨b, rfl, hb0, hb1, hB3⟩
    go_wp2
    exact ⟨rfl, .inr ⟨HN.out, b, rfl, hb0, hb1, hB1.trans (hB3.mono hB1.size)⟩⟩

/-- is a field a value of its column? (ty: 1: int, 2: text) -/
def valOk (s : Bg.Str) (ty : Int) : Bool := (s == [110, 117, 108, 108]) || (if ty = 1 then numOk s else s.head? == some 39)

set_option maxRecDepth 100000 in
set_option maxHeartbeats 1000000 in
theorem r_value (R : Nat) (line ty : Int) (s : Bg.Str) (w : World) (hs : s.length ≤ 90000) (hne : s ≠ []) (hv : NumVars w) (hc : w.cell? ⟨R, 0, none⟩ = some (.int .i64 line)) :
    Calls Tryz.prog 101 #[.pointer (some ⟨R, 0, none⟩), .string ⟨s.toArray⟩, .int .i64 ty] w fun e w' =>
      (valOk s ty = true ∧ (∃ t x, e = .returned (.iface t x)) ∧ Below w.heap.size w w') ∨ (valOk s ty = false ∧ bad w.heap.size line w e w') := by
  have hlt : R < w.heap.size := World.block_lt_of_cell? w ⟨R, 0, none⟩ hc
  by_cases h1 : (s == [110, 117, 108, 108]) = true
  · have HN : Hid (valOk s ty = true) := by show valOk s ty = true; unfold valOk; rw [h1]; rfl
    go_enter Tryz.func101, Tryz.ntmps101
    go_wp2_with fail
    go_ret
    exact .inl ⟨HN.out, ⟨_, _, rfl⟩, Below.refl _ _⟩
  · have h1' : (s == [110, 117, 108, 108]) = false := by simpa using h1
    clear h1
    by_cases h2 : (ty == 1) = true
    · have HN : Hid (valOk s ty = numOk s) := by
        show valOk s ty = numOk s
        unfold valOk; rw [h1', if_pos (by simpa using h2)]; rfl
      go_enter Tryz.func101, Tryz.ntmps101
      go_wp2_with fail
      refine (r_number R line s _ hs hv hc).mono ?_
      rintro e w1 (⟨hn, ⟨t, x, rfl⟩, hB⟩ | ⟨hn, b, rfl, hb0, hb1, hB3⟩)
      · have HN2 : Hid (numOk s = true) := hn
        clear hn
        go_wp2
        go_ret
        exact .inl ⟨HN.out.trans HN2.out, ⟨_, _, rfl⟩, hB⟩
      · have HN2 : Hid (numOk s = false) := hn
        clear hn
        go_wp2
        exact ⟨rfl, .inr ⟨HN.out.trans HN2.out, b, rfl, hb0, hb1, hB3⟩⟩
    · have h2' : (ty == 1) = false := by simpa using h2
      obtain ⟨c, r, rfl⟩ : ∃ c r, s = c :: r := by cases s with | nil => exact absurd rfl hne | cons c r => exact ⟨c, r, rfl⟩
      have HN : Hid (valOk (c :: r) ty = (c == 39)) := by
        show valOk (c :: r) ty = (c == 39)
        unfold valOk; rw [h1', if_neg (by simpa using h2')]; rfl
      clear hne h2
      go_enter Tryz.func101, Tryz.ntmps101
      go_wp2_with fail
      show Calls Tryz.prog _ #[.pointer (some ⟨R, 0, none⟩), .bool ((c.toNat : Int) == 39)] w _
      by_cases h39 : c = 39
      · have HN2 : Hid (valOk (c :: r) ty = true) := by show _ = true; rw [HN.out, h39]; rfl
        rw [show ((c.toNat : Int) == 39) = true from by rw [h39]; rfl]
        refine (r_must_true _ _).mono ?_
        rintro e w1 ⟨rfl, rfl⟩
        clear h39
        go_wp2_with fail
        refine (w_Quoted (c :: r) _ hs).mono ?_
        rintro e w1 ⟨rfl, hB⟩
        go_wp2
        go_ret
        exact .inl ⟨HN2.out, ⟨_, _, rfl⟩, hB⟩
      · have HN2 : Hid (valOk (c :: r) ty = false) := by show _ = false; rw [HN.out]; simpa using h39
        rw [show ((c.toNat : Int) == 39) = false from by
          rw [beq_eq_false_iff_ne]; intro e; exact h39 (Bg.u8_eq (b := 39) e)]
        refine (r_must_false R line _ hc).mono ?_
        rintro e w3 ⟨b, rfl, hb0, hb1, hB3⟩
        clear h39
        go_wp2
        exact ⟨rfl, .inr ⟨HN2.out, b, rfl, hb0, hb1, hB3⟩⟩

/-- what stands ahead of the first c -/
def Bg.till (c : UInt8) (s : Bg.Str) : Bg.Str := s.takeWhile fun x => x ≠ c
/-- how far the first field of s goes (s is not empty and begins with no blank); none: it is none -/
def fieldLen (s : Bg.Str) : Option Nat :=
  if s.head? = some 39 then
    (let n := (Bg.quoted s).2
     if 0 < n ∧ (n = s.length ∨ s[n]? = some 32) then some n else none)
  else some (Bg.till 32 s).length

theorem below_dr {B : Nat} {a w : World} (h : Below B a w) (n : Nat) : Below B a (w.drewN n) := h.trans ⟨rfl, rfl, rfl, Nat.le_refl _, fun _ _ => rfl⟩
theorem Bg.idx_cases (c : UInt8) : ∀ s : Bg.Str, (Lib.indexByte s c = -1 ∧ (s.takeWhile fun x => x ≠ c) = s) ∨ (∃ k : Nat, k < s.length ∧ Lib.indexByte s c = k ∧ (s.takeWhile fun x => x ≠ c) = s.take k ∧ s[k]? = some c)
  | [] => .inl ⟨rfl, rfl⟩
  | b :: l => by
    by_cases h : b = c
    · subst h
      refine .inr ⟨0, by simp, by simp [Lib.indexByte], ?_, rfl⟩
      simp [List.takeWhile_cons]
    · rcases Bg.idx_cases c l with ⟨h1, h2⟩ | ⟨k, hk, h1, h2, h3⟩
      · refine .inl ⟨?_, ?_⟩
        · unfold Lib.indexByte; rw [if_neg (by simpa using h), h1]; rfl
        · rw [List.takeWhile_cons, if_pos (by simpa using h), h2]
      · refine .inr ⟨k + 1, by simpa using hk, ?_, ?_, by simpa using h3⟩
        · unfold Lib.indexByte
          rw [if_neg (by simpa using h), h1, if_neg (by rw [beq_iff_eq]; omega)]
          rfl
        · rw [List.takeWhile_cons, if_pos (by simpa using h), h2]; rfl

set_option maxRecDepth 100000 in
set_option maxHeartbeats 400000 in
theorem cutLite_blank (s : Bg.Str) (w : World) (hs : s.length ≤ 90000) :
    Calls Tryz.prog 154 #[.string ⟨s.toArray⟩, .string ⟨#[32]⟩] w fun e w' => ∃ x b, e = .returned (.tuple #[.string ⟨(Bg.till 32 s).toArray⟩, .string x, .bool b]) ∧ Below w.heap.size w w' := by
  have hex := Bg.ext_mk
  go_enter Tryz.func154, Tryz.ntmps154
  go_wp2_with fail
  refine (Tryz.stringslite_Index_one _ 32 _).mono ?_
  rintro e w' ⟨rfl, hw⟩
  obtain rfl := hw.symm
  rw [show (ByteArray.mk s.toArray).data.toList = s from rfl]
  rcases Bg.idx_cases 32 s with ⟨h1, h2⟩ | ⟨k, hk, h1, h2, h3⟩
  · have H2 : Hid (Bg.till 32 s = s) := h2
    rw [h1]
    clear h1 h2
    go_wp2
    go_ret3
    exact ⟨_, _, by rw [H2.out]; rfl, Below.refl _ _⟩
  · have H2 : Hid (Bg.till 32 s = s.take k) := h2
    rw [h1]
    clear h1 h2 h3
    go_wp2
    go_quiet (fail)
    go_wp2
    go_ret3
    exact ⟨_, _, by rw [H2.out]; rfl, below_dr (Below.refl _ _) _⟩

set_option maxRecDepth 100000 in
set_option maxHeartbeats 400000 in
theorem cut_blank (s : Bg.Str) (w : World) (hs : s.length ≤ 90000) :
    Calls Tryz.prog 129 #[.string ⟨s.toArray⟩, .string ⟨#[32]⟩] w fun e w' => ∃ x b, e = .returned (.tuple #[.string ⟨(Bg.till 32 s).toArray⟩, .string x, .bool b]) ∧ Below w.heap.size w w' := by
  have hex := Bg.ext_mk
  go_enter Tryz.func129, Tryz.ntmps129
  go_wp2_with fail
  refine (cutLite_blank s _ hs).mono ?_
  rintro e w' ⟨x, b, rfl, hB⟩
  go_wp2
  go_ret3
  exact ⟨_, _, rfl, hB⟩

set_option maxRecDepth 100000 in
set_option maxHeartbeats 1000000 in
theorem r_fieldEnd (R : Nat) (line : Int) (s : Bg.Str) (w : World) (hs : s.length ≤ 90000) (hne : s ≠ []) (hc : w.cell? ⟨R, 0, none⟩ = some (.int .i64 line)) :
    Calls Tryz.prog 97 #[.pointer (some ⟨R, 0, none⟩), .string ⟨s.toArray⟩] w fun e w' =>
      (∃ n : Nat, fieldLen s = some n ∧ e = .returned (.int .i64 n) ∧ Below w.heap.size w w') ∨ (fieldLen s = none ∧ bad w.heap.size line w e w') := by
  have hlt : R < w.heap.size := World.block_lt_of_cell? w ⟨R, 0, none⟩ hc
  obtain ⟨c, r, rfl⟩ : ∃ c r, s = c :: r := by cases s with | nil => exact absurd rfl hne | cons c r => exact ⟨c, r, rfl⟩
  clear hne
  go_enter Tryz.func97, Tryz.ntmps97
  go_wp2_with fail
  · have h39 : ((((ByteArray.mk (c :: r).toArray)[0]'(Nat.succ_pos _)).toNat : Int) != 39) = true := by assumption
    have n39 : c ≠ 39 := Bg.bne_t 39 h39 rfl
    refine (cut_blank (c :: r) _ hs).mono ?_
    rintro e w1 ⟨x, b, rfl, hB⟩
    have HF : Hid (fieldLen (c :: r) = some (Bg.till 32 (c :: r)).length) := by
      show fieldLen (c :: r) = _
      unfold fieldLen; rw [if_neg (by simpa using n39)]
    have htl : (Bg.till 32 (c :: r)).length ≤ 90000 := Nat.le_trans (List.takeWhile_sublist _).length_le hs
    generalize Bg.till 32 (c :: r) = t at HF htl ⊢
    clear n39
    go_wp2
    go_ret
    exact .inl ⟨_, HF.out, rfl, hB⟩
  · have h39 : ((((ByteArray.mk (c :: r).toArray)[0]'(Nat.succ_pos _)).toNat : Int) != 39) = false := by assumption
    have e39 : c = 39 := Bg.bne_f 39 h39 rfl
    refine (w_Quoted (c :: r) _ hs).mono ?_
    rintro e w1 ⟨rfl, hB⟩
    have hc1 : w1.cell? ⟨R, 0, none⟩ = some (.int .i64 line) := (hB.cell (p := ⟨R, 0, none⟩) hlt).trans hc
    have hql := Bg.quoted_le c r
    have HF : Hid (fieldLen (c :: r) = if 0 < (Bg.quoted (c :: r)).2 ∧ ((Bg.quoted (c :: r)).2 = (c :: r).length ∨ (c :: r)[(Bg.quoted (c :: r)).2]? = some 32) then some (Bg.quoted (c :: r)).2 else none) := by
      show fieldLen (c :: r) = _
      unfold fieldLen; rw [if_pos (by rw [e39]; rfl)]
    generalize (Bg.quoted (c :: r)).2 = n at HF hql ⊢
    generalize (Bg.quoted (c :: r)).1 = q
    clear e39
    by_cases h0 : 0 < n
    · by_cases h1 : n = (c :: r).length
      · have hok : Hid (fieldLen (c :: r) = some n) := by show _ = some n; rw [HF.out, if_pos ⟨h0, .inl h1⟩]
        clear HF
        subst h1
        go_wp2_with fail
        refine (r_must_true _ _).mono ?_
        rintro e w3 ⟨rfl, rfl⟩
        go_wp2
        go_ret
        exact .inl ⟨_, hok.out, ret_int (by simp), hB⟩
      · have hn : n < (c :: r).length := by omega
        have hsz : n < (ByteArray.mk (c :: r).toArray).size := hn
        have hn' : n < r.length + 1 := by simpa using hn
        have hb : ((n : Int) == (r.length : Int) + 1) = false := by simp at h1 ⊢; omega
        have HF2 : Hid (fieldLen (c :: r) = if (c :: r)[n] = 32 then some n else none) := by
          show fieldLen (c :: r) = _
          rw [HF.out, List.getElem?_eq_getElem hn]
          by_cases h2 : (c :: r)[n] = 32
          · rw [if_pos ⟨h0, .inr (by rw [h2])⟩, if_pos h2]
          · rw [if_neg (fun h => h2 (by rcases h.2 with h | h; exact absurd h h1; exact Option.some.inj h)), if_neg h2]
        clear HF h1
        go_wp2_with fail
        show Calls Tryz.prog _ #[.pointer (some ⟨R, 0, none⟩), .bool ((((c :: r)[n]'hn).toNat : Int) == 32)] w1 _
        by_cases h32 : (c :: r)[n] = 32
        · have hok : Hid (fieldLen (c :: r) = some n) := by show _ = some n; rw [HF2.out, if_pos h32]
          rw [show ((((c :: r)[n]'hn).toNat : Int) == 32) = true from by rw [h32]; rfl]
          refine (r_must_true _ _).mono ?_
          rintro e w3 ⟨rfl, rfl⟩
          clear h32 HF2
          go_wp2
          go_ret
          exact .inl ⟨_, hok.out, rfl, hB⟩
        · have hno : Hid (fieldLen (c :: r) = none) := by show _ = none; rw [HF2.out, if_neg h32]
          rw [show ((((c :: r)[n]'hn).toNat : Int) == 32) = false from by rw [beq_eq_false_iff_ne]; intro e; exact h32 (Bg.u8_eq (b := 32) e)]
          refine (r_must_false R line _ hc1).mono ?_
          rintro e w3 ⟨b, rfl, hb0, hb1, hB3⟩
          clear h32 HF2
          go_wp2
          exact ⟨rfl, .inr ⟨hno.out, b, rfl, hb0, hb1, hB.trans (hB3.mono hB.size)⟩⟩
    · have h0' : n = 0 := by omega
      have hno : Hid (fieldLen (c :: r) = none) := by show _ = none; rw [HF.out, if_neg (by omega)]
      clear HF
      subst h0'
      go_wp2_with fail
      refine (r_must_false R line _ hc1).mono ?_
      rintro e w3 ⟨b, rfl, hb0, hb1, hB3⟩
      go_wp2
      exact ⟨rfl, .inr ⟨hno.out, b, rfl, hb0, hb1, hB.trans (hB3.mono hB.size)⟩⟩
end Go.Proofs.YtfkdfplnhlnnoaaGreatDoor
