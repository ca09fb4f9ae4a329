/- A line, as the program reads it and as the document does: the same. -/
import Derived.Test.YtfkdfplnhlnnoaaGreatDoorBgSpec
import Derived.Test.YtfkdfplnhlnnoaaGreatDoorBgTabB
namespace Go.Proofs.YtfkdfplnhlnnoaaGreatDoor
open Go.RowKit
set_option linter.unusedSimpArgs false
set_option linter.unusedVariables false

namespace Bg
/-- what digits say -/
def val (acc : Nat) (s : Str) : Nat := s.foldl (fun a c => a * 10 + (c.toNat - 48)) acc
theorem val_nil (acc : Nat) : val acc [] = acc := by unfold val; rw [List.foldl_nil]
theorem val_cons (acc : Nat) (c : UInt8) (r : Str) : val acc (c :: r) = val (acc * 10 + (c.toNat - 48)) r := by unfold val; rw [List.foldl_cons]
theorem val_ge (s : Str) : ∀ (acc : Nat), acc ≤ val acc s := by
  induction s with
  | nil => intro acc; rw [val_nil]; exact Nat.le_refl _
  | cons c r ih => intro acc; have := ih (acc * 10 + (c.toNat - 48)); rw [val_cons]; omega
def allDig : Str → Prop
  | [] => True
  | c :: r => (48 ≤ c.toNat ∧ c.toNat ≤ 57) ∧ allDig r
theorem allDig_of {s : Str} (h : runs digits s = s.length) : allDig s := by
  induction s with
  | nil => trivial
  | cons c r ih =>
    rw [runs_cons] at h
    by_cases hc : digits.contains c = true
    · rw [if_pos hc] at h
      exact ⟨digit_of hc, ih (by simpa using h)⟩
    · rw [if_neg hc] at h; simp at h
theorem negNum_val (s : Str) : ∀ (acc : Nat), allDig s → acc ≤ 9223372036854775808 → negNum (-(acc : Int)) s = if val acc s ≤ 9223372036854775808 then some (-(val acc s : Int)) else none := by
  induction s with
  | nil => intro acc _ h; rw [negNum, val_nil, if_pos h]
  | cons c r ih =>
    intro acc hd h
    obtain ⟨⟨h0, h9⟩, hr⟩ := hd
    rw [negNum_cons, val_cons]
    have e := tdiv_lo ((c.toNat : Int) - 48) (by omega) (by omega)
    rw [e]
    have hge := val_ge r (acc * 10 + (c.toNat - 48))
    by_cases hlt : -(acc : Int) < -((9223372036854775808 - ((c.toNat : Int) - 48)) / 10)
    · rw [if_pos hlt, if_neg (by omega)]
    · rw [if_neg hlt]
      have hn := ih (acc * 10 + (c.toNat - 48)) hr (by omega)
      rw [← hn]
      congr 1
      omega
theorem uint_val (s : Str) : ∀ (acc : Nat), allDig s → acc ≤ 18446744073709551615 → Lib.parseUintM 18446744073709551615 acc s = if val acc s ≤ 18446744073709551615 then .ok (val acc s) else .range := by
  induction s with
  | nil => intro acc _ h; rw [Lib.parseUintM, val_nil, if_pos h]
  | cons c r ih =>
    intro acc hd h
    obtain ⟨⟨h0, h9⟩, hr⟩ := hd
    have hge := val_ge r (acc * 10 + (c.toNat - 48))
    rw [Lib.parseUintM, val_cons, if_pos ⟨h0, h9⟩]
    by_cases h1 : 1844674407370955162 ≤ acc
    · rw [if_pos h1, if_neg (by omega)]
    · rw [if_neg h1]
      by_cases h2 : 18446744073709551615 < acc * 10 + (c.toNat - 48)
      · rw [if_pos h2, if_neg (by omega)]
      · rw [if_neg h2]
        exact ih _ hr (by omega)
theorem number_ok {d : Str} (hd : allDig d) (neg : Bool) : (number d neg).2 = decide (val 0 d < 9223372036854775808 ∨ (neg = true ∧ val 0 d = 9223372036854775808)) := by
  have h := negNum_val d 0 hd (by omega)
  rw [show -((0 : Nat) : Int) = 0 from rfl] at h
  by_cases hv : val 0 d ≤ 9223372036854775808
  · rw [if_pos hv] at h
    cases neg
    · rw [number_pos h, Bool.eq_iff_iff]; simp only [decide_eq_true_eq, Bool.false_eq_true, false_and, or_false]; omega
    · rw [number_neg h]; symm; apply decide_eq_true; simp only [true_and]; omega
  · rw [if_neg hv] at h
    rw [number_none neg h]; simp; omega
theorem dig_not {c : UInt8} (h : 48 ≤ c.toNat) : c ≠ 45 ∧ c ≠ 43 ∧ c ≠ 39 := by
  refine ⟨?_, ?_, ?_⟩ <;> (intro e; subst e; revert h; decide)
end Bg

theorem numOk_ref (s : Bg.Str) (hne : s ≠ []) : numOk s =
    (let neg := decide (s.head? = some 45)
     let d := if neg then s.drop 1 else s
     if Bg.runs Bg.digits d = 0 ∨ Bg.runs Bg.digits d < d.length then false else (Bg.number d neg).2) := by
  obtain ⟨c, r, rfl⟩ : ∃ c r, s = c :: r := by cases s with | nil => exact absurd rfl hne | cons c r => exact ⟨c, r, rfl⟩
  by_cases h45 : c = 45
  · subst h45
    have e1 : Lib.trimPrefix (45 :: r) [45] = r := by simp [Lib.trimPrefix, Lib.hasPrefix]
    simp only [List.head?_cons, decide_true, if_true, List.drop_succ_cons, List.drop_zero]
    unfold numOk
    rw [e1]
    have hle := Bg.runs_le Bg.digits r
    by_cases hd : Bg.runs Bg.digits r = r.length
    · have had := Bg.allDig_of hd
      cases r with
      | nil => rfl
      | cons c' r' =>
        rw [if_neg (by rw [hd]; simp), Bg.number_ok had]
        have hp : Lib.parseIntB 64 (45 :: c' :: r') = (match Lib.parseUintM 18446744073709551615 0 (c' :: r') with
            | .syntax => .syntax
            | .range => .range
            | .ok u => if 9223372036854775808 < u then .range else .ok (-(u : Int))) := by
          simp [Lib.parseIntB, Lib.parseUintB]
          generalize Lib.parseUintM 18446744073709551615 0 (c' :: r') = q; cases q <;> rfl
        rw [hp, Bg.uint_val _ 0 had (by omega), decide_eq_true hd, Bool.and_true]
        by_cases h1 : Bg.val 0 (c' :: r') ≤ 18446744073709551615
        · rw [if_pos h1]
          simp only
          by_cases h2 : 9223372036854775808 < Bg.val 0 (c' :: r')
          · rw [if_pos h2]; simp; omega
          · rw [if_neg h2]; simp; omega
        · rw [if_neg h1]; simp; omega
    · rw [decide_eq_false hd, Bool.and_false, if_pos (.inr (by omega))]
  · have e1 : Lib.trimPrefix (c :: r) [45] = c :: r := by
      have : ¬ (45 : UInt8) = c := fun e => h45 e.symm
      simp [Lib.trimPrefix, Lib.hasPrefix, this]
    have e2 : decide ((c :: r).head? = some 45) = false := by simpa using h45
    simp only [e2, Bool.false_eq_true, if_false]
    unfold numOk
    rw [e1]
    have hle := Bg.runs_le Bg.digits (c :: r)
    by_cases hd : Bg.runs Bg.digits (c :: r) = (c :: r).length
    · have had := Bg.allDig_of hd
      have hn := Bg.dig_not had.1.1
      have n1 : ¬ c.toNat = 43 := fun e => hn.2.1 (UInt8.toNat_inj.1 e)
      have n2 : ¬ c.toNat = 45 := fun e => hn.1 (UInt8.toNat_inj.1 e)
      rw [if_neg (by rw [hd]; simp), Bg.number_ok had]
      have hp : Lib.parseIntB 64 (c :: r) = (match Lib.parseUintM 18446744073709551615 0 (c :: r) with
          | .syntax => .syntax
          | .range => .range
          | .ok u => if 9223372036854775808 ≤ u then .range else .ok (u : Int)) := by
        simp [Lib.parseIntB, Lib.parseUintB, n1, n2]
        generalize Lib.parseUintM 18446744073709551615 0 (c :: r) = q; cases q <;> rfl
      rw [hp, Bg.uint_val _ 0 had (by omega), decide_eq_true hd, Bool.and_true]
      by_cases h1 : Bg.val 0 (c :: r) ≤ 18446744073709551615
      · rw [if_pos h1]
        simp only
        by_cases h2 : 9223372036854775808 ≤ Bg.val 0 (c :: r)
        · rw [if_pos h2]; simp; omega
        · rw [if_neg h2]; simp; omega
      · rw [if_neg h1]; simp; omega
    · rw [decide_eq_false hd, Bool.and_false, if_pos (.inr (by omega))]

def tyStr (t : Int) : Bg.Str := if t = 1 then sInt else sText
theorem tyStr_tyOf {k : Bg.Str} {t : Int} (h : tyOf k = some t) : tyStr t = k := by
  unfold tyOf at h
  split at h
  · rename_i e; cases h; rw [e]; rfl
  · split at h
    · rename_i e; cases h; rw [e]; rfl
    · cases h
theorem numOk_quote (r : Bg.Str) : numOk (39 :: r) = false := by
  unfold numOk
  have e1 : Lib.trimPrefix (39 :: r) [45] = 39 :: r := by simp [Lib.trimPrefix, Lib.hasPrefix]
  have e2 : Bg.runs Bg.digits (39 :: r) = 0 := by rw [Bg.runs_cons]; rfl
  rw [e1, e2, decide_eq_false (by simp), Bool.and_false]
theorem val_ref (s : Bg.Str) (hne : s ≠ []) (t : Int) : (refVal s (tyStr t)).2 = valOk s t := by
  unfold refVal valOk
  by_cases h0 : s = sNull
  · rw [if_pos h0, h0]; rfl
  · rw [if_neg h0]
    have e0 : (s == [110, 117, 108, 108]) = false := by simpa [sNull] using h0
    rw [e0, Bool.false_or]
    by_cases h39 : s.head? = some 39
    · rw [if_pos h39]
      by_cases ht : t = 1
      · rw [if_pos ht]
        obtain ⟨c, r, rfl⟩ : ∃ c r, s = c :: r := by cases s with | nil => exact absurd rfl hne | cons c r => exact ⟨c, r, rfl⟩
        simp at h39
        subst h39
        rw [numOk_quote, ht]; rfl
      · rw [if_neg ht, h39]
        unfold tyStr
        rw [if_neg ht]; rfl
    · rw [if_neg h39]
      by_cases ht : t = 1
      · rw [if_pos ht, numOk_ref s hne, ht]
        simp only [show tyStr 1 = sInt from rfl, ne_eq, not_true_eq_false, or_false]
        generalize (if decide (s.head? = some 45) = true then s.drop 1 else s) = d
        by_cases hx : Bg.runs Bg.digits d = 0 ∨ Bg.runs Bg.digits d < d.length
        · rw [if_pos hx, if_pos hx]
        · rw [if_neg hx, if_neg hx]
      · rw [if_neg ht]
        have e1 : tyStr t ≠ sInt := by unfold tyStr; rw [if_neg ht]; decide
        simp only
        rw [if_pos (.inr (.inr e1))]
        simpa using h39
theorem row_ref : ∀ (l : List Bg.Str) (cs : List (Bg.Str × Int)), (∀ x ∈ l, x ≠ []) → valsOk l (cs.map fun c => tyStr c.2) = rowOk l cs
  | [], _, _ => rfl
  | _ :: _, [], _ => rfl
  | x :: l, c :: cs, h => by
    have ih := row_ref l cs (fun y hy => h y (List.mem_cons_of_mem _ hy))
    unfold valsOk rowOk at ih ⊢
    simp only [List.map_cons, List.zip_cons_cons, List.all_cons]
    rw [ih, val_ref x (h x (by simp)) c.2]

/-- the keywords -/
def kwText : Bg.Str := [115, 101, 108, 101, 99, 116, 32, 100, 105, 115, 116, 105, 110, 99, 116, 32, 102, 114, 111, 109, 32, 119, 104, 101, 114, 101, 32, 103, 114, 111, 117, 112, 32, 98, 121, 32, 104, 97, 118, 105, 110, 103, 32, 97, 115, 32, 117, 110, 105, 111, 110, 32, 105, 110, 116, 101, 114, 115, 101, 99, 116, 32, 101, 120, 99, 101, 112, 116, 32, 97, 108, 108, 32, 97, 110, 121, 32, 97, 110, 100, 32, 111, 114, 32, 110, 111, 116, 32, 101, 120, 105, 115, 116, 115, 32, 105, 110, 32, 105, 115, 32, 110, 117, 108, 108, 32, 99, 111, 117, 110, 116, 32, 115, 117, 109, 32, 109, 105, 110, 32, 109, 97, 120]
def splitB (cur : Bg.Str) : Bg.Str → List Bg.Str
  | [] => [cur]
  | c :: r => if c = 32 then cur :: splitB [] r else splitB (cur ++ [c]) r
def kwsAll : List Bg.Str := splitB [] kwText
theorem tw_app (s r : Bg.Str) (h : (32 : UInt8) ∉ s) : (s ++ 32 :: r).takeWhile (fun c => c != 32) = s := by
  induction s with
  | nil => rfl
  | cons c s ih =>
    have hc : c ≠ 32 := fun e => h (by rw [e]; simp)
    rw [List.cons_append, List.takeWhile_cons, if_pos (by simpa using hc), ih (fun e => h (List.mem_cons_of_mem _ e))]
theorem key_chk1 : ((List.range 124).all fun i => (Bg.reserved.drop i).head? != some 32 || kwsAll.contains ((Bg.reserved.drop (i + 1)).takeWhile fun c => c != 32)) = true := by decide +kernel
theorem key_chk2 : (kwsAll.all Bg.isKey) = true := by decide +kernel
theorem key_kws (s : Bg.Str) (h : (32 : UInt8) ∉ s) : kwsAll.contains s = Bg.isKey s := by
  rw [Bool.eq_iff_iff]
  constructor
  · intro h1
    exact List.all_eq_true.1 key_chk2 s (by simpa using h1)
  · intro h1
    unfold Bg.isKey Bg.occ at h1
    obtain ⟨i, hi, he⟩ := List.any_eq_true.1 h1
    rw [List.mem_range] at hi
    have hl : Bg.reserved.length = 125 := rfl
    rw [hl] at hi
    simp only [List.length_cons, List.length_append, List.length_nil] at hi
    have he2 : (Bg.reserved.drop i).take (s.length + 2) = 32 :: (s ++ [32]) := by
      have := eq_of_beq he
      simpa using this
    have hd : Bg.reserved.drop i = 32 :: (s ++ [32]) ++ (Bg.reserved.drop i).drop (s.length + 2) := by rw [← he2, List.take_append_drop]
    have hd1 : Bg.reserved.drop (i + 1) = s ++ 32 :: (Bg.reserved.drop i).drop (s.length + 2) := by
      have : Bg.reserved.drop (i + 1) = (Bg.reserved.drop i).drop 1 := by rw [List.drop_drop]
      rw [this]
      conv => lhs; rw [hd]
      simp
    have hc := List.all_eq_true.1 key_chk1 i (by rw [List.mem_range]; omega)
    rw [hd1, tw_app _ _ h, hd] at hc
    simpa using hc
theorem runs_mem {set s : Bg.Str} (hd : Bg.runs set s = s.length) {x : UInt8} (hx : x ∈ s) : set.contains x = true := by
  obtain ⟨k, hk, rfl⟩ := List.mem_iff_getElem.1 hx
  exact Bg.mem_of_runs hd k hk
theorem let_dig (c : UInt8) : (Bg.letters ++ Bg.digits).contains c = (Bg.letters.contains c || Bg.digits.contains c) := by simp [List.contains_eq_any_beq, List.any_append]
theorem u8_all {p : UInt8 → Bool} (h : (List.range 256).all (fun n => p (UInt8.ofNat n)) = true) (c : UInt8) : p c = true := by
  have h1 := List.all_eq_true.1 h c.toNat (by simp; exact c.toNat_lt)
  rwa [UInt8.ofNat_toNat] at h1
theorem dig_let (c : UInt8) : (Bg.digits.contains c && Bg.letters.contains c) = false := by
  have := u8_all (p := fun c => !(Bg.digits.contains c && Bg.letters.contains c)) (by decide +kernel) c
  rw [Bool.not_eq_true'] at this
  exact this
theorem nm_ref (s : Bg.Str) : isNm kwsAll s = Bg.isName s := by
  unfold isNm Bg.isName
  by_cases hr : Bg.runs (Bg.letters ++ Bg.digits) s = s.length
  · have h32 : (32 : UInt8) ∉ s := fun hx => by have := runs_mem hr hx; revert this; decide
    rw [key_kws s h32]
    cases s with
    | nil => simp
    | cons c r =>
      have hc := runs_mem hr (show c ∈ c :: r from by simp)
      rw [let_dig] at hc
      have hdl := dig_let c
      rw [hr]
      simp only [List.isEmpty_cons, Bool.not_false, Bool.and_true, Bool.true_and, List.take_succ_cons, List.take_zero, Bg.runs_cons, BEq.rfl]
      by_cases hd : Bg.digits.contains c = true
      · rw [hd, Bool.true_and] at hdl
        rw [if_pos hd, if_pos (by omega), hdl]
        simp
        intro _; omega
      · have hd' : Bg.digits.contains c = false := by simpa using hd
        rw [hd', Bool.or_false] at hc
        rw [hd', hc]
        simp
        intro _; rfl
  · have e1 : (Bg.runs (Bg.letters ++ Bg.digits) s == s.length) = false := by simpa using hr
    rw [e1, Bool.and_false, Bool.false_and]
    have : decide (((if 0 < Bg.runs Bg.digits s then 0 else Bg.runs (Bg.letters ++ Bg.digits) s : Nat) : Int) = s.length) = false ∨ s.isEmpty = true := by
      by_cases h0 : s = []
      · right; rw [h0]; rfl
      · left
        have : 0 < s.length := by cases s with | nil => exact absurd rfl h0 | cons => simp
        split <;> simp <;> omega
    rcases this with h | h <;> rw [h] <;> simp

/-- a column's name and type -/
def pairOk (kws : List Bg.Str) (p : Bg.Str × Bg.Str) : Bool := (tyOf p.2).isSome && isNm kws p.1
def colsOf (ps : List (Bg.Str × Bg.Str)) : List (Bg.Str × Int) := ps.map fun p => (p.1, (tyOf p.2).getD 0)
abbrev tabOk (kws : List Bg.Str) (st : St) (ps : List Bg.Str) : Prop :=
  lenOk ps.length = true ∧ nameOk kws st (ps.getD 0 []) = true ∧ (pairsOf (ps.drop 1)).all (pairOk kws) = true ∧ ((pairsOf (ps.drop 1)).map (·.1)).Nodup
/-- a line of at least one field, as the program reads it -/
def codePieces (kws : List Bg.Str) (st : St) (p : Bg.Str) (ps : List Bg.Str) : Option St :=
  if p = sTable then
    if tabOk kws st ps then some ⟨st.names ++ [ps.getD 0 []], some ⟨colsOf (pairsOf (ps.drop 1)), 0⟩, st.tabs ++ [(ps.getD 0 [], colsOf (pairsOf (ps.drop 1)))]⟩ else none
  else if p = sRow then
    match st.last with
    | none => none
    | some t => if (ps.length = t.cols.length ∧ t.rows ≠ 12) ∧ rowOk ps t.cols = true then some ⟨st.names, some ⟨t.cols, t.rows + 1⟩, st.tabs⟩ else none
  else none
def codeStep (kws : List Bg.Str) (st : St) (x : Bg.Str) : Option St :=
  match fieldsOf x with
  | none => none
  | some [] => some st
  | some (p :: ps) => codePieces kws st p ps
def codeRun (kws : List Bg.Str) : St → Nat → List Bg.Str → Int
  | _, _, [] => -1
  | st, k, x :: r => match codeStep kws st x with
    | none => (k : Int) + 1
    | some st' => codeRun kws st' (k + 1) r
def absSt (st : St) : RSt := ⟨st.names, st.last.map fun t => (t.cols.map (fun c => tyStr c.2), t.rows)⟩

theorem okPairs_ref : ∀ (l : List (Bg.Str × Bg.Str)) (seen : List Bg.Str), okPairs seen l = true ↔ (l.all (pairOk kwsAll) = true ∧ (l.map (·.1)).Nodup ∧ ∀ x ∈ l.map (·.1), x ∉ seen)
  | [], seen => by simp [okPairs]
  | (n, t) :: l, seen => by
    rw [okPairs]
    have ih := okPairs_ref l (seen ++ [n])
    have ety : (t == sInt || t == sText) = (tyOf t).isSome := by
      unfold tyOf sInt sText
      by_cases h1 : t = [105, 110, 116]
      · rw [if_pos h1, h1]; rfl
      · rw [if_neg h1]
        by_cases h2 : t = [116, 101, 120, 116]
        · rw [if_pos h2, h2]; rfl
        · rw [if_neg h2]; simp [h1, h2]
    rw [ety]
    simp only [Bool.and_eq_true, ih, List.all_cons, pairOk, nm_ref, List.map_cons, List.nodup_cons, List.mem_cons, Bool.not_eq_true', List.contains_eq_mem, decide_eq_false_iff_not, List.mem_append, List.not_mem_nil, or_false, not_or]
    constructor
    · rintro ⟨⟨⟨h1, h2⟩, h3⟩, h4, h5, h6⟩
      refine ⟨⟨⟨h3, h1⟩, h4⟩, ⟨?_, h5⟩, ?_⟩
      · intro hm; exact (h6 n hm).2 rfl
      · rintro x (rfl | hx)
        · exact h2
        · exact (h6 x hx).1
    · rintro ⟨⟨⟨h3, h1⟩, h4⟩, ⟨h7, h5⟩, h8⟩
      refine ⟨⟨⟨h1, h8 n (.inl rfl)⟩, h3⟩, h4, h5, ?_⟩
      intro x hx
      exact ⟨h8 x (.inr hx), fun e => h7 (e ▸ hx)⟩
theorem cols_ref : ∀ (l : List (Bg.Str × Bg.Str)), l.all (pairOk kwsAll) = true → (colsOf l).map (fun c => tyStr c.2) = l.map (·.2)
  | [], _ => rfl
  | (n, t) :: l, h => by
    simp only [List.all_cons, Bool.and_eq_true, pairOk] at h
    have ih := cols_ref l h.2
    unfold colsOf at ih ⊢
    simp only [List.map_cons, List.map_map]
    simp only [List.map_map] at ih
    rw [ih]
    obtain ⟨ty, hty⟩ := Option.isSome_iff_exists.1 h.1.1
    rw [hty]
    simp only [Option.getD_some]
    rw [tyStr_tyOf hty]
theorem pieces_ref (st : St) (h8 : st.names.length ≤ 8) (p : Bg.Str) (ps : List Bg.Str) (hne : ∀ x ∈ ps, x ≠ []) : refPieces (absSt st) p ps = (codePieces kwsAll st p ps).map absSt := by
  unfold refPieces codePieces
  by_cases hp : p = sTable
  · rw [if_pos hp, if_pos hp]
    have hiff : (headOk (p :: ps) = true ∧ (absSt st).names.length ≠ 8 ∧ (ps.getD 0 []) ∉ (absSt st).names) ↔ tabOk kwsAll st ps := by
      unfold headOk tabOk nameOk headLen lenOk
      have e1 : (p :: ps).getD 1 [] = ps.getD 0 [] := by cases ps <;> rfl
      have e2 : (p :: ps).drop 2 = ps.drop 1 := by simp
      rw [e1, e2, nm_ref]
      simp only [Bool.and_eq_true, decide_eq_true_eq, Bool.not_eq_true', List.contains_eq_mem, decide_eq_false_iff_not, okPairs_ref, List.length_cons, absSt]
      constructor
      · rintro ⟨⟨h1, h2, h3, h4, _⟩, h5, h6⟩
        exact ⟨by omega, ⟨⟨h2, h6⟩, by omega⟩, h3, h4⟩
      · rintro ⟨h1, ⟨⟨h2, h6⟩, h5⟩, h3, h4⟩
        exact ⟨⟨by omega, h2, h3, h4, by simp⟩, by omega, h6⟩
    by_cases hok : tabOk kwsAll st ps
    · rw [if_pos hok, if_pos (hiff.2 hok)]
      simp only [Option.map_some, absSt, Option.some.injEq, RSt.mk.injEq, true_and, Prod.mk.injEq, and_true]
      exact (cols_ref _ hok.2.2.1).symm
    · rw [if_neg hok, if_neg (fun h => hok (hiff.1 h))]; rfl
  · rw [if_neg hp, if_neg hp]
    by_cases hr : p = sRow
    · rw [if_pos hr, if_pos hr]
      unfold rowFits absSt
      cases hl : st.last with
      | none => rfl
      | some t =>
        simp only [Option.map_some]
        by_cases h1 : ps.length = t.cols.length ∧ t.rows ≠ 12
        · rw [if_pos (by rw [List.length_map]; exact h1)]
          simp only
          rw [row_ref ps t.cols hne]
          by_cases h2 : rowOk ps t.cols = true
          · rw [if_pos h2, if_pos ⟨h1, h2⟩]; rfl
          · rw [if_neg h2, if_neg (fun h => h2 h.2)]; rfl
        · rw [if_neg (by rw [List.length_map]; exact h1), if_neg (fun h => h1 h.1)]; rfl
    · rw [if_neg hr, if_neg hr]; rfl

/-- a field with a quote behind its first byte -/
def badField (y : Bg.Str) : Prop := y.head? ≠ some 39 ∧ 39 ∈ y
theorem tw_split : ∀ s : Bg.Str, (s.drop (s.takeWhile fun c => c ≠ 32 && c ≠ 39).length = [] ∧ (Bg.till 32 s).length = (s.takeWhile fun c => c ≠ 32 && c ≠ 39).length) ∨
    (∃ r, s.drop (s.takeWhile fun c => c ≠ 32 && c ≠ 39).length = 32 :: r ∧ (Bg.till 32 s).length = (s.takeWhile fun c => c ≠ 32 && c ≠ 39).length) ∨
    (∃ r, s.drop (s.takeWhile fun c => c ≠ 32 && c ≠ 39).length = 39 :: r ∧ 39 ∈ s.take (Bg.till 32 s).length)
  | [] => .inl ⟨rfl, rfl⟩
  | c :: s => by
    unfold Bg.till
    by_cases h1 : c = 32
    · subst h1; exact .inr (.inl ⟨s, rfl, rfl⟩)
    · by_cases h2 : c = 39
      · subst h2
        refine .inr (.inr ⟨s, rfl, ?_⟩)
        rw [List.takeWhile_cons, if_pos (by decide)]
        simp
      · rw [List.takeWhile_cons, if_pos (by simp [h1, h2]), List.takeWhile_cons, if_pos (by simpa using h1)]
        simp only [List.length_cons, List.drop_succ_cons, List.take_succ_cons]
        rcases tw_split s with ⟨h3, h4⟩ | ⟨r, h3, h4⟩ | ⟨r, h3, h4⟩
        · exact .inl ⟨h3, by unfold Bg.till at h4; omega⟩
        · exact .inr (.inl ⟨r, h3, by unfold Bg.till at h4; omega⟩)
        · exact .inr (.inr ⟨r, h3, List.mem_cons_of_mem _ h4⟩)
theorem fields_blank (s : Bg.Str) : fieldsOf (32 :: s) = fieldsOf s := by
  have h0 := Bg.trimL_cons_blank s
  cases h : Bg.trimL s with
  | nil => rw [fields_nil h, fields_nil (h0.trans h)]
  | cons c r =>
    cases hl : fieldLen (c :: r) with
    | none => rw [fields_none h hl, fields_none (h0.trans h) hl]
    | some n => rw [fields_step h hl, fields_step (h0.trans h) hl]
theorem fields_empty : fieldsOf [] = some [] := fields_nil Bg.trimL_nil
theorem fields_ref (f : Nat) : ∀ s : Bg.Str, s.length < f →
    (∀ l, Bg.piecesN f s = some l → fieldsOf s = some l) ∧ (Bg.piecesN f s = none → ∀ l, fieldsOf s = some l → ∃ y ∈ l, badField y) := by
  induction f with
  | zero => intro s h; omega
  | succ f ih =>
    intro s hs
    cases s with
    | nil =>
      rw [Bg.piecesN, fields_empty]
      exact ⟨fun l h => h, fun h => by cases h⟩
    | cons c r =>
      rw [Bg.piecesN]
      by_cases h32 : c = 32
      · subst h32
        rw [if_pos rfl, fields_blank]
        exact ih r (by simpa using hs)
      · rw [if_neg h32]
        have ht := Bg.trimL_cons c r h32
        have hple := Bg.pieceLen_le (c :: r)
        by_cases h39 : c = 39
        · subst h39
          have epl : Bg.pieceLen (39 :: r) = (Bg.quoted (39 :: r)).2 := by simp [Bg.pieceLen]
          have efl : fieldLen (39 :: r) = if 0 < Bg.pieceLen (39 :: r) ∧ (Bg.pieceLen (39 :: r) = (39 :: r).length ∨ (39 :: r)[Bg.pieceLen (39 :: r)]? = some 32) then some (Bg.pieceLen (39 :: r)) else none := by
            unfold fieldLen; rw [if_pos (by rfl), ← epl]
          generalize Bg.pieceLen (39 :: r) = n at hple efl ⊢
          by_cases h0 : n = 0
          · simp only [h0, if_true]
            rw [if_neg (by omega)] at efl
            rw [fields_none ht efl]
            exact ⟨fun l h => (by cases h), fun _ l h => by cases h⟩
          · simp only [h0, if_false]
            cases hd : (39 :: r).drop n with
            | nil =>
              have hn : n = (39 :: r).length := by
                have := congrArg List.length hd
                simp only [List.length_drop, List.length_nil] at this
                omega
              rw [if_pos ⟨by omega, .inl hn⟩] at efl
              rw [fields_step ht efl, hd, fields_empty]
              exact ⟨fun l h => h, fun h => by cases h⟩
            | cons d r' =>
              have hg : (39 :: r)[n]? = some d := by
                have := congrArg List.head? hd
                rw [List.head?_drop] at this
                simpa using this
              have hnl : n < (39 :: r).length := (List.getElem?_eq_some_iff.1 hg).1
              have hl' : (d :: r').length < f := by
                rw [← hd, List.length_drop]; simp only [List.length_cons] at hs hnl ⊢; omega
              by_cases hd32 : d = 32
              · rw [if_pos ⟨by omega, .inr (by rw [hg, hd32])⟩] at efl
                rw [fields_step ht efl, hd]
                simp only [hd32, if_true]
                have ih' := ih (32 :: r') (by rw [hd32] at hl'; exact hl')
                cases hp : Bg.piecesN f (32 :: r') with
                | none =>
                  refine ⟨fun l h => (by cases h), fun _ l h => ?_⟩
                  cases hf : fieldsOf (32 :: r') with
                  | none => rw [hf] at h; cases h
                  | some m =>
                    rw [hf] at h; cases h
                    obtain ⟨y, hy, hb⟩ := ih'.2 hp m hf
                    exact ⟨y, List.mem_cons_of_mem _ hy, hb⟩
                | some m =>
                  rw [ih'.1 m hp]
                  exact ⟨fun l h => h, fun h => by cases h⟩
              · rw [if_neg (by rw [hg]; intro h; rcases h.2 with h | h; omega; exact hd32 (Option.some.inj h))] at efl
                rw [fields_none ht efl]
                simp only [hd32, if_false]
                exact ⟨fun l h => (by cases h), fun _ l h => by cases h⟩
        · have epl : Bg.pieceLen (c :: r) = ((c :: r).takeWhile fun c => c ≠ 32 && c ≠ 39).length := by simp [Bg.pieceLen, h39]
          have efl : fieldLen (c :: r) = some (Bg.till 32 (c :: r)).length := by
            unfold fieldLen; rw [if_neg (by simpa using h39)]
          have hpos : Bg.pieceLen (c :: r) ≠ 0 := by rw [epl, List.takeWhile_cons, if_pos (by simp [h32, h39])]; simp
          have hsp := tw_split (c :: r)
          rw [← epl] at hsp
          generalize Bg.pieceLen (c :: r) = n at hple hpos hsp ⊢
          simp only [hpos, if_false]
          rw [fields_step ht efl]
          rcases hsp with ⟨h3, h4⟩ | ⟨r', h3, h4⟩ | ⟨r', h3, h4⟩
          · rw [h4, h3, fields_empty]
            exact ⟨fun l h => h, fun h => by cases h⟩
          · rw [h4, h3]
            have hl' : (32 :: r').length < f := by
              rw [← h3, List.length_drop]; simp only [List.length_cons] at hs ⊢; omega
            have ih' := ih (32 :: r') hl'
            simp only [if_true]
            cases hp : Bg.piecesN f (32 :: r') with
            | none =>
              refine ⟨fun l h => (by cases h), fun _ l h => ?_⟩
              cases hf : fieldsOf (32 :: r') with
              | none => rw [hf] at h; cases h
              | some m =>
                rw [hf] at h; cases h
                obtain ⟨y, hy, hb⟩ := ih'.2 hp m hf
                exact ⟨y, List.mem_cons_of_mem _ hy, hb⟩
            | some m =>
              rw [ih'.1 m hp]
              exact ⟨fun l h => h, fun h => by cases h⟩
          · rw [h3]
            simp only [show ¬ (39 : UInt8) = 32 from by decide, if_false]
            refine ⟨fun l h => by (first | cases h | simp at h), fun _ l h => ?_⟩
            cases hf : fieldsOf ((c :: r).drop (Bg.till 32 (c :: r)).length) with
            | none => rw [hf] at h; cases h
            | some m =>
              rw [hf] at h; cases h
              refine ⟨_, List.mem_cons_self, ?_, h4⟩
              have : 0 < (Bg.till 32 (c :: r)).length := by
                unfold Bg.till; rw [List.takeWhile_cons, if_pos (by simpa using h32)]; simp
              obtain ⟨k, hk⟩ : ∃ k, (Bg.till 32 (c :: r)).length = k + 1 := ⟨_, (Nat.succ_pred_eq_of_pos this).symm⟩
              rw [hk, List.take_succ_cons]
              simpa using h39

theorem bad_nm {y : Bg.Str} (h : badField y) : isNm kwsAll y = false := by
  rw [nm_ref]
  unfold Bg.isName
  have : (Bg.runs (Bg.letters ++ Bg.digits) y == y.length) = false := by
    rw [beq_eq_false_iff_ne]
    intro e
    have := runs_mem e h.2
    revert this; decide
  rw [this]; simp
theorem bad_ty {y : Bg.Str} (h : badField y) : tyOf y = none := by
  unfold tyOf
  rw [if_neg (fun e => by have := h.2; rw [e] at this; revert this; decide), if_neg (fun e => by have := h.2; rw [e] at this; revert this; decide)]
theorem bad_val {y : Bg.Str} (h : badField y) (t : Int) : valOk y t = false := by
  unfold valOk
  have e0 : (y == [110, 117, 108, 108]) = false := by
    rw [beq_eq_false_iff_ne]
    intro e; have := h.2; rw [e] at this; revert this; decide
  rw [e0, Bool.false_or]
  split
  · have hne : y ≠ [] := fun e => by have := h.2; rw [e] at this; cases this
    rw [numOk_ref y hne]
    simp only
    have hm : 39 ∈ (if decide (y.head? = some 45) = true then y.drop 1 else y) := by
      split
      · rename_i e
        cases y with
        | nil => exact absurd rfl hne
        | cons c r =>
          have hc : c = 45 := by simpa using e
          have := h.2
          rw [hc] at this
          simpa using this
      · exact h.2
    generalize (if decide (y.head? = some 45) = true then y.drop 1 else y) = d at hm ⊢
    have hle := Bg.runs_le Bg.digits d
    rw [if_pos]
    right
    apply Nat.lt_of_le_of_ne hle
    intro e
    have := runs_mem e hm
    revert this; decide
  · have := h.1
    simpa using this
theorem pairs_mem : ∀ (l : List Bg.Str), l.length % 2 = 0 → ∀ y ∈ l, ∃ q ∈ pairsOf l, y = q.1 ∨ y = q.2
  | [], _, y, h => by cases h
  | [_], h, _, _ => by simp at h
  | n :: t :: r, h, y, hy => by
    rw [pairsOf]
    rcases List.mem_cons.1 hy with rfl | hy
    · exact ⟨_, List.mem_cons_self, .inl rfl⟩
    · rcases List.mem_cons.1 hy with rfl | hy
      · exact ⟨_, List.mem_cons_self, .inr rfl⟩
      · obtain ⟨q, hq, e⟩ := pairs_mem r (by simp at h; omega) y hy
        exact ⟨q, List.mem_cons_of_mem _ hq, e⟩
theorem bad_code (st : St) (p : Bg.Str) (ps : List Bg.Str) (h : ∃ y ∈ p :: ps, badField y) : codePieces kwsAll st p ps = none := by
  obtain ⟨y, hy, hb⟩ := h
  unfold codePieces
  rcases List.mem_cons.1 hy with rfl | hy
  · rw [if_neg (fun e => by have := hb.2; rw [e] at this; revert this; decide), if_neg (fun e => by have := hb.2; rw [e] at this; revert this; decide)]
  · split
    · rw [if_neg]
      rintro ⟨h1, h2, h3, _⟩
      cases ps with
      | nil => cases hy
      | cons x l =>
        rcases List.mem_cons.1 hy with rfl | hy
        · unfold nameOk at h2
          rw [List.getD_cons_zero, bad_nm hb] at h2
          simp at h2
        · have hl : l.length % 2 = 0 := by
            have := of_decide_eq_true h1
            simp only [List.length_cons] at this
            omega
          obtain ⟨q, hq, e⟩ := pairs_mem l hl y hy
          have hok := List.all_eq_true.1 h3 q (by simpa using hq)
          unfold pairOk at hok
          rcases e with rfl | rfl
          · rw [bad_nm hb] at hok; simp at hok
          · rw [bad_ty hb] at hok; simp at hok
    · split
      · cases st.last with
        | none => rfl
        | some t =>
          simp only
          rw [if_neg]
          rintro ⟨⟨h1, _⟩, h2⟩
          obtain ⟨k, hk, rfl⟩ := List.mem_iff_getElem.1 hy
          rw [rowOk_false k hk (by omega) (bad_val hb _)] at h2
          cases h2
      · rfl
/-- a line: the program's step is the document's -/
theorem step_ref (st : St) (h8 : st.names.length ≤ 8) (x : Bg.Str) : refStep (absSt st) x = (codeStep kwsAll st x).map absSt := by
  have hf := fields_ref (x.length + 1) x (by omega)
  unfold refStep codeStep
  cases hp : Bg.pieces x with
  | none =>
    cases hl : fieldsOf x with
    | none => rfl
    | some l =>
      obtain ⟨y, hy, hb⟩ := hf.2 hp l hl
      cases l with
      | nil => cases hy
      | cons p ps =>
        simp only
        rw [bad_code st p ps ⟨y, hy, hb⟩]; rfl
  | some l =>
    rw [hf.1 l hp]
    cases l with
    | nil => rfl
    | cons p ps => exact pieces_ref st h8 p ps (fun y hy => (Bg.pieces_mem hp y (List.mem_cons_of_mem _ hy)).1)
theorem code_le8 {kws : List Bg.Str} {st st' : St} {x : Bg.Str} (h : codeStep kws st x = some st') (h8 : st.names.length ≤ 8) : st'.names.length ≤ 8 := by
  unfold codeStep at h
  split at h
  · cases h
  · cases h; exact h8
  · unfold codePieces at h
    split at h
    · split at h
      · rename_i hok
        cases h
        have := hok.2.1
        unfold nameOk at this
        simp only [Bool.and_eq_true, decide_eq_true_eq] at this
        simp
        omega
      · cases h
    · split at h
      · split at h
        · cases h
        · split at h
          · cases h; exact h8
          · cases h
      · cases h
theorem run_ref : ∀ (ls : List Bg.Str) (st : St) (k : Nat), st.names.length ≤ 8 → refRun (absSt st) k ls = codeRun kwsAll st k ls
  | [], _, _, _ => rfl
  | x :: ls, st, k, h8 => by
    rw [codeRun]
    cases hc : codeStep kwsAll st x with
    | none =>
      have := step_ref st h8 x
      rw [hc] at this
      exact refRun_none this
    | some st' =>
      have h1 := step_ref st h8 x
      rw [hc] at h1
      rw [refRun_some h1]
      exact run_ref ls st' (k + 1) (code_le8 hc h8)
end Go.Proofs.YtfkdfplnhlnnoaaGreatDoor
