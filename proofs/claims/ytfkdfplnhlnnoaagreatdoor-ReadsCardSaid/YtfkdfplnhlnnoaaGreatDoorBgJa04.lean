import Derived.Deep.LoopGhost
import Derived.LoopIn
import Derived.LoopNIn
import Derived.OwnWalkIn
import Derived.RangeFuncBound
import Derived.RangeFuncCalls
import Derived.RangeFuncLeaves
import Derived.RangeFuncNested
import Derived.Shelf.Abstract
import Derived.Shelf.RegionOpen
import Derived.TacticsInMore
import Derived.Test.YtfkdfplnhlnnoaaGreatDoorBgJa01
import Derived.Test.YtfkdfplnhlnnoaaGreatDoorBgJa03
section
namespace Go.Proofs.YtfkdfplnhlnnoaaGreatDoor
namespace Gr
set_option linter.unusedSimpArgs false
set_option linter.unusedVariables false
theorem rtw_app (s r : Bg.Str) (h : (32 : UInt8) ∉ s) : (s ++ 32 :: r).takeWhile (fun c => c != 32) = s := by
  induction s with
  | nil => rfl
  | cons c s ih =>
    have hc : c ≠ 32 := fun e => h (by rw [e]; simp)
    rw [List.cons_append, List.takeWhile_cons, if_pos (by simpa using hc), ih (fun e => h (List.mem_cons_of_mem _ e))]
theorem rkey_chk1 : ((List.range 124).all fun i => (Bg.reserved.drop i).head? != some 32 || (keyToks.map Prod.fst).contains ((Bg.reserved.drop (i + 1)).takeWhile fun c => c != 32)) = true := by decide +kernel
theorem rkey_chk2 : ((keyToks.map Prod.fst).all Bg.isKey) = true := by decide +kernel
theorem rkey_iff (s : Bg.Str) (h : (32 : UInt8) ∉ s) : Bg.isKey s = true ↔ s ∈ keyToks.map Prod.fst := by
  constructor
  · intro h1
    unfold Bg.isKey Bg.occ at h1
    obtain ⟨i, hi, he⟩ := List.any_eq_true.1 h1
    rw [List.mem_range] at hi
    have hl : Bg.reserved.length = 125 := rfl
    rw [hl] at hi
    simp only [List.length_cons, List.length_append, List.length_nil] at hi
    have he2 : (Bg.reserved.drop i).take (s.length + 2) = 32 :: (s ++ [32]) := by
      have := eq_of_beq he
      simpa using this
    have hd : Bg.reserved.drop i = 32 :: (s ++ [32]) ++ (Bg.reserved.drop i).drop (s.length + 2) := by rw [← he2, List.take_append_drop]
    have hd1 : Bg.reserved.drop (i + 1) = s ++ 32 :: (Bg.reserved.drop i).drop (s.length + 2) := by
      have : Bg.reserved.drop (i + 1) = (Bg.reserved.drop i).drop 1 := by rw [List.drop_drop]
      rw [this]
      conv => lhs; rw [hd]
      simp
    have hc := List.all_eq_true.1 rkey_chk1 i (by rw [List.mem_range]; omega)
    rw [hd1, rtw_app _ _ h, hd] at hc
    simpa using hc
  · intro h1
    exact List.all_eq_true.1 rkey_chk2 s h1
/-- the signs of one byte -/
def signSet : Bg.Str := [40, 41, 44, 46, 42, 43, 45, 47, 37, 61, 60, 62]
def two (s : Bg.Str) : Bool := s.take 2 == [60, 62] || s.take 2 == [60, 61] || s.take 2 == [62, 61]
def rNone : RW × Nat := (⟨[], [], 0⟩, 0)
def nLen (s : Bg.Str) : Nat := Bg.runs (Bg.letters ++ Bg.digits) s
def dLen (s : Bg.Str) : Nat := Bg.runs Bg.digits s
/-- the first word, and how many bytes it takes (0: there is none) -/
def rWord (s : Bg.Str) : RW × Nat :=
  if 0 < dLen s then
    (if (Bg.number (s.take (dLen s)) false).2 then (⟨kNum, [], (Bg.number (s.take (dLen s)) false).1⟩, dLen s) else rNone)
  else if 0 < nLen s then (⟨if Bg.isKey (s.take (nLen s)) then kKey else kName, s.take (nLen s), 0⟩, nLen s)
  else if s.head? = some 39 then (⟨kText, (Bg.quoted s).1, 0⟩, (Bg.quoted s).2)
  else if two s then (⟨kSign, s.take 2, 0⟩, 2)
  else if Bg.occ (s.take 1) signSet then (⟨kSign, s.take 1, 0⟩, 1)
  else rNone
def blank (c : UInt8) : Bool := c == 32 || c == 9 || c == 10
def lineLen (s : Bg.Str) : Nat := (s.takeWhile fun c => c != 10).length
/-- the words of a text from a place on; or the place at which what is none begins -/
def rWordsN (s : Bg.Str) : Nat → Nat → Except Nat (List RW)
  | 0, _ => .ok []
  | f + 1, i =>
    match s.drop i with
    | [] => .ok []
    | c :: r =>
      if blank c then rWordsN s f (i + 1)
      else if (c :: r).take 2 = [45, 45] then rWordsN s f (i + lineLen (c :: r))
      else if (rWord (c :: r)).2 = 0 then .error i
      else (rWordsN s f (i + (rWord (c :: r)).2)).map fun l => (rWord (c :: r)).1 :: l
def rWords (s : Bg.Str) : Except Nat (List RW) := if 400 < s.length then .error 400 else rWordsN s (s.length + 1) 0
theorem takeWhile_len (p : UInt8 → Bool) (s : Bg.Str) : (s.takeWhile p).length ≤ s.length := (List.takeWhile_sublist p).length_le
theorem rWord_le (c : UInt8) (r : Bg.Str) : (rWord (c :: r)).2 ≤ (c :: r).length := by
  unfold rWord rNone
  split
  · split
    · exact Bg.runs_le _ _
    · exact Nat.zero_le _
  · split
    · exact Bg.runs_le _ _
    · split
      · exact Bg.quoted_le c r
      · split
        · rename_i h
          unfold two at h
          cases r with
          | nil => exact absurd h (by simp)
          | cons d r => simp
        · split
          · simp
          · exact Nat.zero_le _
theorem runs_take (set : Bg.Str) : ∀ s : Bg.Str, ∀ x ∈ s.take (Bg.runs set s), set.contains x = true := by
  intro s
  unfold Bg.runs
  induction s with
  | nil => intro x hx; simp at hx
  | cons c s ih =>
    intro x hx
    rw [List.takeWhile_cons] at hx
    split at hx
    · rename_i h
      rw [List.length_cons, List.take_succ_cons] at hx
      rcases List.mem_cons.1 hx with rfl | hx
      · exact h
      · exact ih x hx
    · simp at hx
set_option maxRecDepth 10000 in
theorem rWord_ok (s : Bg.Str) (hne : s ≠ []) (h : (rWord s).2 ≠ 0) : Ok1 (rWord s).1 := by
  unfold rWord at h ⊢
  split
  · rename_i h1
    rw [if_pos h1] at h
    split
    · exact .inr (.inr (.inr (.inl rfl)))
    · rename_i h2
      rw [if_neg h2] at h
      exact absurd rfl h
  · rename_i h1
    rw [if_neg h1] at h
    split
    · by_cases hk : Bg.isKey (s.take (nLen s)) = true
      · refine .inl ⟨by show (if Bg.isKey (s.take (nLen s)) = true then kKey else kName) = kKey; rw [if_pos hk], ?_⟩
        refine (rkey_iff _ (fun hx => ?_)).1 hk
        exact absurd (runs_take _ s _ hx) (by decide)
      · refine .inr (.inr (.inl ?_))
        show (if Bg.isKey (s.take (nLen s)) = true then kKey else kName) = kName
        rw [if_neg hk]
    · rename_i h2
      rw [if_neg h2] at h
      split
      · exact .inr (.inr (.inr (.inr rfl)))
      · rename_i h3
        rw [if_neg h3] at h
        split
        · rename_i h4
          refine .inr (.inl ⟨rfl, ?_⟩)
          unfold two at h4
          simp only [Bool.or_eq_true, beq_iff_eq] at h4
          show s.take 2 ∈ _
          rcases h4 with (e | e) | e <;> rw [e] <;> decide
        · rename_i h4
          rw [if_neg h4] at h
          split
          · rename_i h5
            refine .inr (.inl ⟨rfl, ?_⟩)
            show s.take 1 ∈ _
            cases s with
            | nil => exact absurd rfl hne
            | cons c r =>
              have hc : signSet.contains c = true := by
                simp only [List.take_succ_cons, List.take_zero] at h5
                rwa [Bg.occ_one] at h5
              have : ∀ x ∈ signSet, [x] ∈ signToks.map Prod.fst := by decide
              exact this c (by simpa using hc)
          · rename_i h5
            rw [if_neg h5] at h
            exact absurd rfl h
theorem rWordsN_ok (s : Bg.Str) (f : Nat) : ∀ (i : Nat) (l : List RW), rWordsN s f i = .ok l → (∀ w ∈ l, Ok1 w) ∧ l.length + i ≤ max i s.length := by
  induction f with
  | zero => intro i l h; unfold rWordsN at h; cases h; exact ⟨fun w hw => (by cases hw), by simp; omega⟩
  | succ f ih =>
    intro i l h
    unfold rWordsN at h
    split at h
    · cases h; exact ⟨fun w hw => (by cases hw), by simp; omega⟩
    · rename_i c r e
      have hl := congrArg List.length e
      rw [List.length_drop] at hl
      simp only [List.length_cons] at hl
      split at h
      · obtain ⟨h1, h2⟩ := ih _ _ h
        exact ⟨h1, by omega⟩
      · split at h
        · obtain ⟨h1, h2⟩ := ih _ _ h
          have := takeWhile_len (fun c => c != 10) (c :: r)
          unfold lineLen at h2
          simp only [List.length_cons] at this
          exact ⟨h1, by omega⟩
        · split at h
          · cases h
          · rename_i h0
            cases hr : rWordsN s f (i + (rWord (c :: r)).2) with
            | error e => rw [hr] at h; cases h
            | ok l' =>
              rw [hr] at h
              cases h
              obtain ⟨h1, h2⟩ := ih _ _ hr
              have hle := rWord_le c r
              simp only [List.length_cons] at hle ⊢
              refine ⟨fun w hw => ?_, by omega⟩
              rcases List.mem_cons.1 hw with rfl | hw
              · exact rWord_ok _ (by simp) h0
              · exact h1 w hw
theorem rWords_ok {s : Bg.Str} {l : List RW} (h : rWords s = .ok l) : (∀ w ∈ l, Ok1 w) ∧ l.length ≤ s.length ∧ s.length ≤ 400 := by
  unfold rWords at h
  split at h
  · cases h
  · obtain ⟨h1, h2⟩ := rWordsN_ok s _ _ _ h
    exact ⟨h1, by omega, by omega⟩
/-- enough fuel is enough -/
theorem rWordsN_fuel (s : Bg.Str) (f : Nat) : ∀ (g i : Nat), s.length - i < f → s.length - i < g → rWordsN s f i = rWordsN s g i := by
  induction f with
  | zero => intro g i h; omega
  | succ f ih =>
    intro g i h1 h2
    cases g with
    | zero => omega
    | succ g =>
      unfold rWordsN
      split
      · rfl
      · rename_i c r e
        have hl := congrArg List.length e
        rw [List.length_drop] at hl
        simp only [List.length_cons] at hl
        split
        · exact ih g _ (by omega) (by omega)
        · rename_i hb
          split
          · have : 1 ≤ lineLen (c :: r) := by
              unfold lineLen
              rw [List.takeWhile_cons, if_pos]
              · simp
              · unfold blank at hb; simp at hb ⊢; exact hb.2
            exact ih g _ (by omega) (by omega)
          · split
            · rfl
            · rename_i h0
              rw [ih g _ (by omega) (by omega)]
/-- the end of a line -/
theorem lineLen_at {s : Bg.Str} {j : Nat} (hj : j ≤ s.length) (he : ∀ (hq : j < s.length), s[j] = 10) : ∀ (n i : Nat), j = i + n → (∀ q, i ≤ q → q < j → ∀ (hq : q < s.length), s[q] ≠ 10) → lineLen (s.drop i) = j - i := by
  intro n
  unfold lineLen
  induction n with
  | zero =>
    intro i e _
    obtain rfl : j = i := by omega
    by_cases hl : j < s.length
    · rw [List.drop_eq_getElem_cons hl, List.takeWhile_cons, if_neg (by rw [he hl]; decide)]; simp
    · rw [List.drop_eq_nil_of_le (by omega)]; simp
  | succ n ih =>
    intro i e h
    have hl : i < s.length := by omega
    have hne := h i (Nat.le_refl _) (by omega) hl
    rw [List.drop_eq_getElem_cons hl, List.takeWhile_cons, if_pos (by simpa using hne), List.length_cons, ih (i + 1) (by omega) (fun q h1 h2 hq => h q (by omega) h2 hq)]
    omega
theorem rw_end {s : Bg.Str} {i : Nat} (h : s.length ≤ i) : rWordsN s (s.length + 1) i = .ok [] := by
  unfold rWordsN; rw [List.drop_eq_nil_of_le h]
theorem rw_cons {s : Bg.Str} {i : Nat} (h : i < s.length) : rWordsN s (s.length + 1) i = if blank s[i] then rWordsN s (s.length + 1) (i + 1) else if (s.drop i).take 2 = [45, 45] then rWordsN s (s.length + 1) (i + lineLen (s.drop i)) else if (rWord (s.drop i)).2 = 0 then .error i else (rWordsN s (s.length + 1) (i + (rWord (s.drop i)).2)).map fun l => (rWord (s.drop i)).1 :: l := by
  conv => lhs; unfold rWordsN
  rw [List.drop_eq_getElem_cons h]
  simp only
  split
  · exact rWordsN_fuel s _ _ _ (by omega) (by omega)
  · rename_i hb
    split
    · have : 1 ≤ lineLen (s[i] :: s.drop (i + 1)) := by
        unfold lineLen
        rw [List.takeWhile_cons, if_pos]
        · simp
        · unfold blank at hb; simp at hb ⊢; exact hb.2
      exact rWordsN_fuel s _ _ _ (by omega) (by omega)
    · split
      · rfl
      · rename_i h0
        rw [rWordsN_fuel s s.length (s.length + 1) _ (by omega) (by omega)]
end Gr
end Go.Proofs.YtfkdfplnhlnnoaaGreatDoor
end
section
namespace Go.Proofs.YtfkdfplnhlnnoaaGreatDoor
open Go.RowKit
namespace Gr
set_option linter.unusedSimpArgs false
set_option linter.unusedVariables false
theorem blank_iff (c : UInt8) : blank c = (((c.toNat : Int) == 32 || (c.toNat : Int) == 9) || (c.toNat : Int) == 10) := by
  have := Bg.all_u8 (p := fun c => blank c == (((c.toNat : Int) == 32 || (c.toNat : Int) == 9) || (c.toNat : Int) == 10)) (by decide +kernel) c
  simpa using this
set_option maxRecDepth 10000 in
set_option maxHeartbeats 400000 in
theorem w_isSpace (c : UInt8) (w : World) :
    Calls Tryz.prog 102 #[.int .u8 c.toNat] w fun e w' => e = .returned (.bool (blank c)) ∧ w = w' := by
  have HB : Hid (blank c = (((c.toNat : Int) == 32 || (c.toNat : Int) == 9) || (c.toNat : Int) == 10)) := blank_iff c
  go_enter Tryz.func102, Tryz.ntmps102
  go_wp2
  all_goals
    go_ret
    refine ⟨ret_bool ?_, rfl⟩
    rw [HB.out]
    try simp [*]
/-- what gap counts: words read from behind it are the same, and what stands there is a word's beginning -/
structure GapOk (rest : Bg.Str) (n : Nat) : Prop where
  le : n ≤ rest.length
  same : ∀ (s : Bg.Str) (i : Nat), s.drop i = rest → rWordsN s (s.length + 1) (i + n) = rWordsN s (s.length + 1) i
structure GapEnd (rest : Bg.Str) (n : Nat) : Prop extends GapOk rest n where
  stop : ∀ h : n < rest.length, blank rest[n] = false ∧ (rest.drop n).take 2 ≠ [45, 45]
theorem drop_at {s rest : Bg.Str} {i n : Nat} (h : s.drop i = rest) (hn : n < rest.length) : ∃ hl : i + n < s.length, s[i + n] = rest[n] ∧ s.drop (i + n) = rest.drop n := by
  subst h
  rw [List.length_drop] at hn
  refine ⟨by omega, ?_, by rw [List.drop_drop]⟩
  simp
theorem GapOk.sp {rest : Bg.Str} {n : Nat} (h : GapOk rest n) (hn : n < rest.length) (hb : blank rest[n] = true) : GapOk rest (n + 1) := by
  refine ⟨by omega, fun s i e => ?_⟩
  obtain ⟨hl, e1, e2⟩ := drop_at e hn
  rw [← h.same s i e, rw_cons hl, e1, if_pos hb]; rfl
theorem GapOk.ln {rest : Bg.Str} {n : Nat} (h : GapOk rest n) (hn : n < rest.length) (hb : blank rest[n] = false) (hc : (rest.drop n).take 2 = [45, 45]) : GapOk rest (n + lineLen (rest.drop n)) := by
  have hle : lineLen (rest.drop n) ≤ (rest.drop n).length := takeWhile_len _ _
  rw [List.length_drop] at hle
  refine ⟨by omega, fun s i e => ?_⟩
  obtain ⟨hl, e1, e2⟩ := drop_at e hn
  rw [← h.same s i e, rw_cons hl, e1, if_neg (by rw [hb]; simp), e2, if_pos hc, Nat.add_assoc]
theorem pre2 (s : Bg.Str) (a b : UInt8) : Lib.hasPrefix s [a, b] = (s.take 2 == [a, b]) := by
  rcases s with _ | ⟨c, _ | ⟨d, r⟩⟩
  · simp [Lib.hasPrefix, List.isPrefixOf]
  · simp [Lib.hasPrefix, List.isPrefixOf]
  · simp [Lib.hasPrefix, List.isPrefixOf, Bool.beq_comm (a := c), Bool.beq_comm (a := d)]
set_option maxRecDepth 10000 in
set_option maxHeartbeats 1000000 in
theorem w_gap (rest : Bg.Str) (w : World) (hs : rest.length ≤ 400) :
    Calls Tryz.prog 73 #[.string ⟨rest.toArray⟩] w fun e w' => (∃ n : Nat, e = .returned (.int .i64 n) ∧ GapEnd rest n) ∧ w = w' := by
  have hex := Bg.ext_mk
  go_enter Tryz.func73, Tryz.ntmps73
  go_wp2_with fail
  go_loopg [3] (rest.length + 1) (fun gk iv wr => ∃ k : Nat, gk = rest.length - k + 1 ∧ k ≤ rest.length ∧ iv = .int .i64 k ∧ w = wr ∧ Hid (GapOk rest k))
  case atStart => exact ⟨0, by omega, by omega, rfl, rfl, ⟨by omega, fun s i e => rfl⟩⟩
  case round =>
    obtain ⟨k, rfl, hk, rfl, rfl, hg⟩ := hrel
    by_cases hlt : k < rest.length
    · have hsz : k < (ByteArray.mk rest.toArray).size := hlt
      go_wp2_with fail
      refine (w_isSpace ((ByteArray.mk rest.toArray)[k]'hsz) _).mono ?_
      rintro e w' ⟨rfl, rfl⟩
      cases hb : blank ((ByteArray.mk rest.toArray)[k]'hsz) with
      | true =>
        have HG : Hid (GapOk rest (k + 1)) := hg.out.sp hlt hb
        clear hb
        go_wp2_with fail
        go_roundg (rest.length - (k + 1) + 1)
        case measure => omega
        case rel => exact ⟨k + 1, rfl, by omega, by exact vint (by omega), rfl, HG⟩
      | false =>
        have HB : Hid (blank rest[k] = false) := hb
        clear hb
        have HT : Hid (List.take (List.length rest - k) (List.drop k rest) = rest.drop k) := by show _ = _; rw [List.take_of_length_le (by rw [List.length_drop]; omega)]
        go_wp2_with fail
        rw [HT.out]
        refine (Tryz.strings_HasPrefix _ _ _).mono ?_
        rintro e w' ⟨rfl, hw⟩
        obtain rfl := hw.symm
        rw [show (ByteArray.mk (rest.drop k).toArray).data.toList = rest.drop k from rfl, show (ByteArray.mk #[45, 45]).data.toList = [45, 45] from rfl, pre2]
        cases hc : ((rest.drop k).take 2 == [45, 45]) with
        | true =>
          have HC : Hid ((rest.drop k).take 2 = [45, 45]) := by show _ = _; simpa using hc
          have HG : Hid (GapOk rest (k + lineLen (rest.drop k))) := hg.out.ln hlt HB.out HC.out
          have hll : 1 ≤ lineLen (rest.drop k) := by
            have h1 := HC.out
            cases hd : rest.drop k with
            | nil => rw [hd] at h1; simp at h1
            | cons c r =>
              rw [hd] at h1
              unfold lineLen
              have : c = 45 := by
                cases r with
                | nil => simp at h1
                | cons d r => simp at h1; exact h1.1
              rw [List.takeWhile_cons, if_pos (by rw [this]; decide)]; simp
          have hle := HG.out.le
          clear hc
          go_wp2_with fail
          rw [HT.out]
          refine (w_run_inl (rest.drop k) _ (by rw [List.length_drop]; omega)).mono ?_
          rintro e w' ⟨rfl, rfl⟩
          rw [show ((rest.drop k).takeWhile Bg.inl).length = lineLen (rest.drop k) from rfl]
          generalize lineLen (rest.drop k) = m at HG hll hle ⊢
          go_wp2_with fail
          go_roundg (rest.length - (k + m) + 1)
          case measure => omega
          case rel => exact ⟨k + m, rfl, by omega, by exact vint (by omega), rfl, HG⟩
        | false =>
          have HC : Hid ((rest.drop k).take 2 ≠ [45, 45]) := by show _ ≠ _; simpa using hc
          clear hc
          go_wp2_with fail
          go_ret
          exact ⟨⟨k, rfl, hg.out, fun _ => ⟨HB.out, HC.out⟩⟩, rfl⟩
    · go_wp2_with fail
      go_ret
      exact ⟨⟨k, rfl, hg.out, fun h => absurd h hlt⟩, rfl⟩
end Gr
end Go.Proofs.YtfkdfplnhlnnoaaGreatDoor
end
section
namespace Go.Proofs.YtfkdfplnhlnnoaaGreatDoor
open Go.RowKit
set_option linter.unusedSimpArgs false
set_option linter.unusedVariables false
/-- what is asked at a round's end: it went off its end, or it panicked -/
def roundP (P : Program) (l : Nat) (R : Ending → World → Prop) : Exit → Act → World → Prop
  | .normal, _, w => ∃ v w', (Instr.endRound l none).run P w = .ok v w' ∧ R (.returned v) w'
  | .panic ch, a, w => a.defers = [] ∧ R (.panicked ch) w
  | _, _, _ => False
theorem roundIn_p {F : Fence} {n : Nat} {P : Program} {l : Nat} {f : FuncId} {fn : Func} {tmps : Array Value} {assign body : Code} {w : World} {R : Ending → World → Prop} (hF : F.fn f) (hfn : P.funcs[f]? = some fn)
    (h : assign.wpIn (F.inRound l) n P (Exit.then (fun a₁ w₁ => ∃ w₂, (Instr.beginRound l).run P w₁ = .ok () w₂ ∧ body.wpIn (F.inRound l) n P (roundP P l R) a₁ w₂) (fun _ _ _ => False))
      { tmps := tmps, defers := [] } w) :
    RoundIn F n P l f tmps assign body w R := by
  refine ⟨hF, fun c cs hr => ?_⟩
  let b : Frame := { (default : Frame) with fn := f, kind := .normal, roundOf := some l }
  have hb0 : Frame.round l f tmps assign body .normal = b.atR { tmps := tmps, defers := [] } [.code assign, .beginRound, .code body] := by
    simp [Frame.round, Frame.atR, b]
  have hr' : (F.inRound l).room ((c :: cs).length + 1 + n) := hr
  have hF' : (F.inRound l).fn b.fn := hF
  obtain ⟨e, a₁, w₁, hq, harr⟩ := h b [.beginRound, .code body] (c :: cs) rfl hF' hr'
  rw [← hb0] at harr
  cases e with
  | normal =>
    obtain ⟨w₂, hbr, hbody⟩ := hq
    have s1 := StepsIn.one (I := Machine.fenced P (F.inRound l)) (fenced_calm (fr := b.atR a₁ [.beginRound, .code body]) hF' hr' rfl) (stepR_beginRound (cs := c :: cs) rfl hbr)
    obtain ⟨e₂, a₂, w₃, hq₂, harr₂⟩ := hbody b [] (c :: cs) rfl hF' hr'
    cases e₂ with
    | normal =>
      obtain ⟨v, w₄, hend, hR⟩ := hq₂
      exact ⟨.returned v, w₄, hR, (StepsIn.trans harr s1).trans (StepsIn.trans harr₂ (.one (fenced_calm (fr := b.atR a₂ []) hF' hr' rfl) (stepR_round_end rfl rfl hend)))⟩
    | panic ch =>
      obtain ⟨hd, hR⟩ := hq₂
      obtain ⟨todo, hs⟩ := harr₂
      have hl : ({ b.atR a₂ todo with mode := .panicking ch } : Frame).leaving P w₃ (.panicked ch) := ⟨rfl, hd, fn, hfn⟩
      have i1 : (lone { b.atR a₂ todo with mode := .panicking ch } (c :: cs) w₃).fenced P (F.inRound l) := fenced_leaving (n := n) hF' hr' hl
      exact ⟨.panicked ch, w₃, hR, (StepsIn.trans harr s1).trans (StepsIn.trans hs (.one i1 (step_leave_panicked hl)))⟩
    | ret => exact hq₂.elim
    | exit id => exact hq₂.elim
    | goto t => exact hq₂.elim
    | outgrown => exact hq₂.elim
  | exit id => exact hq.elim
  | goto t => exact hq.elim
  | ret => exact hq.elim
  | panic chain => exact hq.elim
  | outgrown => exact hq.elim
/-- 'wp', of a frame of the function bf alone -/
def wpB (bf : FuncId) (P : Program) (c : Code) (Q : Exit → Act → World → Prop) (a : Act) (w : World) : Prop :=
  ∀ (b : Frame) (k : List Item) (cs : List Frame), b.roundOf = none → b.fn = bf →
    ∃ e a' w', Q e a' w' ∧ ArrivesIn (Machine.fenced P Fence.wide) P (lone (b.atR a (.code c :: k)) cs w) b k cs e a' w'
section
variable {bf : FuncId} {P : Program} {Q : Exit → Act → World → Prop} {a : Act} {w : World}
theorem wide_room (m : Nat) : Fence.wide.room m := by intro d hd; cases hd
theorem wpB_wp {c : Code} (h : c.wp P Q a w) : wpB bf P c Q a w := fun b k cs hro _ => (wpIn_wide (n := 0)).2 h b k cs hro trivial (wide_room _)
theorem wpB_seq {x y : Code} (h : wpB bf P x (Exit.then (wpB bf P y Q) Q) a w) : wpB bf P (Code.seq x y) Q a w := by
  intro b k cs hro hb
  have h0 : (lone (b.atR a (.code (.seq x y) :: k)) cs w).fenced P Fence.wide := fenced_calm (n := 0) trivial (wide_room _) rfl
  obtain ⟨e, a₁, w₁, hq, harr⟩ := h b (.code y :: k) cs hro hb
  cases e with
  | normal =>
    obtain ⟨e₂, a₂, w₂, hq₂, harr₂⟩ := hq b k cs hro hb
    exact ⟨e₂, a₂, w₂, hq₂, .of_steps (.head h0 stepR_seq harr) harr₂⟩
  | exit id => exact ⟨_, a₁, w₁, hq, .of_steps (.one h0 stepR_seq) (.pass (x := .code y) rfl (fun _ _ => .inl (by simp)) harr)⟩
  | goto l => exact ⟨_, a₁, w₁, hq, .of_steps (.one h0 stepR_seq) (.pass (x := .code y) rfl (fun _ _ => .inl (by simp)) harr)⟩
  | ret => exact ⟨_, a₁, w₁, hq, .of_steps (.one h0 stepR_seq) (.pass (x := .code y) rfl (fun _ _ => .inl (by simp)) harr)⟩
  | panic ch => exact ⟨_, a₁, w₁, hq, .of_steps (.one h0 stepR_seq) (.pass (x := .code y) rfl (fun _ _ => .inl (by simp)) harr)⟩
  | outgrown => exact ⟨_, a₁, w₁, hq, .of_steps (.one h0 stepR_seq) (.pass (x := .code y) rfl (fun _ _ => .inl (by simp)) harr)⟩
/-- the loop's record, as it is laid -/
def recOf (fn : FuncId) (tmps : Array Value) (ps : Array Tmp) (assign body : Code) (D : Nat) (st : LoopState) : Loop := { state := st, pending := none, fn := fn, tmps := tmps, params := ps, assign := assign, body := body, defers := D }
/-- the world in which the iterator is called -/
def rangeW (w : World) (fn : FuncId) (tmps : Array Value) (ps : Array Tmp) (assign body : Code) : World := (w.alloc (.deferred (some []))).alloc (.loop (recOf fn tmps ps assign body w.heap.size .ready))
/-- the statement 'for .. := range g { .. }', its record laid at w.heap.size + 1 -/
theorem wpB_range {g : Operand} {ps : Array Tmp} {assign body : Code} {gf : FuncId} {lb : Array Value} (hg : a.eval g = .func (.func gf) #[] lb) (eg : ∀ (args : Array Value) (w : World), (callFunc gf args).run P w = .ok (.enter gf args) w)
    (h : Calls P gf (#[.func (.yield (w.heap.size + 1)) #[] #[]] ++ lb) (rangeW w bf a.tmps ps assign body) fun e w3 =>
      match e with
      | .returned _ => w3.heap[w.heap.size + 1]? = some (.loop (recOf bf a.tmps ps assign body w.heap.size .ready)) ∧
          Q .normal { a with defers := { target := .collected w.heap.size, args := #[] } :: a.defers } (w3.putObj (w.heap.size + 1) (.loop (recOf bf a.tmps ps assign body w.heap.size .exhausted)))
      | .panicked ch => Q (.panic ch) { a with defers := { target := .collected w.heap.size, args := #[] } :: a.defers } w3
      | .outgrown => LetsOut Q) :
    wpB bf P (Code.rangeFunc g ps assign body) Q a w := by
  intro b k cs hro hb
  subst hb
  obtain ⟨_, hcall⟩ := (callsIn_wide (n := 0)).2 h
  have he : (Instr.enterLoop b.fn a.tmps ps assign body b.roundOf).run P w = .ok (w.heap.size + 1, [{ target := .collected w.heap.size, args := #[] }]) (rangeW w b.fn a.tmps ps assign body) := by
    rw [hro]; exact run_enterLoop_outer _ _ _ _ _
  have hres : (resolve a.eval (rangeCall g (w.heap.size + 1)) 0).run P (rangeW w b.fn a.tmps ps assign body) = .ok { target := .fn (.func gf) lb, args := #[.func (.yield (w.heap.size + 1)) #[] #[]] } (rangeW w b.fn a.tmps ps assign body) := by
    simp only [resolve, hg]
    simp [go_sem]
  have hinv : (invoke (.fn (.func gf) lb) #[.func (.yield (w.heap.size + 1)) #[] #[]]).run P (rangeW w b.fn a.tmps ps assign body) = .ok (.enter gf (#[.func (.yield (w.heap.size + 1)) #[] #[]] ++ lb)) (rangeW w b.fn a.tmps ps assign body) := by
    simp [invoke, go_sem, eg]
  have henter := stepR_rangeFunc (P := P) (b := b) (a := a) (k := k) (cs := cs) (w := w) he hres hinv
  obtain ⟨e, w₃, fr, hR, hsteps, hfn, hleave⟩ := hcall (b.atR { a with defers := [{ target := .collected w.heap.size, args := #[] }] ++ a.defers } (.inRangeFunc (w.heap.size + 1) :: k) :: cs) (wide_room _)
  cases e with
  | outgrown =>
    obtain ⟨a₀, w₀, hq⟩ := hR
    exact ⟨.outgrown, a₀, w₀, hq, .inr (Outgrown.of_steps (.one henter) hsteps)⟩
  | returned v =>
    obtain ⟨hl, hQ⟩ := hR
    have hend := run_endLoop (P := P) hl (by simp [recOf])
    refine ⟨.normal, _, _, hQ, ?_⟩
    refine .head (fenced_wide _ _) henter (StepsIn.trans hsteps (.head (fenced_wide _ _) ?_ (.one (fenced_wide _ _) (stepR_endRangeFunc hend))))
    rw [← finish_atR_inRangeFunc (w.heap.size + 1) v]; exact step_leave_returned hleave
  | panicked chain =>
    refine ⟨.panic chain, _, w₃, hR, .inRangeFunc (w.heap.size + 1) :: k, .head (fenced_wide _ _) henter (StepsIn.trans hsteps (.one (fenced_wide _ _) ?_))⟩
    rw [← Frame.raise_atR]; exact step_leave_panicked hleave
/-- a function's contract, from its body's, where the body holds such a loop -/
theorem calls_of_wpB {f : FuncId} {fn : Func} {c : Code} {args : Array Value} {R : Ending → World → Prop} (hf : P.funcs[f]? = some fn) (hb : fn.body = some c)
    (h : wpB f P c (bodyPostM Fence.wide 0 P fn R) { tmps := args ++ Array.replicate (fn.ntmps - args.size) undef, defers := [] } w) : Calls P f args w R := by
  refine (callsIn_wide (n := 0)).1 ⟨trivial, fun cs hr => ?_⟩
  let b : Frame := { (default : Frame) with fn := f, kind := .normal, roundOf := none }
  have henter : Frame.enter P f args .normal = b.atR { tmps := args ++ Array.replicate (fn.ntmps - args.size) undef, defers := [] } [.code c] := by
    simp [Frame.enter, Frame.atR, hf, hb, b]
  obtain ⟨e, a', w', hq, harr⟩ := h b [] cs rfl rfl
  rw [← henter] at harr
  cases e with
  | normal =>
    obtain ⟨e', w'', fr', hR, hs, hfn, hl⟩ := leaves_stepsInM a'.defers .returning w' { b.atR a' [] with mode := .returning } cs rfl rfl rfl hf rfl trivial hr hq
    exact ⟨e', w'', fr', hR, ComesIn.of_steps (StepsIn.trans harr (.one (fenced_wide _ _) (stepR_end rfl))) hs, hfn, hl⟩
  | ret =>
    obtain ⟨todo, hs₀⟩ := harr.1 rfl
    obtain ⟨e', w'', fr', hR, hs, hfn, hl⟩ := leaves_stepsInM a'.defers .returning w' { b.atR a' todo with mode := .returning } cs rfl rfl rfl hf rfl trivial hr hq
    exact ⟨e', w'', fr', hR, ComesIn.of_steps hs₀ hs, hfn, hl⟩
  | panic chain =>
    obtain ⟨todo, hs₀⟩ := harr
    obtain ⟨e', w'', fr', hR, hs, hfn, hl⟩ := leaves_stepsInM a'.defers (.panicking chain) w' { b.atR a' todo with mode := .panicking chain } cs rfl rfl rfl hf rfl trivial hr hq
    exact ⟨e', w'', fr', hR, ComesIn.of_steps hs₀ hs, hfn, hl⟩
  | exit id => exact hq.elim
  | goto l => exact hq.elim
  | outgrown => exact ⟨.outgrown, w', b, hq, harr.resolve_left (by simp [b]), rfl, trivial⟩
end
end Go.Proofs.YtfkdfplnhlnnoaaGreatDoor
end
