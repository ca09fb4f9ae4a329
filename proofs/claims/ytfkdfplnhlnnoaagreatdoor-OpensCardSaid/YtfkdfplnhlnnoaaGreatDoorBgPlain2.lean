/- PLAIN FACTS, the second text: lines, pieces. -/
import Derived.Test.YtfkdfplnhlnnoaaGreatDoorBgPlain
namespace Go.Proofs.YtfkdfplnhlnnoaaGreatDoor
open Go.RowKit
namespace Bg

/-- the lines of a text, cur of the first one being gone -/
def linesFrom (cur : Str) : Str → List Str
  | [] => [cur]
  | c :: r => if c = 10 then cur :: linesFrom [] r else linesFrom (cur ++ [c]) r
def lines (s : Str) : List Str := linesFrom [] s
theorem linesFrom_nl (cur r : Str) : linesFrom cur (10 :: r) = cur :: linesFrom [] r := by rw [linesFrom]; rfl
theorem linesFrom_other (cur : Str) (c : UInt8) (r : Str) (h : c ≠ 10) : linesFrom cur (c :: r) = linesFrom (cur ++ [c]) r := by rw [linesFrom, if_neg h]
theorem linesFrom_len (s : Str) : ∀ cur, (linesFrom cur s).length ≤ s.length + 1 := by
  induction s with
  | nil => intro cur; simp [linesFrom]
  | cons c r ih =>
    intro cur
    rw [linesFrom]
    have h1 := ih []
    have h2 := ih (cur ++ [c])
    split <;> simp <;> omega
theorem take_snoc (s : Str) (f k : Nat) (hf : f ≤ k) (hk : k < s.length) : (s.drop f).take (k - f) ++ [s[k]] = (s.drop f).take (k + 1 - f) := by
  have h : k - f < (s.drop f).length := by simp; omega
  rw [show k + 1 - f = (k - f) + 1 from by omega, List.take_succ_eq_append_getElem h]
  congr 2
  rw [List.getElem_drop]; congr 1; omega

/-- how many bytes the first piece of s takes (s begins with no blank; it is not empty): 0: it is none -/
def pieceLen (s : Str) : Nat :=
  match s with
  | [] => 0
  | c :: _ => if c = 39 then (quoted s).2 else (s.takeWhile fun c => c ≠ 32 && c ≠ 39).length
/-- what stands in a line with blanks between -/
def piecesN : Nat → Str → Option (List Str)
  | 0, _ => some []
  | _ + 1, [] => some []
  | f + 1, c :: r =>
    if c = 32 then piecesN f r
    else
      let n := pieceLen (c :: r)
      if n = 0 then none
      else match (c :: r).drop n with
        | [] => some [(c :: r).take n]
        | d :: r' => if d = 32 then (piecesN f (d :: r')).map ((c :: r).take n :: ·) else none
def pieces (s : Str) : Option (List Str) := piecesN (s.length + 1) s

theorem quo_leN (m : Nat) : ∀ (l : Str), l.length ≤ m → ∀ acc n, (quo acc n l).2 ≤ n + l.length := by
  induction m with
  | zero =>
    intro l hl acc n
    obtain rfl : l = [] := by cases l <;> simp_all
    rw [quo_nil]; simp
  | succ m ih =>
    intro l hl acc n
    cases l with
    | nil => rw [quo_nil]; simp
    | cons c r =>
      simp only [List.length_cons] at hl ⊢
      by_cases h1 : c = 10
      · subst h1; rw [quo_nl]; simp
      · by_cases h2 : c = 39
        · subst h2
          by_cases h3 : ∃ r', r = 39 :: r'
          · obtain ⟨r', rfl⟩ := h3
            rw [quo_two]
            simp only [List.length_cons] at hl ⊢
            have := ih r' (by omega) (acc ++ [39]) (n + 2)
            omega
          · rw [quo_end _ _ _ (fun r' e => h3 ⟨r', e⟩)]; simp <;> omega
        · rw [quo_plain _ _ _ _ h1 h2]
          have := ih r (by omega) (acc ++ [c]) (n + 1)
          omega
theorem quoted_le (c : UInt8) (r : Str) : (quoted (c :: r)).2 ≤ (c :: r).length := by
  have := quo_leN r.length r (Nat.le_refl _) [] 1
  unfold quoted
  simp only [List.drop_succ_cons, List.drop_zero, List.length_cons]
  omega
theorem pieceLen_le (s : Str) : pieceLen s ≤ s.length := by
  unfold pieceLen
  cases s with
  | nil => simp
  | cons c r =>
    simp only
    split
    · exact quoted_le c r
    · exact (List.takeWhile_sublist _).length_le
theorem piecesN_fuel (f : Nat) : ∀ (l : Str) (g : Nat), l.length < f → l.length < g → piecesN f l = piecesN g l := by
  induction f with
  | zero => intro l g h; omega
  | succ f ih =>
    intro l g hf hg
    obtain ⟨g, rfl⟩ : ∃ g', g = g' + 1 := ⟨g - 1, by omega⟩
    cases l with
    | nil => rw [piecesN, piecesN]
    | cons c r =>
      simp only [List.length_cons] at hf hg
      rw [piecesN, piecesN]
      by_cases h32 : c = 32
      · rw [if_pos h32, if_pos h32]; exact ih r g (by omega) (by omega)
      · rw [if_neg h32, if_neg h32]
        by_cases h0 : pieceLen (c :: r) = 0
        · simp only [h0, if_pos]
        · simp only [h0, if_false]
          cases hd : (c :: r).drop (pieceLen (c :: r)) with
          | nil => rfl
          | cons d r' =>
            have hl : (d :: r').length = (c :: r).length - pieceLen (c :: r) := by rw [← hd]; simp
            simp only [List.length_cons] at hl
            simp only
            split
            · rw [ih (d :: r') g (by simp; omega) (by simp; omega)]
            · rfl
theorem pieces_nil : pieces [] = some [] := by unfold pieces; rfl
theorem pieces_blank (r : Str) : pieces (32 :: r) = pieces r := by
  unfold pieces
  rw [List.length_cons, piecesN, if_pos rfl]
theorem pieces_none (c : UInt8) (r : Str) (h : c ≠ 32) (h0 : pieceLen (c :: r) = 0) : pieces (c :: r) = none := by
  unfold pieces
  rw [List.length_cons, piecesN, if_neg h]
  simp only [h0, if_pos]
theorem pieces_bad (c : UInt8) (r : Str) (h : c ≠ 32) (d : UInt8) (r' : Str) (hd : (c :: r).drop (pieceLen (c :: r)) = d :: r') (hn : d ≠ 32) : pieces (c :: r) = none := by
  by_cases h0 : pieceLen (c :: r) = 0
  · exact pieces_none c r h h0
  · unfold pieces
    rw [List.length_cons, piecesN, if_neg h]
    simp only [h0, if_false, hd, hn]
theorem pieces_step (c : UInt8) (r : Str) (h : c ≠ 32) (h0 : pieceLen (c :: r) ≠ 0) (hd : ∀ d r', (c :: r).drop (pieceLen (c :: r)) = d :: r' → d = 32) :
    pieces (c :: r) = (pieces ((c :: r).drop (pieceLen (c :: r)))).map ((c :: r).take (pieceLen (c :: r)) :: ·) := by
  have hl : ((c :: r).drop (pieceLen (c :: r))).length ≤ r.length := by simp; omega
  unfold pieces
  rw [List.length_cons, piecesN, if_neg h]
  simp only [h0, if_false]
  cases hx : (c :: r).drop (pieceLen (c :: r)) with
  | nil => rfl
  | cons d r' =>
    rw [hx] at hl
    have := hd d r' hx
    simp only [this, if_pos]
    rw [← this, piecesN_fuel (r.length + 1) (d :: r') ((d :: r').length + 1) (by omega) (by omega)]
theorem plain_run (s : Str) (m : Nat) (hm : m ≤ s.length) (h : ∀ j, (hj : j < m) → s[j] ≠ 32 ∧ s[j] ≠ 39) (he : ∀ (h' : m < s.length), s[m] = 32 ∨ s[m] = 39) : (s.takeWhile fun c => c ≠ 32 && c ≠ 39).length = m := by
  induction s generalizing m with
  | nil => simp at hm; simp [hm]
  | cons c r ih =>
    cases m with
    | zero =>
      have := he (by simp)
      simp only [List.getElem_cons_zero] at this
      rw [List.takeWhile_cons, if_neg (by rcases this with h | h <;> simp [h])]; rfl
    | succ m =>
      have h0 := h 0 (by omega)
      simp only [List.getElem_cons_zero] at h0
      rw [List.takeWhile_cons, if_pos (by simp [h0.1, h0.2])]
      simp only [List.length_cons]
      rw [ih m (by simpa using hm) (fun j hj => by have := h (j + 1) (by omega); simpa using this) (fun h' => by have := he (by simpa using h'); simpa using this)]
end Bg
end Go.Proofs.YtfkdfplnhlnnoaaGreatDoor
