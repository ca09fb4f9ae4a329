import Derived.Test.YtamfmffdgidmgaaGreatDoorBgJa04
import Derived.Test.YtamfmffdgidmgaaGreatDoorBgPrF
namespace Go.Proofs.YtamfmffdgidmgaaGreatDoor
namespace Gr
set_option linter.unusedSimpArgs false
set_option linter.unusedVariables false
open NT
theorem negNum_range : ∀ (s : Bg.Str) (n m : Int), (∀ c ∈ s, 48 ≤ c.toNat ∧ c.toNat ≤ 57) → -9223372036854775808 ≤ n → n ≤ 0 → Bg.negNum n s = some m → -9223372036854775808 ≤ m ∧ m ≤ 0
  | [], n, m, _, h1, h2, h => by unfold Bg.negNum at h; cases h; exact ⟨h1, h2⟩
  | c :: r, n, m, hd, h1, h2, h => by
    rw [Bg.negNum_cons] at h
    obtain ⟨d1, d2⟩ := hd c (by simp)
    split at h
    · cases h
    · rename_i hlt
      rw [Bg.tdiv_lo _ (by omega) (by omega)] at hlt
      exact negNum_range r _ m (fun x hx => hd x (by simp [hx])) (by omega) (by omega) h
theorem number_range {d : Bg.Str} (hd : ∀ c ∈ d, 48 ≤ c.toNat ∧ c.toNat ≤ 57) : -9223372036854775808 ≤ (Bg.number d false).1 ∧ (Bg.number d false).1 ≤ 9223372036854775807 := by
  cases h : Bg.negNum 0 d with
  | none => rw [Bg.number_none false h]; decide
  | some n =>
    obtain ⟨h1, h2⟩ := negNum_range d 0 n hd (by omega) (by omega) h
    rw [Bg.number_pos h]
    show -9223372036854775808 ≤ (if n = -9223372036854775808 then n else -n) ∧ (if n = -9223372036854775808 then n else -n) ≤ 9223372036854775807
    split <;> omega
theorem quo_text (m : Nat) : ∀ (l : Bg.Str), l.length ≤ m → ∀ acc n, (Bg.quo acc n l).1.length ≤ acc.length + l.length := by
  induction m with
  | zero =>
    intro l hl acc n
    cases l with
    | nil => rw [Bg.quo_nil]; simp
    | cons c r => simp at hl
  | succ m ih =>
    intro l hl acc n
    cases l with
    | nil => rw [Bg.quo_nil]; simp
    | cons c r =>
      simp only [List.length_cons] at hl ⊢
      by_cases h10 : c = 10
      · subst h10; rw [Bg.quo_nl]; simp
      · by_cases h39 : c = 39
        · subst h39
          cases r with
          | nil => rw [Bg.quo_end _ _ _ (fun r' e => by cases e)]; simp
          | cons d r =>
            by_cases hd : d = 39
            · subst hd
              rw [Bg.quo_two]
              have := ih r (by simp at hl; omega) (acc ++ [39]) (n + 2)
              simp at this ⊢; omega
            · rw [Bg.quo_end _ _ _ (fun r' e => by cases e; exact hd rfl)]; first | (simp; done) | (simp; omega)
        · rw [Bg.quo_plain _ _ _ _ h10 h39]
          have := ih r (by omega) (acc ++ [c]) (n + 1)
          simp at this; omega
theorem quoted_text (s : Bg.Str) : (Bg.quoted s).1.length ≤ s.length := by
  unfold Bg.quoted
  have := quo_text (s.drop 1).length (s.drop 1) (Nat.le_refl _) [] 1
  simp at this ⊢; omega
theorem rWord_wok (s : Bg.Str) (hs : s.length ≤ 400) : WOk (rWord s).1 := by
  unfold rWord
  split
  · split
    · refine ⟨by simp, ?_, ?_⟩
      · exact (number_range (fun c hc => Bg.digit_of (runs_take _ s c hc))).1
      · exact (number_range (fun c hc => Bg.digit_of (runs_take _ s c hc))).2
    · exact ⟨by simp [rNone], by simp [rNone], by simp [rNone]⟩
  · split
    · exact ⟨by show (s.take _).length ≤ 400; rw [List.length_take]; omega, by simp, by simp⟩
    · split
      · exact ⟨by have := quoted_text s; show (Bg.quoted s).1.length ≤ 400; omega, by simp, by simp⟩
      · split
        · exact ⟨by show (s.take _).length ≤ 400; rw [List.length_take]; omega, by simp, by simp⟩
        · split
          · exact ⟨by show (s.take _).length ≤ 400; rw [List.length_take]; omega, by simp, by simp⟩
          · exact ⟨by simp [rNone], by simp [rNone], by simp [rNone]⟩
theorem rWordsN_wok (s : Bg.Str) (hs : s.length ≤ 400) (f : Nat) : ∀ (i : Nat) (l : List RW), rWordsN s f i = .ok l → ∀ w ∈ l, WOk w := by
  induction f with
  | zero => intro i l h w hw; unfold rWordsN at h; cases h; cases hw
  | succ f ih =>
    intro i l h
    unfold rWordsN at h
    split at h
    · cases h; intro w hw; cases hw
    · rename_i c r e
      have hl := congrArg List.length e
      rw [List.length_drop] at hl
      split at h
      · exact ih _ _ h
      · split at h
        · exact ih _ _ h
        · split at h
          · cases h
          · cases hr : rWordsN s f (i + (rWord (c :: r)).2) with
            | error e => rw [hr] at h; cases h
            | ok l' =>
              rw [hr] at h
              cases h
              intro w hw
              rcases List.mem_cons.1 hw with rfl | hw
              · exact rWord_wok _ (by omega)
              · exact ih _ _ hr w hw
theorem rWords_wok {s : Bg.Str} {l : List RW} (h : rWords s = .ok l) : ∀ w ∈ l, WOk w := by
  unfold rWords at h
  split at h
  · cases h
  · exact rWordsN_wok s (by omega) _ _ _ h
/-- what the document reads, it can print -/
theorem read_good {s : Bg.Str} {l : List RW} {t : Tr} (h : rWords s = .ok l) (hd : D query l t) : Good t := by
  obtain ⟨_, h2, h3⟩ := rWords_ok h
  exact (hd.db (rWords_wok h) (by omega)).1.1
end Gr
end Go.Proofs.YtamfmffdgidmgaaGreatDoor
