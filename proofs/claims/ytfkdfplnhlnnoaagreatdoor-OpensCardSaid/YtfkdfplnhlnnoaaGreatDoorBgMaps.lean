/- Maps keyed by texts, as the list of their keys: whatever their elements are. -/
import Derived.Test.YtfkdfplnhlnnoaaGreatDoorBgWordsB
import Derived.Maps.OwnSet
namespace Go.Proofs.YtfkdfplnhlnnoaaGreatDoor
open Go.RowKit
set_option linter.unusedSimpArgs false
set_option linter.unusedVariables false

def anyElem (_ : Value) : Option (DataW Unit × List MemPlace) := some (.agg [], [])
def keyL (s : Bg.Str) : Lit := .string s
def keyD (ks : List Bg.Str) : DataW Unit := Maps.setOf (.agg []) (ks.map keyL)
/-- block b is a map of at most n entries whose keys are ks -/
def keyset (w : World) (b n : Nat) (ks : List Bg.Str) : Prop := w.ownsMap Tryz.prog 9 anyElem b n (keyD ks)
theorem strKeyed : Maps.Keyed Tryz.prog 9 := Maps.string_keyed Tryz.underlying9
theorem strKey (s : Bg.Str) (h : s.length ≤ 100000) : keyOf Tryz.prog 9 (.string ⟨s.toArray⟩) = some (keyL s) :=
  WideMaps.keyOf_string_mk Tryz.underlying9 (by rw [Bg.size_mk]; unfold maxLen; omega)
theorem keyL_is (ks : List Bg.Str) : ∀ x ∈ ks.map keyL, WideAt.IsKeyLit x := by
  intro x hx
  obtain ⟨s, _, rfl⟩ := List.mem_map.1 hx
  trivial
theorem has_keys (ks : List Bg.Str) (s : Bg.Str) : Maps.has (keyD ks) (keyL s) = ks.contains s := by
  unfold keyD
  rw [Maps.has_setOf _ _ _ (keyL_is ks), List.any_map, List.contains_eq_any_beq]
  congr 1
  funext x
  show (x == s) = (s == x)
  rw [Bool.eq_iff_iff, beq_iff_eq, beq_iff_eq]; exact eq_comm
theorem put_keys (ks : List Bg.Str) (s : Bg.Str) : (keyD ks).put (keyL s) (.agg []) = keyD (ks ++ [s]) := by
  unfold keyD
  rw [List.map_append, List.map_cons, List.map_nil, Maps.setOf_snoc]
/-- the keys, each once -/
def addStr (acc : List Bg.Str) (x : Bg.Str) : List Bg.Str := if acc.contains x then acc else acc ++ [x]
def dedup (ks : List Bg.Str) : List Bg.Str := ks.foldl addStr []
theorem addKey_map (acc : List Bg.Str) (x : Bg.Str) : Maps.addKey (acc.map keyL) (keyL x) = (addStr acc x).map keyL := by
  unfold Maps.addKey addStr
  have : (acc.map keyL).any (fun y => y.sameKey (keyL x)) = acc.contains x := by
    rw [List.any_map, List.contains_eq_any_beq]
    congr 1
    funext y
    show (y == x) = (x == y)
    rw [Bool.eq_iff_iff, beq_iff_eq, beq_iff_eq]; exact eq_comm
  rw [this]
  split <;> simp
theorem fold_map (ks : List Bg.Str) : ∀ acc : List Bg.Str, (ks.map keyL).foldl Maps.addKey (acc.map keyL) = (ks.foldl addStr acc).map keyL := by
  induction ks with
  | nil => intro acc; rfl
  | cons k r ih => intro acc; rw [List.map_cons, List.foldl_cons, List.foldl_cons, addKey_map, ih]
theorem size_keys (ks : List Bg.Str) : Maps.size (keyD ks) = (dedup ks).length := by
  unfold keyD dedup
  rw [Maps.size_setOf _ _ (keyL_is ks)]
  have := fold_map ks []
  rw [List.map_nil] at this
  rw [this, List.length_map]
theorem dedup_len (ks : List Bg.Str) : ∀ acc : List Bg.Str, (ks.foldl addStr acc).length ≤ acc.length + ks.length ∧ ((ks.foldl addStr acc).length = acc.length + ks.length ↔ (∀ k ∈ ks, acc.contains k = false) ∧ ks.Nodup) := by
  induction ks with
  | nil => intro acc; simp
  | cons k r ih =>
    intro acc
    rw [List.foldl_cons]
    have h := ih (addStr acc k)
    by_cases hk : acc.contains k = true
    · have e : addStr acc k = acc := by unfold addStr; rw [if_pos hk]
      rw [e] at h ⊢
      refine ⟨by simp; omega, ⟨fun hl => by simp at hl; omega, fun ⟨h1, _⟩ => ?_⟩⟩
      have := h1 k (by simp)
      rw [hk] at this; cases this
    · have e : addStr acc k = acc ++ [k] := by unfold addStr; rw [if_neg hk]
      rw [e] at h ⊢
      simp only [List.length_append, List.length_cons, List.length_nil] at h ⊢
      refine ⟨by omega, ?_⟩
      rw [show acc.length + (r.length + 1) = acc.length + (0 + 1) + r.length from by omega, h.2, List.nodup_cons]
      constructor
      · rintro ⟨h1, h2⟩
        refine ⟨?_, ?_, h2⟩
        · intro x hx
          rcases List.mem_cons.1 hx with rfl | hx
          · simpa using hk
          · have := h1 x hx; simp at this ⊢; exact this.1
        · intro hm
          have := h1 k hm; simp at this
      · rintro ⟨h1, h2, h3⟩
        refine ⟨?_, h3⟩
        intro x hx
        have h4 := h1 x (List.mem_cons_of_mem _ hx)
        simp at h4 ⊢
        exact ⟨h4, fun e => h2 (e ▸ hx)⟩
theorem dedup_nodup (ks : List Bg.Str) : (dedup ks).length = ks.length ↔ ks.Nodup := by
  have := (dedup_len ks []).2
  unfold dedup
  simpa using this
theorem dedup_le (ks : List Bg.Str) : (dedup ks).length ≤ ks.length := by
  have := (dedup_len ks []).1
  unfold dedup
  simpa using this
end Go.Proofs.YtfkdfplnhlnnoaaGreatDoor
