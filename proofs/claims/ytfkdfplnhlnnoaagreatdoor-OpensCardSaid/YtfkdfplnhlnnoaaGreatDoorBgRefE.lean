/- The document's answer (package bagsref): find, headed. -/
import Derived.Test.YtfkdfplnhlnnoaaGreatDoorBgRefD
import Derived.Deep.QuietTactic
import Derived.BigQuiet
import Derived.Deep.AppendLies
import Derived.Deep.RegionHeld3
import Derived.Deep.RegionLaw
namespace Go.Proofs.YtfkdfplnhlnnoaaGreatDoor
open Go.RowKit
set_option linter.unusedSimpArgs false
set_option linter.unusedVariables false

/-- a slice of tables, of which the names are to be read -/
def viewN (W : World) (v : Value) (l : List Bg.Str) : Prop :=
  ∃ a cap, v = .slice a l.length cap ∧ ∀ i (h : i < l.length), ∃ g o, a = some ⟨g, o, none⟩ ∧ W.cell? ⟨g, o + i * 4, none⟩ = some (strV l[i])

/-- what find answers -/
def findOk (l : List Bg.Str) (s : Bg.Str) (r : Int) : Prop := (s ∈ l → 0 ≤ r) ∧ (s ∉ l → r = -1)

set_option maxRecDepth 100000 in
set_option maxHeartbeats 400000 in
theorem ref_find (v : Value) (l : List Bg.Str) (s : Bg.Str) (W : World) (hl : l.length ≤ 90000) (hv : viewN W v l) :
    Calls Tryz.prog 16 #[v, .string ⟨s.toArray⟩] W fun e W' => ∃ r : Int, e = .returned (.int .i64 r) ∧ findOk l s r ∧ Below W.heap.size W W' := by
  obtain ⟨a, cap, rfl, hc⟩ := hv
  have HC : Hid (∀ i (h : i < l.length), ∃ g o, a = some ⟨g, o, none⟩ ∧ W.cell? ⟨g, o + i * 4, none⟩ = some (strV l[i])) := hc
  cases a with
  | none =>
    obtain rfl : l = [] := by
      cases l with
      | nil => rfl
      | cons x l => obtain ⟨g, o, h, _⟩ := hc 0 (by simp); cases h
    clear hc HC
    go_enter Tryz.func16, Tryz.ntmps16
    go_wp2
    go_loop [5] (fun i => i = .int .i64 0) (fun i => 0)
    case atStart => rfl
    case round =>
      obtain rfl := hrel
      go_wp2
      go_ret
      exact ⟨_, rfl, ⟨(fun h => by cases h), fun _ => rfl⟩, Below.refl _ _⟩
  | some ad =>
    obtain ⟨g, o, nx⟩ := ad
    clear hc
    go_enter Tryz.func16, Tryz.ntmps16
    go_wp2
    go_loopw [5] (fun i wr => ∃ k : Nat, k ≤ l.length ∧ i = .int .i64 k ∧ (∃ n, wr = W.drewN n) ∧ Hid (∀ j, j < k → (h : j < l.length) → l[j] ≠ s)) (fun i _ => l.length - (intOf i).toNat)
    case atStart => exact ⟨0, by omega, rfl, ⟨0, rfl⟩, by intro j hj; omega⟩
    case round =>
      obtain ⟨k, hk, rfl, ⟨n, rfl⟩, hn⟩ := hrel
      by_cases hlt : k < l.length
      · obtain ⟨g1, o1, e1, hcf⟩ := HC.out k hlt
        cases e1
        have cf : W.cell? ⟨g, o + k * 4, none⟩ = some (.string ⟨l[k].toArray⟩) := hcf
        clear hcf
        go_wp2
        · have he : (l[k] == s) = true := by assumption
          go_ret
          refine ⟨_, rfl, ?_, ⟨rfl, rfl, rfl, Nat.le_refl _, fun _ _ => rfl⟩⟩
          exact ⟨fun _ => by omega, fun h => absurd (by rw [← (beq_iff_eq.1 he)]; exact List.getElem_mem hlt) h⟩
        · have he : (l[k] == s) = false := by assumption
          refine ⟨⟨k + 1, by omega, by go_num, ⟨_, rfl⟩, ?_⟩, by simp [intOf] <;> omega⟩
          intro j hj hl2
          by_cases hjk : j = k
          · subst hjk; simpa using he
          · exact hn.out j (by omega) hl2
      · go_wp2
        go_ret
        refine ⟨_, rfl, ?_, ⟨rfl, rfl, rfl, Nat.le_refl _, fun _ _ => rfl⟩⟩
        refine ⟨fun h => ?_, fun _ => rfl⟩
        obtain ⟨j, hj, e⟩ := List.getElem_of_mem h
        exact absurd e (hn.out j (by omega) hj)

theorem own_view {W : World} {B : Nat} {v : Value} {l : List Bg.Str} (h : W.ownsRow B 9 1 v l.length (l.map strV)) : viewS W v l := by
  rcases h.2 with ⟨rfl, h0⟩ | ⟨g, cap, cur, rfl, _⟩
  · obtain rfl : l = [] := List.length_eq_zero_iff.1 h0
    exact ⟨none, 0, rfl, fun i hi => by cases hi⟩
  · refine ⟨some ⟨g, 0, none⟩, cap, rfl, fun i hi => ⟨g, 0, rfl, ?_⟩⟩
    have := h.cells (g := g) rfl i (strV l[i]) (by simp [List.getElem?_eq_getElem hi])
    rw [Addr.add_lit] at this
    exact this
theorem viewS.drew {W : World} {v : Value} {l : List Bg.Str} (h : viewS W v l) (n : Nat) : viewS (W.drewN n) v l := by
  obtain ⟨a, cap, rfl, hc⟩ := h
  exact ⟨a, cap, rfl, fun i hi => by obtain ⟨g, o, ha, h1⟩ := hc i hi; exact ⟨g, o, ha, h1⟩⟩
theorem own_ne {w : World} {B e sz n : Nat} {v : Value} {xs : List Value} (h : w.ownsRow B e sz v n xs) {T : Nat} {cs : Array Value} {e' : TypeId} {fr : Nat × Nat} (hT : w.heap[T]? = some (.cells cs e' fr)) (hne : e ≠ e') : some T ≠ v.ownBlock := by
  intro e1
  rcases h.2 with ⟨rfl, _⟩ | ⟨g, cap, cu, rfl, hb, hh, r⟩
  · cases e1
  · cases e1
    rw [hT] at hh
    exact hne (by injection hh with h1; injection h1 with _ h2; exact h2.symm)
theorem cells4 {w : World} {T : Nat} {a b c d : Value} {ty : TypeId} (h : w.heap[T]? = some (.cells #[a, b, c, d] ty (0, 0))) :
    w.cell? ⟨T, 0, none⟩ = some a ∧ w.cell? ⟨T, 1, none⟩ = some b ∧ w.cell? ⟨T, 2, none⟩ = some c ∧ w.cell? ⟨T, 3, none⟩ = some d ∧ (∀ k, w.frozen? ⟨T, k, none⟩ = false) :=
  ⟨by simp [World.cell?, h], by simp [World.cell?, h], by simp [World.cell?, h], by simp [World.cell?, h], fun k => by simp [World.frozen?, h]⟩
/-- the columns' names and types behind a table's name -/
def pairsOf : List Bg.Str → List (Bg.Str × Bg.Str)
  | n :: t :: r => (n, t) :: pairsOf r
  | _ => []
def okPairs (seen : List Bg.Str) : List (Bg.Str × Bg.Str) → Bool
  | [] => true
  | (n, t) :: r => Bg.isName n && !seen.contains n && (t == sInt || t == sText) && okPairs (seen ++ [n]) r
def headLen (n : Nat) : Bool := decide (4 ≤ n ∧ n % 2 = 0 ∧ n ≤ 14)

end Go.Proofs.YtfkdfplnhlnnoaaGreatDoor
