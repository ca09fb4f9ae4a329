import Derived.Test.YtfkdfplnhlnnoaaGreatDoorBgPrD
namespace Go.Proofs.YtfkdfplnhlnnoaaGreatDoor
open Go.RowKit
namespace Gr
set_option linter.unusedSimpArgs false
set_option linter.unusedVariables false
theorem print_all (M N : Nat) (t : Tr) : PrintOK M N t ∧ ∀ x ∈ elems t, PrintOK M N x := by
  induction t with
  | nil => exact ⟨fun W v hp hg => (by rw [Good] at hg; exact hg.elim), fun x hx => (by simp [elems] at hx)⟩
  | cons a t ih1 ih2 =>
    refine ⟨fun W v hp hg => (by rw [Good] at hg; exact hg.elim), fun x hx => ?_⟩
    rcases List.mem_cons.1 hx with rfl | hx
    · exact ih1.1
    · exact ih2.2 x hx
  | node f k i fr g w h ik ii ifr ig iw ih =>
    refine ⟨fun W v hp hg => ?_, fun x hx => (by simp [elems] at hx)⟩
    have hp' := hp
    rw [ptr_node] at hp'
    obtain ⟨b, _, _, _, _, _, _, rfl, _⟩ := hp'
    exact ref_Print1 M N f k i fr g w h W b hp hg ik.2 (fun w' hB => ref_selected M N f k i fr g w h w' b (hp.keep (Keep.of_below hB)) hg ii.2 ifr.2 ig.2 iw.1 ih.1)
/-- a tree's print is its text -/
theorem ref_Print (M N : Nat) (t : Tr) (v : Value) (W : World) (hp : PtrAt M N W t v) (hg : Good t) :
    Calls Tryz.prog 10 #[v] W fun e w' => e = .returned (.string ⟨(pr t).toArray⟩) ∧ Below W.heap.size W w' := (print_all M N t).1 W v hp hg
end Gr
end Go.Proofs.YtfkdfplnhlnnoaaGreatDoor
