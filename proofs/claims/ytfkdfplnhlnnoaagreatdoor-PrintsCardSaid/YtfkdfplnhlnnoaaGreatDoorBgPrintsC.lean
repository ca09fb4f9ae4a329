import Derived.Test.YtfkdfplnhlnnoaaGreatDoorBgJa47
import Derived.Test.YtfkdfplnhlnnoaaGreatDoorBgPrintsF
import Derived.Test.YtfkdfplnhlnnoaaGreatDoorTie
namespace Go.Proofs.YtfkdfplnhlnnoaaGreatDoor
open Go.ChangeShapes Go.WideShapes Go.ChangeAt Go.RowKit
namespace Prints
open Gr
set_option linter.unusedSimpArgs false
set_option linter.unusedVariables false
theorem laidOne : (Rows.printsRow.laid.filter fun x => x.2.handleName?.isSome) = [("errors.errorType", Rows.laid_errors_errorType)] := by kernel_rfl
theorem laidRest : (Rows.printsRow.laid.filter fun x => x.2.handleName?.isNone) = rest10 := by kernel_rfl
theorem start_of {W : World} (h : laidMetH Tryz.prog Rows.printsRow.laid W) (hG : 13 ≤ W.heap.size) : Gr.Start W := by
  unfold laidMetH at h
  rw [laidOne] at h
  obtain ⟨hp, hh⟩ := h
  rw [laidRest] at hp
  exact of_laid hp hh hG
set_option maxRecDepth 100000 in
/-- what the walk gives, for every argument and every world that holds the variables -/
theorem contract (H : Type) (enc : TypeId × Value → H) (W : World) (base : Nat) (args : Array Value) (ds gs : List (DataW H)) (before : List MemPlace)
    (hval : ∀ (j : Nat) t v, Tryz.f5.params[j]? = some t → args[j]? = some v → Value.okWide Tryz.prog W .any base t v)
    (hW : DataW.Whole enc Tryz.prog Tryz.f5.params.toList Rows.printsSpec.vars false W args.toList ds gs before) (hL : laidMetH Tryz.prog Rows.printsRow.laid W) (hG : 13 ≤ W.heap.size) :
    Calls Tryz.prog 5 args W fun e W' => ∃ v, e = .returned v ∧ Rows.printsSpec.post enc Tryz.prog Tryz.f5 false true false false W args v W' := by
  have hW' := hW
  obtain ⟨p, q, hA0, hV, rfl, hfz, hnd⟩ := hW
  have hA : DataW.TrodAll enc Tryz.prog W 0 (fun _ => true) true Tryz.f5.params.toList args.toList ds p := hA0
  rw [Tryz.params5] at hA hval
  obtain ⟨v0, d0, rfl, rfl, h0⟩ := trodAll_one hA
  obtain ⟨rfl, rfl⟩ := trodVars_none hV
  obtain ⟨s, rfl, rfl, rfl, hs⟩ := Go.ChangeMaps.open_string Tryz.underlying9 (hval 0 9 v0 rfl rfl) h0
  clear hA0
  simp only [List.append_nil] at hW'
  have hS := start_of hL hG
  have es : s = ⟨s.data.toList.toArray⟩ := by cases s; simp
  have walk : Calls Tryz.prog 5 #[.string s] W fun e W' => e = .returned (.bool true) ∧ Below W.heap.size W W' := by
    rw [es]
    exact prints_all s.data.toList W (by have e1 : s.size = s.data.size := rfl; have e2 : s.data.toList.length = s.data.size := Array.length_toList; unfold maxLen at hs; omega) hS
  refine walk.mono fun e W' ⟨he, hB⟩ => ?_
  subst he
  refine ⟨_, rfl, _, _, _, [], [], [], hW', ?_, ?_, rfl, hB.frame _, fun h => by cases h⟩
  · exact trodAll_mk1 (shut_bool Tryz.underlying4 true)
  · exact trodAll_mk1 (Go.ChangeMaps.shut_string Tryz.underlying9 hs)
set_option maxRecDepth 100000 in
theorem prints_lifted (os : Os) (started : os.Started) (H : Type) (enc : TypeId × Value → H) (F : Stop.Interp) :
    ReturnsInHanded {} Tryz.checked os 5 .any ((OpenSpec.ofChange Rows.printsSpec).preRow enc Tryz.prog Tryz.f5 Rows.printsRow.domain false Rows.printsRow.laid) (((OpenSpec.ofChange Rows.printsSpec).at F).post enc Tryz.prog Tryz.f5 false true false false) := by
  refine returnsInHanded_of_row (C := Tryz.checked) (s := OpenSpec.ofChange Rows.printsSpec) bgOwn started (by kernel_rfl) Tryz.func5 (wit os H enc) ?_
  intro W base args ds gs before hval hW _ _ _ hL hsh _
  have hG : 13 ≤ W.heap.size := by
    obtain ⟨cs, hc, _⟩ := hsh.1 (13 - 1) #[.pointer none] 211 (of_decide_eq_true (by kernel_rfl)) (by kernel_rfl)
    have := (Array.getElem?_eq_some_iff.1 hc).1
    omega
  exact contract H enc W base args ds gs before hval hW hL hG
theorem prints_said : Rows.PrintsSaid :=
  OpenClaim.holds_of_cond 5 Tryz.f5 rfl rfl rfl rfl rfl rfl rfl ⟨rfl, rfl, rfl, rfl, rfl⟩ rfl rfl rfl rfl rfl prints_named Tryz.func5 prints_closed prints_inst prints_wrap
    (fun os started H enc _ F => by rw [OpenClaim.pre_eq_preRow]; exact prints_lifted os started H enc F)
theorem prints_plain (f : FuncId) (fn : Func) (hf : Tryz.pinned.checked.prog.funcNamed "bags/bagslaw.Prints" = some f) (hfn : Tryz.pinned.checked.prog.funcs[f]? = some fn) :
    true = Tryz.pinned.checked.prog.looks [] ∧ ∀ (j : Nat) t, fn.params[j]? = some t → Tryz.pinned.checked.prog.wantsStandIn t = false := by
  obtain rfl : f = 5 := Option.some.inj ((show Tryz.prog.funcNamed "bags/bagslaw.Prints" = some 5 by kernel_rfl).symm.trans hf) |>.symm
  obtain rfl : fn = Tryz.f5 := (Option.some.inj (Tryz.func5.symm.trans hfn)).symm
  refine ⟨by kernel_rfl, fun j t ht => ?_⟩
  rw [Tryz.params5] at ht
  obtain rfl : t = 9 := by simpa using Array.mem_of_getElem? ht
  exact (show Tryz.prog.wantsStandIn 9 = false by kernel_rfl)
theorem prints_card0 : Rows.PrintsCardSaid :=
  Claim7.holds_tied_plain_at .later [] _ _ _ _ prints_said (fun _ h => by cases h) (by kernel_rfl) (fun _ h => by cases h) prints_row_tie rfl ⟨rfl, rfl⟩ (by kernel_rfl) rfl prints_plain (by kernel_rfl)
end Prints
theorem prints_card : Rows.PrintsCardSaid := Prints.prints_card0
#print axioms prints_card
end Go.Proofs.YtfkdfplnhlnnoaaGreatDoor
