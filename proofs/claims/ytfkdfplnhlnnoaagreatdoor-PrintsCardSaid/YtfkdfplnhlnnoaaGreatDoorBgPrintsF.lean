import Derived.Deep.DeepHandedRow
import Derived.JoinedCond
import Derived.LaidHandle
import Derived.LaidLaws
import Derived.LaidMore
import Derived.Lay
import Derived.Lib.LaidTab
import Derived.OpenShut
import Derived.ProofKit
import Derived.SevenTiedAt
import Derived.Stop.Joined
import Derived.Stop.LaidErr
import Derived.Test.YtfkdfplnhlnnoaaGreatDoorCards
namespace Go.Proofs.YtfkdfplnhlnnoaaGreatDoor
open Go.ChangeShapes Go.WideShapes Go.ChangeAt Go.RowKit
set_option maxRecDepth 100000
theorem p_andI {a b : Bool} (ha : a = true) (hb : b = true) : (a && b) = true := by rw [ha, hb]; rfl
theorem p_f1 : (Rows.printsRow.wf (OpenSpec.ofChange (OpenSpec.ofChange Rows.printsSpec).bare)) = true := by kernel_rfl
theorem p_f2 : (laidOutB Tryz.prog) = true := by kernel_rfl
theorem p_f3 : (mapsRowed Tryz.prog) = true := by kernel_rfl
theorem p_f4 : (Tryz.f5.params.all (Tryz.prog.readableRec ·)) = true := by kernel_rfl
theorem p_f5 : (namedTie Tryz.prog Rows.printsRow.named (OpenSpec.ofChange Rows.printsSpec).bare.vars) = true := by kernel_rfl
theorem p_f6 : ((Rows.printsRow.stops == [])) = true := by kernel_rfl
theorem p_f7 : ((Tryz.prog.stops == [])) = true := by kernel_rfl
theorem p_f8 : ((Rows.printsRow.knobs == [])) = true := by kernel_rfl
theorem p_f9 : ((Tryz.prog.stopKnobs == [])) = true := by kernel_rfl
theorem p_f10 : ((Rows.printsRow.inPlace == Tryz.prog.inPlace 5)) = true := by kernel_rfl
theorem p_f11 : ((Rows.printsRow.unfollowed == Tryz.prog.unfollowed 5)) = true := by kernel_rfl
theorem p_f12 : ((Rows.printsRow.recurses == Tryz.prog.recurses 5)) = true := by kernel_rfl
theorem p_f13 : ((Rows.printsRow.named == Tryz.prog.varsNamed 5)) = true := by kernel_rfl
theorem p_f14 : ((Rows.printsRow.maps == (Tryz.f5.params.toList ++ (OpenSpec.ofChange Rows.printsSpec).bare.plain.varTypes Tryz.prog).any (Tryz.prog.mapsRec ·))) = true := by kernel_rfl
theorem p_f15 : ((Rows.printsRow.ifaces == (Tryz.f5.params.toList ++ (OpenSpec.ofChange Rows.printsSpec).bare.plain.varTypes Tryz.prog).any (Tryz.prog.ifacesRec ·))) = true := by kernel_rfl
theorem p_f16 : ((Rows.printsRow.mapsOut == Tryz.prog.mapsAmong Tryz.f5.resultTypes.toList)) = true := by kernel_rfl
theorem p_f17 : ((Rows.printsRow.loops == (Tryz.f5.params.toList ++ (OpenSpec.ofChange Rows.printsSpec).bare.plain.varTypes Tryz.prog).any (Tryz.prog.loopsFrom ·))) = true := by kernel_rfl
theorem p_f18 : ((Rows.printsRow.wideKeys == (Tryz.f5.params.toList ++ (OpenSpec.ofChange Rows.printsSpec).bare.plain.varTypes Tryz.prog ++ Tryz.f5.resultTypes.toList).any (Tryz.prog.wideKeysFrom ·))) = true := by kernel_rfl
theorem p_f19 : ((OpenSpec.ofChange Rows.printsSpec).bare.vars.all (Tryz.prog.varReadable ·)) = true := by kernel_rfl
theorem p_f20 : (Tryz.f5.resultTypes.all (fun t => Tryz.prog.readableRec t && decide (t < Tryz.prog.types.size))) = true := by kernel_rfl
theorem p_f21 : ((Rows.printsRow.ifacesOut == Tryz.f5.resultTypes.toList.any (Tryz.prog.ifacesRec ·))) = true := by kernel_rfl
theorem p_f22 : ((Rows.printsRow.loopsOut == Tryz.f5.resultTypes.toList.any (Tryz.prog.loopsFrom ·))) = true := by kernel_rfl
theorem p_f23 : ((Rows.printsRow.plainKeys == Tryz.prog.plainKeys)) = true := by kernel_rfl
theorem p_f24 : (Rows.printsRow.shortTexts.isNone) = true := by kernel_rfl
theorem p_f25 : (Tryz.prog.stopsHeard) = true := by kernel_rfl
theorem p_f26 : (Tryz.prog.mayEnter) = true := by kernel_rfl
theorem p_f27 : ((Rows.printsRow.lifted == Tryz.prog.liftsFinal)) = true := by kernel_rfl
theorem p_f28 : ((Tryz.prog.make == some Rows.printsRow.make)) = true := by kernel_rfl
theorem p_f29 : ((Rows.printsRow.kinds == (if Rows.printsRow.domain.isEmpty then [] else Tryz.f5.params.toList.map fun t => match Tryz.prog.underlying t with | some (.int k) => some k | _ => none))) = true := by kernel_rfl
theorem p_f30 : ((Rows.printsRow.pinned == Rows.printsRow.pinnedBy)) = true := by kernel_rfl
theorem p_f31 : ((Rows.printsRow.veiled == (Tryz.f5.params.toList ++ (OpenSpec.ofChange Rows.printsSpec).bare.plain.varTypes Tryz.prog ++ Tryz.f5.resultTypes.toList).any (Tryz.prog.veiledRec ·))) = true := by kernel_rfl
theorem p_f32 : (Rows.printsRow.veiledFits Tryz.prog Tryz.f5.params.toList (Tryz.f5.params.toList ++ (OpenSpec.ofChange Rows.printsSpec).bare.plain.varTypes Tryz.prog ++ Tryz.f5.resultTypes.toList)) = true := by kernel_rfl
theorem prints_closed : joinedFacts Tryz.pinned.checked.prog 5 Tryz.f5 (OpenSpec.ofChange Rows.printsSpec).bare Rows.printsRow = true := p_andI (p_andI (p_andI (p_andI (p_andI (p_andI (p_andI (p_andI (p_andI (p_andI (p_andI (p_andI (p_andI (p_andI (p_andI (p_andI (p_andI (p_andI (p_andI (p_andI (p_andI (p_andI (p_andI (p_andI (p_andI (p_andI (p_andI (p_andI (p_andI (p_andI (p_andI p_f1 p_f2) p_f3) p_f4) p_f5) p_f6) p_f7) p_f8) p_f9) p_f10) p_f11) p_f12) p_f13) p_f14) p_f15) p_f16) p_f17) p_f18) p_f19) p_f20) p_f21) p_f22) p_f23) p_f24) p_f25) p_f26) p_f27) p_f28) p_f29) p_f30) p_f31) p_f32
theorem prints_named : Tryz.pinned.checked.prog.funcNamed Rows.printsRow.func = some 5 := by kernel_rfl
theorem prints_inst : Tryz.f5.isInstance Tryz.pinned.checked.prog Rows.printsRow.origin Rows.printsRow.targs := of_decide_eq_true (by kernel_rfl)
theorem prints_wrap : Tryz.f5.isWrapper Tryz.pinned.checked.prog Rows.printsRow.wrapper Rows.printsRow.mainSum := by
  unfold Func.isWrapper; first | (rw [if_pos (by decide +kernel)]; kernel_rfl) | (rw [if_neg (by decide +kernel)]; exact ⟨rfl, rfl⟩)
namespace Prints
theorem laid_rest : ((Rows.printsRow.laid.filter fun x => x.2.handleName?.isNone).filter fun x => ((Rows.printsRow.laid.filter fun x => x.2.handleName?.isNone).map (·.1)).contains x.1) = (Rows.printsRow.laid.filter fun x => x.2.handleName?.isNone) := List.filter_eq_self.2 fun x hx => List.contains_iff_mem.2 (List.mem_map.2 ⟨x, hx, rfl⟩)
theorem laid_none : ((Rows.printsRow.laid.filter fun x => x.2.handleName?.isNone).filter fun x => !((Rows.printsRow.laid.filter fun x => x.2.handleName?.isNone).map (·.1)).contains x.1) = [] := List.filter_eq_nil_iff.2 fun x hx => by rw [List.contains_iff_mem.2 (List.mem_map.2 ⟨x, hx, rfl⟩)]; simp
/-- a world for the witness: the settled one, the variables as their initialisers lay them -/
theorem wit (os : Os) (H : Type) (enc : TypeId × Value → H) : ∃ (w : World) (tape : Tape) (i : Input), w.os = os ∧ (w.forCall tape i).Shaped Tryz.checked.prog ∧ i.vars = [] ∧ Input.okWide Tryz.checked.prog (w.forCall tape i) .any w.heap.size 5 i ∧
    (OpenSpec.ofChange Rows.printsSpec).preRow enc Tryz.checked.prog Tryz.f5 Rows.printsRow.domain false Rows.printsRow.laid (w.forCall tape i).memory i.args ∧ ({} : Assume).holds Tryz.checked.prog (lone (Frame.enter Tryz.checked.prog 5 i.args .normal) [] (w.forCall tape i)) := by
  have hB : ∃ B : World, B = { World.holding Tryz.prog os ⟨#[], #[], []⟩ with heap := (World.holding Tryz.prog os ⟨#[], #[], []⟩).heap.modify 0 fun
      | .cells _ t frozen => .cells #[.iface 147 (.agg #[.pointer (some ⟨13, 36, none⟩)])] t frozen
      | o => o } := ⟨_, rfl⟩
  obtain ⟨B, hB⟩ := hB
  have hos : (B.layVars Tryz.prog (Rows.printsRow.laid.filter fun x => x.2.handleName?.isNone)).os = os := by
    subst hB
    exact World.layVars_os _ _ _
  have hmet : laidMetH Tryz.prog Rows.printsRow.laid ((B.layVars Tryz.prog (Rows.printsRow.laid.filter fun x => x.2.handleName?.isNone)).forCall (fun _ _ => 0) ⟨#[], #[.string ⟨#[]⟩], []⟩).memory := by
    refine laidMetH_of_parts ?_ (by subst hB; kernel_rfl)
    have h : laidMet Tryz.prog (Rows.printsRow.laid.filter fun x => x.2.handleName?.isNone) (B.layVars Tryz.prog (Rows.printsRow.laid.filter fun x => x.2.handleName?.isNone)) :=
      laidMet_layVars (w0 := B) ((Rows.printsRow.laid.filter fun x => x.2.handleName?.isNone).map (·.1)) [] (by rw [laid_rest]) (by rw [laid_rest]; subst hB; kernel_rfl) (by rw [laid_rest]; subst hB; kernel_rfl) (by rw [laid_none]; exact LaidIn.none)
    exact h.of_heap (by simp [World.memory, World.forCall, Input.heap])
  have hx : ∃ places, DataW.whole enc Tryz.prog ((B.layVars Tryz.prog (Rows.printsRow.laid.filter fun x => x.2.handleName?.isNone)).forCall (fun _ _ => 0) ⟨#[], #[.string ⟨#[]⟩], []⟩).memory Tryz.f5.params.toList Rows.printsSpec.vars false #[Value.string ⟨#[]⟩].toList 8 = some ([.lit (.string [])], [], places) := by
    subst hB
    exact ⟨[], by kernel_rfl⟩
  have hsh : ((B.layVars Tryz.prog (Rows.printsRow.laid.filter fun x => x.2.handleName?.isNone)).forCall (fun _ _ => 0) ⟨#[], #[.string ⟨#[]⟩], []⟩).Shaped Tryz.checked.prog := by
    subst hB
    exact World.shaped_of_ZipB (by kernel_rfl) (by kernel_rfl)
  have hok : Input.okWideB Tryz.checked.prog ((B.layVars Tryz.prog (Rows.printsRow.laid.filter fun x => x.2.handleName?.isNone)).forCall (fun _ _ => 0) ⟨#[], #[.string ⟨#[]⟩], []⟩) 5 ⟨#[], #[.string ⟨#[]⟩], []⟩ = true := by
    subst hB
    kernel_rfl
  clear hB
  obtain ⟨places, hx⟩ := hx
  exact ⟨B.layVars Tryz.prog (Rows.printsRow.laid.filter fun x => x.2.handleName?.isNone), fun _ _ => 0, ⟨#[], #[.string ⟨#[]⟩], []⟩, hos, hsh, (Input.okWide_of_okWideB (base := 0) hok).1, (Input.okWide_of_okWideB hok).2,
    OpenSpec.preRow_of_cond 8 hx (by kernel_rfl) (fun k hk => by cases hk) (by kernel_rfl) hmet, by
      simp only [Assume.holds]
      exact ⟨by simp, by simp, fun _ => Modest.zero, by simp, by simp⟩⟩
end Prints
end Go.Proofs.YtfkdfplnhlnnoaaGreatDoor
