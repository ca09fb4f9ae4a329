/- Opens: the closed facts of its row, one by one. -/
import Derived.Test.YtfkdfplnhlnnoaaGreatDoorCards
import Derived.JoinedCond
import Derived.KernelRfl
import Derived.ProofKit
import Derived.Stop.Joined
import Derived.OpenShut
import Derived.LaidMore
import Derived.LaidHandle
import Derived.LaidLaws
import Derived.Lay
import Derived.Stop.LaidErr
import Derived.Deep.DeepHandedRow
import Derived.Lib.LaidTab
import Derived.SevenTiedAt
namespace Go.Proofs.YtfkdfplnhlnnoaaGreatDoor
open Go.ChangeShapes Go.WideShapes Go.ChangeAt Go.RowKit
set_option maxRecDepth 100000

theorem andI {a b : Bool} (ha : a = true) (hb : b = true) : (a && b) = true := by rw [ha, hb]; rfl
theorem jf1 : (Rows.opensRow.wf (OpenSpec.ofChange (OpenSpec.ofChange Rows.opensSpec).bare)) = true := by kernel_rfl
theorem jf2 : (laidOutB Tryz.prog) = true := by kernel_rfl
theorem jf3 : (mapsRowed Tryz.prog) = true := by kernel_rfl
theorem jf4 : (Tryz.f3.params.all (Tryz.prog.readableRec ·)) = true := by kernel_rfl
theorem jf5 : (namedTie Tryz.prog Rows.opensRow.named (OpenSpec.ofChange Rows.opensSpec).bare.vars) = true := by kernel_rfl
theorem jf6 : ((Rows.opensRow.stops == [])) = true := by kernel_rfl
theorem jf7 : ((Tryz.prog.stops == [])) = true := by kernel_rfl
theorem jf8 : ((Rows.opensRow.knobs == [])) = true := by kernel_rfl
theorem jf9 : ((Tryz.prog.stopKnobs == [])) = true := by kernel_rfl
theorem jf10 : ((Rows.opensRow.inPlace == Tryz.prog.inPlace 3)) = true := by kernel_rfl
theorem jf11 : ((Rows.opensRow.unfollowed == Tryz.prog.unfollowed 3)) = true := by kernel_rfl
theorem jf12 : ((Rows.opensRow.recurses == Tryz.prog.recurses 3)) = true := by kernel_rfl
theorem jf13 : ((Rows.opensRow.named == Tryz.prog.varsNamed 3)) = true := by kernel_rfl
theorem jf14 : ((Rows.opensRow.maps == (Tryz.f3.params.toList ++ (OpenSpec.ofChange Rows.opensSpec).bare.plain.varTypes Tryz.prog).any (Tryz.prog.mapsRec ·))) = true := by kernel_rfl
theorem jf15 : ((Rows.opensRow.ifaces == (Tryz.f3.params.toList ++ (OpenSpec.ofChange Rows.opensSpec).bare.plain.varTypes Tryz.prog).any (Tryz.prog.ifacesRec ·))) = true := by kernel_rfl
theorem jf16 : ((Rows.opensRow.mapsOut == Tryz.prog.mapsAmong Tryz.f3.resultTypes.toList)) = true := by kernel_rfl
theorem jf17 : ((Rows.opensRow.loops == (Tryz.f3.params.toList ++ (OpenSpec.ofChange Rows.opensSpec).bare.plain.varTypes Tryz.prog).any (Tryz.prog.loopsFrom ·))) = true := by kernel_rfl
theorem jf18 : ((Rows.opensRow.wideKeys == (Tryz.f3.params.toList ++ (OpenSpec.ofChange Rows.opensSpec).bare.plain.varTypes Tryz.prog ++ Tryz.f3.resultTypes.toList).any (Tryz.prog.wideKeysFrom ·))) = true := by kernel_rfl
theorem jf19 : ((OpenSpec.ofChange Rows.opensSpec).bare.vars.all (Tryz.prog.varReadable ·)) = true := by kernel_rfl
theorem jf20 : (Tryz.f3.resultTypes.all (fun t => Tryz.prog.readableRec t && decide (t < Tryz.prog.types.size))) = true := by kernel_rfl
theorem jf21 : ((Rows.opensRow.ifacesOut == Tryz.f3.resultTypes.toList.any (Tryz.prog.ifacesRec ·))) = true := by kernel_rfl
theorem jf22 : ((Rows.opensRow.loopsOut == Tryz.f3.resultTypes.toList.any (Tryz.prog.loopsFrom ·))) = true := by kernel_rfl
theorem jf23 : ((Rows.opensRow.plainKeys == Tryz.prog.plainKeys)) = true := by kernel_rfl
theorem jf24 : (Rows.opensRow.shortTexts.isNone) = true := by kernel_rfl
theorem jf25 : (Tryz.prog.stopsHeard) = true := by kernel_rfl
theorem jf26 : (Tryz.prog.mayEnter) = true := by kernel_rfl
theorem jf27 : ((Rows.opensRow.lifted == Tryz.prog.liftsFinal)) = true := by kernel_rfl
theorem jf28 : ((Tryz.prog.make == some Rows.opensRow.make)) = true := by kernel_rfl
theorem jf29 : ((Rows.opensRow.kinds == (if Rows.opensRow.domain.isEmpty then [] else Tryz.f3.params.toList.map fun t => match Tryz.prog.underlying t with | some (.int k) => some k | _ => none))) = true := by kernel_rfl
theorem jf30 : ((Rows.opensRow.pinned == Rows.opensRow.pinnedBy)) = true := by kernel_rfl
theorem jf31 : ((Rows.opensRow.veiled == (Tryz.f3.params.toList ++ (OpenSpec.ofChange Rows.opensSpec).bare.plain.varTypes Tryz.prog ++ Tryz.f3.resultTypes.toList).any (Tryz.prog.veiledRec ·))) = true := by kernel_rfl
theorem jf32 : (Rows.opensRow.veiledFits Tryz.prog Tryz.f3.params.toList (Tryz.f3.params.toList ++ (OpenSpec.ofChange Rows.opensSpec).bare.plain.varTypes Tryz.prog ++ Tryz.f3.resultTypes.toList)) = true := by kernel_rfl
theorem opens_closed : joinedFacts Tryz.pinned.checked.prog 3 Tryz.f3 (OpenSpec.ofChange Rows.opensSpec).bare Rows.opensRow = true := andI (andI (andI (andI (andI (andI (andI (andI (andI (andI (andI (andI (andI (andI (andI (andI (andI (andI (andI (andI (andI (andI (andI (andI (andI (andI (andI (andI (andI (andI (andI jf1 jf2) jf3) jf4) jf5) jf6) jf7) jf8) jf9) jf10) jf11) jf12) jf13) jf14) jf15) jf16) jf17) jf18) jf19) jf20) jf21) jf22) jf23) jf24) jf25) jf26) jf27) jf28) jf29) jf30) jf31) jf32
theorem opens_named : Tryz.pinned.checked.prog.funcNamed Rows.opensRow.func = some 3 := by kernel_rfl
theorem opens_inst : Tryz.f3.isInstance Tryz.pinned.checked.prog Rows.opensRow.origin Rows.opensRow.targs := of_decide_eq_true (by kernel_rfl)
theorem opens_wrap : Tryz.f3.isWrapper Tryz.pinned.checked.prog Rows.opensRow.wrapper Rows.opensRow.mainSum := by
  unfold Func.isWrapper; first | (rw [if_pos (by decide +kernel)]; kernel_rfl) | (rw [if_neg (by decide +kernel)]; exact ⟨rfl, rfl⟩)
namespace Opens
theorem laid_rest : ((Rows.opensRow.laid.filter fun x => x.2.handleName?.isNone).filter fun x => ((Rows.opensRow.laid.filter fun x => x.2.handleName?.isNone).map (·.1)).contains x.1) = (Rows.opensRow.laid.filter fun x => x.2.handleName?.isNone) := List.filter_eq_self.2 fun x hx => List.contains_iff_mem.2 (List.mem_map.2 ⟨x, hx, rfl⟩)
theorem laid_none : ((Rows.opensRow.laid.filter fun x => x.2.handleName?.isNone).filter fun x => !((Rows.opensRow.laid.filter fun x => x.2.handleName?.isNone).map (·.1)).contains x.1) = [] := List.filter_eq_nil_iff.2 fun x hx => by rw [List.contains_iff_mem.2 (List.mem_map.2 ⟨x, hx, rfl⟩)]; simp
/-- a world for the witness: the settled one, the variables as their initialisers lay them -/
theorem wit (os : Os) (H : Type) (enc : TypeId × Value → H) : ∃ (w : World) (tape : Tape) (i : Input), w.os = os ∧ (w.forCall tape i).Shaped Tryz.checked.prog ∧ i.vars = [] ∧ Input.okWide Tryz.checked.prog (w.forCall tape i) .any w.heap.size 3 i ∧
    (OpenSpec.ofChange Rows.opensSpec).preRow enc Tryz.checked.prog Tryz.f3 Rows.opensRow.domain false Rows.opensRow.laid (w.forCall tape i).memory i.args ∧ ({} : Assume).holds Tryz.checked.prog (lone (Frame.enter Tryz.checked.prog 3 i.args .normal) [] (w.forCall tape i)) := by
  have hB : ∃ B : World, B = { World.holding Tryz.prog os ⟨#[], #[], []⟩ with heap := (World.holding Tryz.prog os ⟨#[], #[], []⟩).heap.modify 0 fun
      | .cells _ t frozen => .cells #[.iface 147 (.agg #[.pointer (some ⟨13, 36, none⟩)])] t frozen
      | o => o } := ⟨_, rfl⟩
  obtain ⟨B, hB⟩ := hB
  have hos : (B.layVars Tryz.prog (Rows.opensRow.laid.filter fun x => x.2.handleName?.isNone)).os = os := by
    subst hB
    exact World.layVars_os _ _ _
  have hmet : laidMetH Tryz.prog Rows.opensRow.laid ((B.layVars Tryz.prog (Rows.opensRow.laid.filter fun x => x.2.handleName?.isNone)).forCall (fun _ _ => 0) ⟨#[], #[.string ⟨#[]⟩], []⟩).memory := by
    refine laidMetH_of_parts ?_ (by subst hB; kernel_rfl)
    have h : laidMet Tryz.prog (Rows.opensRow.laid.filter fun x => x.2.handleName?.isNone) (B.layVars Tryz.prog (Rows.opensRow.laid.filter fun x => x.2.handleName?.isNone)) :=
      laidMet_layVars (w0 := B) ((Rows.opensRow.laid.filter fun x => x.2.handleName?.isNone).map (·.1)) [] (by rw [laid_rest]) (by rw [laid_rest]; subst hB; kernel_rfl) (by rw [laid_rest]; subst hB; kernel_rfl) (by rw [laid_none]; exact LaidIn.none)
    exact h.of_heap (by simp [World.memory, World.forCall, Input.heap])
  have hx : ∃ places, DataW.whole enc Tryz.prog ((B.layVars Tryz.prog (Rows.opensRow.laid.filter fun x => x.2.handleName?.isNone)).forCall (fun _ _ => 0) ⟨#[], #[.string ⟨#[]⟩], []⟩).memory Tryz.f3.params.toList Rows.opensSpec.vars false #[Value.string ⟨#[]⟩].toList 8 = some ([.lit (.string [])], [], places) := by
    subst hB
    exact ⟨[], by kernel_rfl⟩
  have hsh : ((B.layVars Tryz.prog (Rows.opensRow.laid.filter fun x => x.2.handleName?.isNone)).forCall (fun _ _ => 0) ⟨#[], #[.string ⟨#[]⟩], []⟩).Shaped Tryz.checked.prog := by
    subst hB
    exact World.shaped_of_ZipB (by kernel_rfl) (by kernel_rfl)
  have hok : Input.okWideB Tryz.checked.prog ((B.layVars Tryz.prog (Rows.opensRow.laid.filter fun x => x.2.handleName?.isNone)).forCall (fun _ _ => 0) ⟨#[], #[.string ⟨#[]⟩], []⟩) 3 ⟨#[], #[.string ⟨#[]⟩], []⟩ = true := by
    subst hB
    kernel_rfl
  clear hB
  obtain ⟨places, hx⟩ := hx
  exact ⟨B.layVars Tryz.prog (Rows.opensRow.laid.filter fun x => x.2.handleName?.isNone), fun _ _ => 0, ⟨#[], #[.string ⟨#[]⟩], []⟩, hos, hsh, (Input.okWide_of_okWideB (base := 0) hok).1, (Input.okWide_of_okWideB hok).2,
    OpenSpec.preRow_of_cond 8 hx (by kernel_rfl) (fun k hk => by cases hk) (by kernel_rfl) hmet, by
      simp only [Assume.holds]
      exact ⟨by simp, by simp, fun _ => Modest.zero, by simp, by simp⟩⟩
end Opens
end Go.Proofs.YtfkdfplnhlnnoaaGreatDoor
