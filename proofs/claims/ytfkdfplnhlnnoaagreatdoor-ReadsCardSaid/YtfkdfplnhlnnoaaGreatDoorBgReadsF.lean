import Derived.Deep.DeepHandedRow
import Derived.JoinedCond
import Derived.LaidHandle
import Derived.LaidLaws
import Derived.LaidMore
import Derived.Lay
import Derived.Lib.LaidTab
import Derived.OpenShut
import Derived.ProofKit
import Derived.SevenTiedAt
import Derived.Stop.Joined
import Derived.Stop.LaidErr
import Derived.Test.YtfkdfplnhlnnoaaGreatDoorCards
namespace Go.Proofs.YtfkdfplnhlnnoaaGreatDoor
open Go.ChangeShapes Go.WideShapes Go.ChangeAt Go.RowKit
set_option maxRecDepth 100000
theorem r_andI {a b : Bool} (ha : a = true) (hb : b = true) : (a && b) = true := by rw [ha, hb]; rfl
theorem r_f1 : (Rows.readsRow.wf (OpenSpec.ofChange (OpenSpec.ofChange Rows.readsSpec).bare)) = true := by kernel_rfl
theorem r_f2 : (laidOutB Tryz.prog) = true := by kernel_rfl
theorem r_f3 : (mapsRowed Tryz.prog) = true := by kernel_rfl
theorem r_f4 : (Tryz.f4.params.all (Tryz.prog.readableRec ·)) = true := by kernel_rfl
theorem r_f5 : (namedTie Tryz.prog Rows.readsRow.named (OpenSpec.ofChange Rows.readsSpec).bare.vars) = true := by kernel_rfl
theorem r_f6 : ((Rows.readsRow.stops == [])) = true := by kernel_rfl
theorem r_f7 : ((Tryz.prog.stops == [])) = true := by kernel_rfl
theorem r_f8 : ((Rows.readsRow.knobs == [])) = true := by kernel_rfl
theorem r_f9 : ((Tryz.prog.stopKnobs == [])) = true := by kernel_rfl
theorem r_f10 : ((Rows.readsRow.inPlace == Tryz.prog.inPlace 4)) = true := by kernel_rfl
theorem r_f11 : ((Rows.readsRow.unfollowed == Tryz.prog.unfollowed 4)) = true := by kernel_rfl
theorem r_f12 : ((Rows.readsRow.recurses == Tryz.prog.recurses 4)) = true := by kernel_rfl
theorem r_f13 : ((Rows.readsRow.named == Tryz.prog.varsNamed 4)) = true := by kernel_rfl
theorem r_f14 : ((Rows.readsRow.maps == (Tryz.f4.params.toList ++ (OpenSpec.ofChange Rows.readsSpec).bare.plain.varTypes Tryz.prog).any (Tryz.prog.mapsRec ·))) = true := by kernel_rfl
theorem r_f15 : ((Rows.readsRow.ifaces == (Tryz.f4.params.toList ++ (OpenSpec.ofChange Rows.readsSpec).bare.plain.varTypes Tryz.prog).any (Tryz.prog.ifacesRec ·))) = true := by kernel_rfl
theorem r_f16 : ((Rows.readsRow.mapsOut == Tryz.prog.mapsAmong Tryz.f4.resultTypes.toList)) = true := by kernel_rfl
theorem r_f17 : ((Rows.readsRow.loops == (Tryz.f4.params.toList ++ (OpenSpec.ofChange Rows.readsSpec).bare.plain.varTypes Tryz.prog).any (Tryz.prog.loopsFrom ·))) = true := by kernel_rfl
theorem r_f18 : ((Rows.readsRow.wideKeys == (Tryz.f4.params.toList ++ (OpenSpec.ofChange Rows.readsSpec).bare.plain.varTypes Tryz.prog ++ Tryz.f4.resultTypes.toList).any (Tryz.prog.wideKeysFrom ·))) = true := by kernel_rfl
theorem r_f19 : ((OpenSpec.ofChange Rows.readsSpec).bare.vars.all (Tryz.prog.varReadable ·)) = true := by kernel_rfl
theorem r_f20 : (Tryz.f4.resultTypes.all (fun t => Tryz.prog.readableRec t && decide (t < Tryz.prog.types.size))) = true := by kernel_rfl
theorem r_f21 : ((Rows.readsRow.ifacesOut == Tryz.f4.resultTypes.toList.any (Tryz.prog.ifacesRec ·))) = true := by kernel_rfl
theorem r_f22 : ((Rows.readsRow.loopsOut == Tryz.f4.resultTypes.toList.any (Tryz.prog.loopsFrom ·))) = true := by kernel_rfl
theorem r_f23 : ((Rows.readsRow.plainKeys == Tryz.prog.plainKeys)) = true := by kernel_rfl
theorem r_f24 : (Rows.readsRow.shortTexts.isNone) = true := by kernel_rfl
theorem r_f25 : (Tryz.prog.stopsHeard) = true := by kernel_rfl
theorem r_f26 : (Tryz.prog.mayEnter) = true := by kernel_rfl
theorem r_f27 : ((Rows.readsRow.lifted == Tryz.prog.liftsFinal)) = true := by kernel_rfl
theorem r_f28 : ((Tryz.prog.make == some Rows.readsRow.make)) = true := by kernel_rfl
theorem r_f29 : ((Rows.readsRow.kinds == (if Rows.readsRow.domain.isEmpty then [] else Tryz.f4.params.toList.map fun t => match Tryz.prog.underlying t with | some (.int k) => some k | _ => none))) = true := by kernel_rfl
theorem r_f30 : ((Rows.readsRow.pinned == Rows.readsRow.pinnedBy)) = true := by kernel_rfl
theorem r_f31 : ((Rows.readsRow.veiled == (Tryz.f4.params.toList ++ (OpenSpec.ofChange Rows.readsSpec).bare.plain.varTypes Tryz.prog ++ Tryz.f4.resultTypes.toList).any (Tryz.prog.veiledRec ·))) = true := by kernel_rfl
theorem r_f32 : (Rows.readsRow.veiledFits Tryz.prog Tryz.f4.params.toList (Tryz.f4.params.toList ++ (OpenSpec.ofChange Rows.readsSpec).bare.plain.varTypes Tryz.prog ++ Tryz.f4.resultTypes.toList)) = true := by kernel_rfl
theorem reads_closed : joinedFacts Tryz.pinned.checked.prog 4 Tryz.f4 (OpenSpec.ofChange Rows.readsSpec).bare Rows.readsRow = true := r_andI (r_andI (r_andI (r_andI (r_andI (r_andI (r_andI (r_andI (r_andI (r_andI (r_andI (r_andI (r_andI (r_andI (r_andI (r_andI (r_andI (r_andI (r_andI (r_andI (r_andI (r_andI (r_andI (r_andI (r_andI (r_andI (r_andI (r_andI (r_andI (r_andI (r_andI r_f1 r_f2) r_f3) r_f4) r_f5) r_f6) r_f7) r_f8) r_f9) r_f10) r_f11) r_f12) r_f13) r_f14) r_f15) r_f16) r_f17) r_f18) r_f19) r_f20) r_f21) r_f22) r_f23) r_f24) r_f25) r_f26) r_f27) r_f28) r_f29) r_f30) r_f31) r_f32
theorem reads_named : Tryz.pinned.checked.prog.funcNamed Rows.readsRow.func = some 4 := by kernel_rfl
theorem reads_inst : Tryz.f4.isInstance Tryz.pinned.checked.prog Rows.readsRow.origin Rows.readsRow.targs := of_decide_eq_true (by kernel_rfl)
theorem reads_wrap : Tryz.f4.isWrapper Tryz.pinned.checked.prog Rows.readsRow.wrapper Rows.readsRow.mainSum := by
  unfold Func.isWrapper; first | (rw [if_pos (by decide +kernel)]; kernel_rfl) | (rw [if_neg (by decide +kernel)]; exact ⟨rfl, rfl⟩)
namespace Reads
theorem laid_rest : ((Rows.readsRow.laid.filter fun x => x.2.handleName?.isNone).filter fun x => ((Rows.readsRow.laid.filter fun x => x.2.handleName?.isNone).map (·.1)).contains x.1) = (Rows.readsRow.laid.filter fun x => x.2.handleName?.isNone) := List.filter_eq_self.2 fun x hx => List.contains_iff_mem.2 (List.mem_map.2 ⟨x, hx, rfl⟩)
theorem laid_none : ((Rows.readsRow.laid.filter fun x => x.2.handleName?.isNone).filter fun x => !((Rows.readsRow.laid.filter fun x => x.2.handleName?.isNone).map (·.1)).contains x.1) = [] := List.filter_eq_nil_iff.2 fun x hx => by rw [List.contains_iff_mem.2 (List.mem_map.2 ⟨x, hx, rfl⟩)]; simp
/-- a world for the witness: the settled one, the variables as their initialisers lay them -/
theorem wit (os : Os) (H : Type) (enc : TypeId × Value → H) : ∃ (w : World) (tape : Tape) (i : Input), w.os = os ∧ (w.forCall tape i).Shaped Tryz.checked.prog ∧ i.vars = [] ∧ Input.okWide Tryz.checked.prog (w.forCall tape i) .any w.heap.size 4 i ∧
    (OpenSpec.ofChange Rows.readsSpec).preRow enc Tryz.checked.prog Tryz.f4 Rows.readsRow.domain false Rows.readsRow.laid (w.forCall tape i).memory i.args ∧ ({} : Assume).holds Tryz.checked.prog (lone (Frame.enter Tryz.checked.prog 4 i.args .normal) [] (w.forCall tape i)) := by
  have hB : ∃ B : World, B = { World.holding Tryz.prog os ⟨#[], #[], []⟩ with heap := (World.holding Tryz.prog os ⟨#[], #[], []⟩).heap.modify 0 fun
      | .cells _ t frozen => .cells #[.iface 147 (.agg #[.pointer (some ⟨13, 36, none⟩)])] t frozen
      | o => o } := ⟨_, rfl⟩
  obtain ⟨B, hB⟩ := hB
  have hos : (B.layVars Tryz.prog (Rows.readsRow.laid.filter fun x => x.2.handleName?.isNone)).os = os := by
    subst hB
    exact World.layVars_os _ _ _
  have hmet : laidMetH Tryz.prog Rows.readsRow.laid ((B.layVars Tryz.prog (Rows.readsRow.laid.filter fun x => x.2.handleName?.isNone)).forCall (fun _ _ => 0) ⟨#[], #[.string ⟨#[]⟩], []⟩).memory := by
    refine laidMetH_of_parts ?_ (by subst hB; kernel_rfl)
    have h : laidMet Tryz.prog (Rows.readsRow.laid.filter fun x => x.2.handleName?.isNone) (B.layVars Tryz.prog (Rows.readsRow.laid.filter fun x => x.2.handleName?.isNone)) :=
      laidMet_layVars (w0 := B) ((Rows.readsRow.laid.filter fun x => x.2.handleName?.isNone).map (·.1)) [] (by rw [laid_rest]) (by rw [laid_rest]; subst hB; kernel_rfl) (by rw [laid_rest]; subst hB; kernel_rfl) (by rw [laid_none]; exact LaidIn.none)
    exact h.of_heap (by simp [World.memory, World.forCall, Input.heap])
  have hx : ∃ places, DataW.whole enc Tryz.prog ((B.layVars Tryz.prog (Rows.readsRow.laid.filter fun x => x.2.handleName?.isNone)).forCall (fun _ _ => 0) ⟨#[], #[.string ⟨#[]⟩], []⟩).memory Tryz.f4.params.toList Rows.readsSpec.vars false #[Value.string ⟨#[]⟩].toList 8 = some ([.lit (.string [])], [], places) := by
    subst hB
    exact ⟨[], by kernel_rfl⟩
  have hsh : ((B.layVars Tryz.prog (Rows.readsRow.laid.filter fun x => x.2.handleName?.isNone)).forCall (fun _ _ => 0) ⟨#[], #[.string ⟨#[]⟩], []⟩).Shaped Tryz.checked.prog := by
    subst hB
    exact World.shaped_of_ZipB (by kernel_rfl) (by kernel_rfl)
  have hok : Input.okWideB Tryz.checked.prog ((B.layVars Tryz.prog (Rows.readsRow.laid.filter fun x => x.2.handleName?.isNone)).forCall (fun _ _ => 0) ⟨#[], #[.string ⟨#[]⟩], []⟩) 4 ⟨#[], #[.string ⟨#[]⟩], []⟩ = true := by
    subst hB
    kernel_rfl
  clear hB
  obtain ⟨places, hx⟩ := hx
  exact ⟨B.layVars Tryz.prog (Rows.readsRow.laid.filter fun x => x.2.handleName?.isNone), fun _ _ => 0, ⟨#[], #[.string ⟨#[]⟩], []⟩, hos, hsh, (Input.okWide_of_okWideB (base := 0) hok).1, (Input.okWide_of_okWideB hok).2,
    OpenSpec.preRow_of_cond 8 hx (by kernel_rfl) (fun k hk => by cases hk) (by kernel_rfl) hmet, by
      simp only [Assume.holds]
      exact ⟨by simp, by simp, fun _ => Modest.zero, by simp, by simp⟩⟩
end Reads
end Go.Proofs.YtfkdfplnhlnnoaaGreatDoor
