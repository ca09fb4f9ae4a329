import Derived.LaidEql
import Derived.RowKitTokens
import Derived.Stop.Asserts
import Derived.Test.YtamfmffdgidmgaaGreatDoorBgJa06
section
namespace Go.Proofs.YtamfmffdgidmgaaGreatDoor
open Go.RowKit
set_option maxRecDepth 100000 in
set_option maxHeartbeats 400000 in
theorem catchS_idle (pe po : Addr) (w : World) :
    CallsD Tryz.prog 75 #[.pointer (some pe), .pointer (some po)] .returning w fun e u' w' => e = .returned (.tuple #[]) ∧ u' = .returning ∧ w' = w := by
  refine callsD_of_wpS Tryz.func75 rfl fun c₀ cs hu => ?_
  simp only [Tryz.ntmps75, List.size_toArray, List.length_cons, List.length_nil, Nat.reduceAdd, Nat.reduceSub, Array.replicate_succ, Array.replicate_zero, List.push_toArray, List.append_toArray, List.nil_append, List.cons_append]
  apply wpS_seq
  apply wpS_region
  simp [wpOpsS, go_sem, recoverD, hu, Exit.thenS]
  refine wpS_of_wp ?_
  go_wp2
  cases c₀
  simp_all [bodyPostS, results, Tryz.results75]
set_option maxRecDepth 100000 in
set_option maxHeartbeats 400000 in
theorem catchS_fault (pe po : Addr) (b : Nat) (old : Value) (w : World) (hc : w.cell? pe = some old) (hz : w.frozen? pe = false) :
    CallsD Tryz.prog 75 #[.pointer (some pe), .pointer (some po)] (.panicking (thrown b)) w fun e u' w' =>
      e = .returned (.tuple #[]) ∧ u' = .panicking [{ v := .iface 85 (.pointer (some ⟨b, 0, none⟩)), recovered := true }] ∧ w' = w.setCell pe (.iface 85 (.pointer (some ⟨b, 0, none⟩))) := by
  refine callsD_of_wpS Tryz.func75 rfl fun c₀ cs hu => ?_
  simp only [Tryz.ntmps75, List.size_toArray, List.length_cons, List.length_nil, Nat.reduceAdd, Nat.reduceSub, Array.replicate_succ, Array.replicate_zero, List.push_toArray, List.append_toArray, List.nil_append, List.cons_append]
  apply wpS_seq
  apply wpS_region
  simp [wpOpsS, go_sem, recoverD, hu, thrown, Exit.thenS]
  refine wpS_of_wp ?_
  have hta : ∀ w, (Instr.typeAssert (.iface 85 (.pointer (some ⟨b, 0, none⟩))) 20 85 true).run Tryz.prog w = .ok (.tuple #[.pointer (some ⟨b, 0, none⟩), .bool true]) w := fun _ => by kernel_rfl
  go_wp2
  cases c₀
  simp_all [bodyPostS, results, Tryz.results75]
set_option maxRecDepth 100000 in
set_option maxHeartbeats 400000 in
theorem catchS (pd : Addr) (other : Int) (w : World) (G : Bg.Str → World → Prop) (B : Nat → World → Prop)
    (h : Calls Tryz.prog 48 #[.pointer (some pd)] (catchW w other) fun e w2 => Below (w.heap.size + 2) (catchW w other) w2 ∧
      ((∃ q, e = .returned (.string ⟨q.toArray⟩) ∧ G q w2) ∨ (∃ b, e = .panicked (thrown b) ∧ B b w2))) :
    Calls Tryz.prog 47 #[.int .i64 other, .func (.func 48) #[] #[.pointer (some pd)]] w fun e w' => ∃ w2, Below (w.heap.size + 2) (catchW w other) w2 ∧
      ((∃ q, G q w2 ∧ e = .returned (.tuple #[.string ⟨q.toArray⟩, .nilIface]) ∧ w' = w2.setCell ⟨w.heap.size + 1, 0, none⟩ .nilIface) ∨
       (∃ b, B b w2 ∧ e = .returned (.tuple #[.string ⟨#[]⟩, faultV b]) ∧ w' = w2.setCell ⟨w.heap.size + 1, 0, none⟩ (faultV b))) := by
  have hmf : ∀ (fn : Fn) (first cap : Array Value) (w : World), (Instr.makeFunc fn first cap).run Tryz.prog w = .ok (.func fn first cap) w := fun _ _ _ _ => rfl
  have hc1 : (catchW w other).cell? ⟨w.heap.size + 1, 0, none⟩ = some .nilIface := by simp [catchW]
  have hf1 : (catchW w other).frozen? ⟨w.heap.size + 1, 0, none⟩ = false := by simp [catchW]
  have H := h
  have HH : Hid (Calls Tryz.prog 48 #[.pointer (some pd)] (catchW w other) fun e w2 => Below (w.heap.size + 2) (catchW w other) w2 ∧
      ((∃ q, e = .returned (.string ⟨q.toArray⟩) ∧ G q w2) ∨ (∃ b, e = .panicked (thrown b) ∧ B b w2))) := H
  clear h H
  go_enter_defers Tryz.func47, Tryz.ntmps47
  go_wp2_with fail
  refine HH.out.mono ?_
  rintro e w2 ⟨hB, ⟨q, rfl, hG⟩ | ⟨b, rfl, hBad⟩⟩
  · have hc2 : w2.cell? ⟨w.heap.size + 1, 0, none⟩ = some .nilIface := (hB.cell (p := ⟨w.heap.size + 1, 0, none⟩) (by simp)).trans hc1
    have hf2 : w2.frozen? ⟨w.heap.size + 1, 0, none⟩ = false := (hB.frozen (p := ⟨w.heap.size + 1, 0, none⟩) (by simp)).trans hf1
    go_wp2
    refine leaves_cons (f := 75) (args := #[.pointer (some ⟨w.heap.size + 1, 0, none⟩), .pointer (some ⟨w.heap.size, 0, none⟩)]) (by simp) (by simp [go_sem]) ?_
    refine (catchS_idle _ _ _).mono ?_
    rintro e u' w'' ⟨rfl, rfl, rfl⟩
    have hc3 : (w2.setCell ⟨w.heap.size + 1, 0, none⟩ .nilIface).cell? ⟨w.heap.size + 1, 0, none⟩ = some .nilIface := World.cell?_setCell_same' _ _ _ (by rw [hc2]; rfl)
    exact ⟨.tuple #[.string ⟨q.toArray⟩, .nilIface], by simp [results, Tryz.results47, go_sem, hc3], w2, hB, .inl ⟨q, hG, rfl, rfl⟩⟩
  · have hc2 : w2.cell? ⟨w.heap.size + 1, 0, none⟩ = some .nilIface := (hB.cell (p := ⟨w.heap.size + 1, 0, none⟩) (by simp)).trans hc1
    have hf2 : w2.frozen? ⟨w.heap.size + 1, 0, none⟩ = false := (hB.frozen (p := ⟨w.heap.size + 1, 0, none⟩) (by simp)).trans hf1
    go_wp2
    refine leaves_cons (f := 75) (args := #[.pointer (some ⟨w.heap.size + 1, 0, none⟩), .pointer (some ⟨w.heap.size, 0, none⟩)]) (by simp) (by simp [go_sem]) ?_
    refine (catchS_fault _ _ b .nilIface _ hc2 hf2).mono ?_
    rintro e u' w'' ⟨rfl, rfl, rfl⟩
    have hc3 : (w2.setCell ⟨w.heap.size + 1, 0, none⟩ (faultV b)).cell? ⟨w.heap.size + 1, 0, none⟩ = some (faultV b) := World.cell?_setCell_same' _ _ _ (by rw [hc2]; rfl)
    exact ⟨.tuple #[.string ⟨#[]⟩, faultV b], by simp [results, Tryz.results47, go_sem, hc3], w2, hB, .inr ⟨b, hBad, rfl, rfl⟩⟩
end Go.Proofs.YtamfmffdgidmgaaGreatDoor
end
section
namespace Go.Proofs.YtamfmffdgidmgaaGreatDoor
open Go.RowKit
set_option linter.unusedSimpArgs false
set_option linter.unusedVariables false
theorem RInv.keep {B R M Kb : Nat} {kws : List Bg.Str} {line : Int} {st : St} {W W' : World} (h : RInv B R M Kb kws line st W) (hs : W.heap.size ≤ W'.heap.size) (hb : ∀ b, b < W.heap.size → (b = R ∨ b = M ∨ b = Kb ∨ B ≤ b) → W'.heap[b]? = W.heap[b]?) : RInv B R M Kb kws line st W' := by
  obtain ⟨v, hR, hv⟩ := h.last
  have hlt : ∀ {b : Nat} {o : Obj}, W.heap[b]? = some o → b < W.heap.size := fun e => (Array.getElem?_eq_some_iff.1 e).1
  refine ⟨h.hR, h.hM, h.hK, h.hRM, h.hMK, h.hRK, Nat.le_trans h.hB hs, h.nd, keyset_block h.names (hb M h.names.lt (.inr (.inl rfl))), keyset_block h.keys (hb Kb h.keys.lt (.inr (.inr (.inl rfl)))), v, (hb R (hlt hR) (.inl rfl)).trans hR, ?_⟩
  cases hl : st.last with
  | none => rw [hl] at hv; exact hv
  | some t =>
    rw [hl] at hv
    obtain ⟨T, cv, pv, rv, rs, rfl, hT, hTW, hcv, hrv, r⟩ := hv
    have own : ∀ {e sz n : Nat} {v : Value} {xs : List Value}, W.ownsRow B e sz v n xs → W'.ownsRow B e sz v n xs := by
      intro e sz n v xs h
      refine ⟨h.1, ?_⟩
      rcases h.2 with h0 | ⟨g, cap, cu, rfl, hg, hh, r⟩
      · exact .inl h0
      · exact .inr ⟨g, cap, cu, rfl, hg, (hb g (hlt hh) (.inr (.inr (.inr hg)))).trans hh, r⟩
    exact ⟨T, cv, pv, rv, rs, rfl, hT, (hb T (hlt hTW) (.inr (.inr (.inr hT)))).trans hTW, own hcv, own hrv, r⟩
theorem RInv.below {B R M Kb : Nat} {kws : List Bg.Str} {line : Int} {st : St} {W W' : World} (h : RInv B R M Kb kws line st W) (hB : Below W.heap.size W W') : RInv B R M Kb kws line st W' := h.keep hB.size (fun b hb _ => hB.block b hb)
/-- what a line's reading ends in -/
def readPost (B R M Kb : Nat) (kws : List Bg.Str) (line : Int) (W : World) (r : Option St) (e : Ending) (W' : World) : Prop :=
  (∃ st', r = some st' ∧ e = .returned (.tuple #[]) ∧ RInv B R M Kb kws line st' W' ∧ Near B R M W W') ∨ (r = none ∧ bad B line W e W')
theorem bad.from {B : Nat} {line : Int} {W W1 W' : World} {e : Ending} (h : bad B line W1 e W') (hB : Below B W W1) : bad B line W e W' := by
  obtain ⟨b, h1, h2, h3, h4⟩ := h
  exact ⟨b, h1, h2, h3, hB.trans h4⟩
theorem readPost.from {B R M Kb : Nat} {kws : List Bg.Str} {line : Int} {W W1 W' : World} {r : Option St} {e : Ending} (h : readPost B R M Kb kws line W1 r e W') (hB : Below B W W1) : readPost B R M Kb kws line W r e W' := by
  rcases h with ⟨st', h1, h2, h3, h4⟩ | ⟨h1, h2⟩
  · exact .inl ⟨st', h1, h2, h3, (Near.of_below hB).trans h4⟩
  · exact .inr ⟨h1, h2.from hB⟩
end Go.Proofs.YtamfmffdgidmgaaGreatDoor
end
section
namespace Go.Proofs.YtamfmffdgidmgaaGreatDoor
open Go.RowKit Go.Shelf
set_option linter.unusedSimpArgs false
set_option linter.unusedVariables false
attribute [local go_sem] Oper.semAt_some
theorem Spaces.below {n : Nat} {w w' : World} (h : Spaces w) (hB : Below n w w') (hn : 13 ≤ n) : Spaces w' :=
  ⟨Nat.lt_of_lt_of_le h.1 hB.size, fun c hc => (hB.cell (p := ⟨1, c.toNat, none⟩) (show 1 < n from Nat.lt_of_lt_of_le (by decide) hn)).trans (h.2 c hc)⟩
end Go.Proofs.YtamfmffdgidmgaaGreatDoor
end
section
namespace Go.Proofs.YtamfmffdgidmgaaGreatDoor
open Go.RowKit Go.Extern.Stop Go.Stop Go.Extern
theorem As.valueOf27 (t : Addr) (w : World) : (ReflectliteValue.unpack (.iface 87 (.pointer (some t)))).run Tryz.prog w
    = .ok (.agg #[.pointer (some ⟨13, 87, none⟩), .pointer (some ⟨w.heap.size, 0, none⟩), .int .u64 150]) (w.alloc (.cells #[.pointer (some t)] 87)) := by kernel_rfl
theorem As.type27 (a : Addr) (w : World) : (ReflectliteValue.methodAny (ReflectliteValue.valueError "reflectlite.Value.Type" 0) (fun t _ _ _ => ReflectliteType.toType t) #[.agg #[.pointer (some ⟨13, 87, none⟩), .pointer (some a), .int .u64 150]]).run Tryz.prog w
    = .ok (.iface 201 (.agg #[.pointer (some ⟨13, 87, none⟩)])) w := by kernel_rfl
theorem As.methodKind (h : Value) (w : World) : (Go.method 556 201 (.agg #[h]) "Kind").run Tryz.prog w = .ok (284, h) w := by kernel_rfl
theorem As.kind27 (w : World) : ((ReflectliteType.abiMethod fun t => (fun a : Nat => Value.int IntKind.u8 (a : Int)) <$> Rtype.kind t) #[.pointer (some ⟨13, 87, none⟩)]).run Tryz.prog w = .ok (.int .u8 22) w := by kernel_rfl
theorem As.kind25 (w : World) : ((ReflectliteType.abiMethod fun t => (fun a : Nat => Value.int IntKind.u8 (a : Int)) <$> Rtype.kind t) #[.pointer (some ⟨13, 85, none⟩)]).run Tryz.prog w = .ok (.int .u8 22) w := by kernel_rfl
theorem As.parts27 (a : Addr) (w : World) : (ReflectliteValue.parts (.agg #[.pointer (some ⟨13, 87, none⟩), .pointer (some a), .int .u64 150])).run Tryz.prog w = .ok (some (87, a, 150)) w := by kernel_rfl
/-- (Value).IsNil at the Value of a **p.E that is not nil. -/
theorem As.isNil27 (a p : Addr) (W : World) (ha : W.cell? a = some (.pointer (some p))) :
    (ReflectliteValue.method (ReflectliteValue.valueError "reflectlite.Value.IsNil" 0) ReflectliteValue.isNil #[.agg #[.pointer (some ⟨13, 87, none⟩), .pointer (some a), .int .u64 150]]).run Tryz.prog W = .ok (.bool false) W := by
  show (Bind.bind (ReflectliteValue.parts (.agg #[.pointer (some ⟨13, 87, none⟩), .pointer (some a), .int .u64 150])) (fun p => _) : Sem Value).run _ _ = _
  simp only [Sem.run_bind, As.parts27, Result.andThen]
  simp [ReflectliteValue.isNil, loadVar, isAgg, underlying, Tryz.underlying87, ha, Result.andThen]
theorem As.methodElem (h : Value) (w : World) : (Go.method 556 201 (.agg #[h]) "Elem").run Tryz.prog w = .ok (296, .agg #[h]) w := by kernel_rfl
theorem As.methodImplements (h : Value) (w : World) : (Go.method 556 201 (.agg #[h]) "Implements").run Tryz.prog w = .ok (297, .agg #[h]) w := by kernel_rfl
theorem As.methodAssignableTo (h : Value) (w : World) : (Go.method 556 201 (.agg #[h]) "AssignableTo").run Tryz.prog w = .ok (294, .agg #[h]) w := by kernel_rfl
theorem As.elem27 (w : World) : (ReflectliteType.method ReflectliteType.elem #[.agg #[.pointer (some ⟨13, 87, none⟩)]]).run Tryz.prog w = .ok (.iface 201 (.agg #[.pointer (some ⟨13, 85, none⟩)])) w := by kernel_rfl
theorem As.implements25 (w : World) : (ReflectliteType.relation "Implements" ReflectliteType.implements_ #[.agg #[.pointer (some ⟨13, 85, none⟩)], .iface 201 (.agg #[.pointer (some ⟨13, 40, none⟩)])]).run Tryz.prog w = .ok (.bool true) w := by kernel_rfl
theorem As.typeOf25 (v : Value) (w : World) : (ReflectliteType.typeOf #[.iface 85 v]).run Tryz.prog w = .ok (.iface 201 (.agg #[.pointer (some ⟨13, 85, none⟩)])) w := by kernel_rfl
theorem As.assignable25 (w : World) : (ReflectliteType.relation "AssignableTo" ReflectliteType.assignableTo #[.agg #[.pointer (some ⟨13, 85, none⟩)], .iface 201 (.agg #[.pointer (some ⟨13, 85, none⟩)])]).run Tryz.prog w = .ok (.bool true) w := by kernel_rfl
theorem As.valueOf25 (e : Addr) (w : World) : (ReflectliteValue.unpack (.iface 85 (.pointer (some e)))).run Tryz.prog w
    = .ok (.agg #[.pointer (some ⟨13, 85, none⟩), .pointer (some ⟨w.heap.size, 0, none⟩), .int .u64 150]) (w.alloc (.cells #[.pointer (some e)] 85)) := by kernel_rfl
theorem As.elemOf27 (w : World) : (Rtype.elem? 87).run Tryz.prog w = .ok (some 85) w := by kernel_rfl
theorem As.mk25 (p : Addr) (w : World) : (ReflectliteValue.mk 85 p ReflectliteValue.flagAddr).run Tryz.prog w = .ok (.agg #[.pointer (some ⟨13, 85, none⟩), .pointer (some p), .int .u64 406]) w := by kernel_rfl
/-- (Value).Elem at the Value of a **p.E that is not nil: the Value of the *p.E variable that it points to, addressable. -/
theorem As.elemV27 (a p : Addr) (W : World) (ha : W.cell? a = some (.pointer (some p))) :
    (ReflectliteValue.method (ReflectliteValue.valueError "reflectlite.Value.Elem" 0) ReflectliteValue.elem #[.agg #[.pointer (some ⟨13, 87, none⟩), .pointer (some a), .int .u64 150]]).run Tryz.prog W
      = .ok (.agg #[.pointer (some ⟨13, 85, none⟩), .pointer (some p), .int .u64 406]) W := by
  show (Bind.bind (ReflectliteValue.parts (.agg #[.pointer (some ⟨13, 87, none⟩), .pointer (some a), .int .u64 150])) (fun p => _) : Sem Value).run _ _ = _
  simp only [Sem.run_bind, As.parts27, Result.andThen]
  simp [ReflectliteValue.elem, loadVar, isAgg, underlying, Tryz.underlying87, ha, Result.andThen, As.elemOf27, As.mk25]
theorem As.parts25a (a : Addr) (w : World) : (ReflectliteValue.parts (.agg #[.pointer (some ⟨13, 85, none⟩), .pointer (some a), .int .u64 406])).run Tryz.prog w = .ok (some (85, a, 406)) w := by kernel_rfl
theorem As.parts25 (a : Addr) (w : World) : (ReflectliteValue.parts (.agg #[.pointer (some ⟨13, 85, none⟩), .pointer (some a), .int .u64 150])).run Tryz.prog w = .ok (some (85, a, 150)) w := by kernel_rfl
theorem As.direct25 (w : World) : (Rtype.directlyAssignable 85 85).run Tryz.prog w = .ok true w := by kernel_rfl
/-- (Value).Set: the *p.E variable at 'ta' gets what the Value's own variable 'b' holds. -/
theorem As.set25 (ta b e : Addr) (old : Value) (W : World) (hb : W.cell? b = some (.pointer (some e))) (ht : W.cell? ta = some old) (hf : W.frozen? ta = false) :
    (ReflectliteValue.set #[.agg #[.pointer (some ⟨13, 85, none⟩), .pointer (some ta), .int .u64 406], .agg #[.pointer (some ⟨13, 85, none⟩), .pointer (some b), .int .u64 150]]).run Tryz.prog W
      = .ok (.tuple #[]) (W.setCell ta (.pointer (some e))) := by
  show (Bind.bind (ReflectliteValue.parts (.agg #[.pointer (some ⟨13, 85, none⟩), .pointer (some ta), .int .u64 406])) (fun p => Bind.bind (ReflectliteValue.parts (.agg #[.pointer (some ⟨13, 85, none⟩), .pointer (some b), .int .u64 150])) (fun q => _)) : Sem Value).run _ _ = _
  simp only [Sem.run_bind, As.parts25a, As.parts25, Result.andThen]
  simp [ReflectliteValue.flagAddr, loadVar, isAgg, underlying, Tryz.underlying85, hb, Result.andThen, As.direct25, storeVar, Value.cells, storeCells, Addr.add]
  rw [run_store Tryz.prog W ta _ _ (by rfl)]
  simp [ht, hf]
set_option maxRecDepth 100000 in
set_option maxHeartbeats 4000000 in
theorem as_hit (e t : Addr) (old : Value) (w : World) (hg : w.cell? ⟨0, 0, none⟩ = some (.iface 201 (.agg #[.pointer (some ⟨13, 40, none⟩)]))) (ht0 : w.cell? t = some old) (hf0 : w.frozen? t = false) :
    Calls Tryz.prog 40 #[.iface 85 (.pointer (some e)), .iface 87 (.pointer (some t))] w fun ev w' => ev = .returned (.bool true) ∧ w' = ((((w.alloc (.cells #[.pointer (some t)] 87)).alloc (.cells #[.pointer (some ⟨13, 87, none⟩), .pointer (some ⟨w.heap.size, 0, none⟩), .int .u64 150] 140)).alloc (.cells #[.pointer (some ⟨13, 87, none⟩), .pointer (some ⟨w.heap.size, 0, none⟩), .int .u64 150] 140)).alloc (.cells #[.pointer (some e)] 85)).setCell t (.pointer (some e)) := by
  have h6 := @run_callFunc_extern Tryz.prog 67 _ (fun args => ReflectliteValue.unpack (args.getD 0 (.tuple #[]))) Tryz.func67 (by kernel_rfl) (by kernel_rfl) (by kernel_rfl) (by kernel_rfl)
  have h7 := @run_callFunc_extern Tryz.prog 68 _ (ReflectliteValue.methodAny (ReflectliteValue.valueError "reflectlite.Value.Type" 0) (fun t _ _ _ => ReflectliteType.toType t)) Tryz.func68 (by kernel_rfl) (by kernel_rfl) (by kernel_rfl) (by kernel_rfl)
  have h8 := @run_callFunc_extern Tryz.prog 69 _ (ReflectliteValue.method (ReflectliteValue.valueError "reflectlite.Value.IsNil" 0) ReflectliteValue.isNil) Tryz.func69 (by kernel_rfl) (by kernel_rfl) (by kernel_rfl) (by kernel_rfl)
  have h27 := @run_callFunc_extern Tryz.prog 284 _ (ReflectliteType.abiMethod fun t => do pure (.int .u8 (← Rtype.kind t))) Tryz.func284 (by kernel_rfl) (by kernel_rfl) (by kernel_rfl) (by kernel_rfl)
  have h37 := @run_callFunc_extern Tryz.prog 296 _ (ReflectliteType.method ReflectliteType.elem) Tryz.func296 (by kernel_rfl) (by kernel_rfl) (by kernel_rfl) (by kernel_rfl)
  have h38 := @run_callFunc_extern Tryz.prog 297 _ (ReflectliteType.relation "Implements" ReflectliteType.implements_) Tryz.func297 (by kernel_rfl) (by kernel_rfl) (by kernel_rfl) (by kernel_rfl)
  have h10 := @run_callFunc_extern Tryz.prog 71 _ ReflectliteType.typeOf Tryz.func71 (by kernel_rfl) (by kernel_rfl) (by kernel_rfl) (by kernel_rfl)
  have h35 := @run_callFunc_extern Tryz.prog 294 _ (ReflectliteType.relation "AssignableTo" ReflectliteType.assignableTo) Tryz.func294 (by kernel_rfl) (by kernel_rfl) (by kernel_rfl) (by kernel_rfl)
  have h11 := @run_callFunc_extern Tryz.prog 104 _ (ReflectliteValue.method (ReflectliteValue.valueError "reflectlite.Value.Elem" 0) ReflectliteValue.elem) Tryz.func104 (by kernel_rfl) (by kernel_rfl) (by kernel_rfl) (by kernel_rfl)
  have h12 := @run_callFunc_extern Tryz.prog 105 _ ReflectliteValue.set Tryz.func105 (by kernel_rfl) (by kernel_rfl) (by kernel_rfl) (by kernel_rfl)
  have tO := As.typeOf25
  have mA := As.methodAssignableTo
  have a25 := As.assignable25
  have v25 := As.valueOf25
  have f6 := As.valueOf27
  have f7 := As.type27
  have mK := As.methodKind
  have mE := As.methodElem
  have mI := As.methodImplements
  have k27 := As.kind27
  have k25 := As.kind25
  have e27 := As.elem27
  have i25 := As.implements25
  have n8 := As.isNil27 ⟨w.heap.size, 0, none⟩ t ((w.alloc (.cells #[.pointer (some t)] 87)).alloc (.cells #[.pointer (some ⟨13, 87, none⟩), .pointer (some ⟨w.heap.size, 0, none⟩), .int .u64 150] 140)) (by simp)
  have hlt : 0 < w.heap.size := by
    rcases Nat.eq_zero_or_pos w.heap.size with h0 | h
    · simp [World.cell?, h0] at hg
    · exact h
  have hg2 : ((w.alloc (.cells #[.pointer (some t)] 87)).alloc (.cells #[.pointer (some ⟨13, 87, none⟩), .pointer (some ⟨w.heap.size, 0, none⟩), .int .u64 150] 140)).cell? ⟨0, 0, none⟩ = some (.iface 201 (.agg #[.pointer (some ⟨13, 40, none⟩)])) := by
    rw [World.cell?_alloc_lt _ _ ⟨0, 0, none⟩ (by simp <;> omega), World.cell?_alloc_lt _ _ ⟨0, 0, none⟩ hlt]; exact hg
  have htl : t.block < w.heap.size := by
    rcases Nat.lt_or_ge t.block w.heap.size with h | h
    · exact h
    · simp [World.cell?, Array.getElem?_eq_none h] at ht0
  have el := As.elemV27 ⟨w.heap.size, 0, none⟩ t (((w.alloc (.cells #[.pointer (some t)] 87)).alloc (.cells #[.pointer (some ⟨13, 87, none⟩), .pointer (some ⟨w.heap.size, 0, none⟩), .int .u64 150] 140)).alloc (.cells #[.pointer (some ⟨13, 87, none⟩), .pointer (some ⟨w.heap.size, 0, none⟩), .int .u64 150] 140)) (by rw [World.cell?_alloc_lt _ _ ⟨w.heap.size, 0, none⟩ (by simp; omega)]; simp)
  have st := As.set25 t ⟨w.heap.size + 1 + 1 + 1, 0, none⟩ e old ((((w.alloc (.cells #[.pointer (some t)] 87)).alloc (.cells #[.pointer (some ⟨13, 87, none⟩), .pointer (some ⟨w.heap.size, 0, none⟩), .int .u64 150] 140)).alloc (.cells #[.pointer (some ⟨13, 87, none⟩), .pointer (some ⟨w.heap.size, 0, none⟩), .int .u64 150] 140)).alloc (.cells #[.pointer (some e)] 85))
    (by rw [World.cell?_alloc_at _ _ _ _ (by simp)]; rfl)
    (by rw [World.cell?_alloc_lt _ _ t (by simp; omega), World.cell?_alloc_lt _ _ t (by simp; omega), World.cell?_alloc_lt _ _ t (by simp; omega), World.cell?_alloc_lt _ _ t htl]; exact ht0)
    (by rw [World.frozen?_alloc_old _ _ t (by simp; omega), World.frozen?_alloc_old _ _ t (by simp; omega), World.frozen?_alloc_old _ _ t (by simp; omega), World.frozen?_alloc_old _ _ t (Nat.ne_of_lt htl)]; exact hf0)
  go_enter Tryz.func40, Tryz.ntmps40
  go_wp2
  refine wp_loop_rounds 1 ?_
  rw [rounds_succ]
  go_wp2
  go_ret
  exact ⟨rfl, rfl⟩
end Go.Proofs.YtamfmffdgidmgaaGreatDoor
end
