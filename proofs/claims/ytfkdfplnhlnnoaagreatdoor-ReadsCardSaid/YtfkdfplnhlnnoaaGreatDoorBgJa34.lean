import Derived.LaidEql
import Derived.RowKitTokens
import Derived.Stop.Asserts
import Derived.Test.YtfkdfplnhlnnoaaGreatDoorBgJa33
section
namespace Go.Proofs.YtfkdfplnhlnnoaaGreatDoor
open Go.RowKit Go.Extern.Stop Go.Stop Go.Extern
theorem As.valueOf27 (t : Addr) (w : World) : (ReflectliteValue.unpack (.iface 78 (.pointer (some t)))).run Tryz.prog w
    = .ok (.agg #[.pointer (some ⟨13, 78, none⟩), .pointer (some ⟨w.heap.size, 0, none⟩), .int .u64 150]) (w.alloc (.cells #[.pointer (some t)] 78)) := by kernel_rfl
theorem As.type27 (a : Addr) (w : World) : (ReflectliteValue.methodAny (ReflectliteValue.valueError "reflectlite.Value.Type" 0) (fun t _ _ _ => ReflectliteType.toType t) #[.agg #[.pointer (some ⟨13, 78, none⟩), .pointer (some a), .int .u64 150]]).run Tryz.prog w
    = .ok (.iface 147 (.agg #[.pointer (some ⟨13, 78, none⟩)])) w := by kernel_rfl
theorem As.methodKind (h : Value) (w : World) : (Go.method 499 147 (.agg #[h]) "Kind").run Tryz.prog w = .ok (223, h) w := by kernel_rfl
theorem As.kind27 (w : World) : ((ReflectliteType.abiMethod fun t => (fun a : Nat => Value.int IntKind.u8 (a : Int)) <$> Rtype.kind t) #[.pointer (some ⟨13, 78, none⟩)]).run Tryz.prog w = .ok (.int .u8 22) w := by kernel_rfl
theorem As.kind25 (w : World) : ((ReflectliteType.abiMethod fun t => (fun a : Nat => Value.int IntKind.u8 (a : Int)) <$> Rtype.kind t) #[.pointer (some ⟨13, 76, none⟩)]).run Tryz.prog w = .ok (.int .u8 22) w := by kernel_rfl
theorem As.parts27 (a : Addr) (w : World) : (ReflectliteValue.parts (.agg #[.pointer (some ⟨13, 78, none⟩), .pointer (some a), .int .u64 150])).run Tryz.prog w = .ok (some (78, a, 150)) w := by kernel_rfl
/-- (Value).IsNil at the Value of a **p.E that is not nil. -/
theorem As.isNil27 (a p : Addr) (W : World) (ha : W.cell? a = some (.pointer (some p))) :
    (ReflectliteValue.method (ReflectliteValue.valueError "reflectlite.Value.IsNil" 0) ReflectliteValue.isNil #[.agg #[.pointer (some ⟨13, 78, none⟩), .pointer (some a), .int .u64 150]]).run Tryz.prog W = .ok (.bool false) W := by
  show (Bind.bind (ReflectliteValue.parts (.agg #[.pointer (some ⟨13, 78, none⟩), .pointer (some a), .int .u64 150])) (fun p => _) : Sem Value).run _ _ = _
  simp only [Sem.run_bind, As.parts27, Result.andThen]
  simp [ReflectliteValue.isNil, loadVar, isAgg, underlying, Tryz.underlying78, ha, Result.andThen]
theorem As.methodElem (h : Value) (w : World) : (Go.method 499 147 (.agg #[h]) "Elem").run Tryz.prog w = .ok (236, .agg #[h]) w := by kernel_rfl
theorem As.methodImplements (h : Value) (w : World) : (Go.method 499 147 (.agg #[h]) "Implements").run Tryz.prog w = .ok (237, .agg #[h]) w := by kernel_rfl
theorem As.methodAssignableTo (h : Value) (w : World) : (Go.method 499 147 (.agg #[h]) "AssignableTo").run Tryz.prog w = .ok (234, .agg #[h]) w := by kernel_rfl
theorem As.elem27 (w : World) : (ReflectliteType.method ReflectliteType.elem #[.agg #[.pointer (some ⟨13, 78, none⟩)]]).run Tryz.prog w = .ok (.iface 147 (.agg #[.pointer (some ⟨13, 76, none⟩)])) w := by kernel_rfl
theorem As.implements25 (w : World) : (ReflectliteType.relation "Implements" ReflectliteType.implements_ #[.agg #[.pointer (some ⟨13, 76, none⟩)], .iface 147 (.agg #[.pointer (some ⟨13, 36, none⟩)])]).run Tryz.prog w = .ok (.bool true) w := by kernel_rfl
theorem As.typeOf25 (v : Value) (w : World) : (ReflectliteType.typeOf #[.iface 76 v]).run Tryz.prog w = .ok (.iface 147 (.agg #[.pointer (some ⟨13, 76, none⟩)])) w := by kernel_rfl
theorem As.assignable25 (w : World) : (ReflectliteType.relation "AssignableTo" ReflectliteType.assignableTo #[.agg #[.pointer (some ⟨13, 76, none⟩)], .iface 147 (.agg #[.pointer (some ⟨13, 76, none⟩)])]).run Tryz.prog w = .ok (.bool true) w := by kernel_rfl
theorem As.valueOf25 (e : Addr) (w : World) : (ReflectliteValue.unpack (.iface 76 (.pointer (some e)))).run Tryz.prog w
    = .ok (.agg #[.pointer (some ⟨13, 76, none⟩), .pointer (some ⟨w.heap.size, 0, none⟩), .int .u64 150]) (w.alloc (.cells #[.pointer (some e)] 76)) := by kernel_rfl
theorem As.elemOf27 (w : World) : (Rtype.elem? 78).run Tryz.prog w = .ok (some 76) w := by kernel_rfl
theorem As.mk25 (p : Addr) (w : World) : (ReflectliteValue.mk 76 p ReflectliteValue.flagAddr).run Tryz.prog w = .ok (.agg #[.pointer (some ⟨13, 76, none⟩), .pointer (some p), .int .u64 406]) w := by kernel_rfl
/-- (Value).Elem at the Value of a **p.E that is not nil: the Value of the *p.E variable that it points to, addressable. -/
theorem As.elemV27 (a p : Addr) (W : World) (ha : W.cell? a = some (.pointer (some p))) :
    (ReflectliteValue.method (ReflectliteValue.valueError "reflectlite.Value.Elem" 0) ReflectliteValue.elem #[.agg #[.pointer (some ⟨13, 78, none⟩), .pointer (some a), .int .u64 150]]).run Tryz.prog W
      = .ok (.agg #[.pointer (some ⟨13, 76, none⟩), .pointer (some p), .int .u64 406]) W := by
  show (Bind.bind (ReflectliteValue.parts (.agg #[.pointer (some ⟨13, 78, none⟩), .pointer (some a), .int .u64 150])) (fun p => _) : Sem Value).run _ _ = _
  simp only [Sem.run_bind, As.parts27, Result.andThen]
  simp [ReflectliteValue.elem, loadVar, isAgg, underlying, Tryz.underlying78, ha, Result.andThen, As.elemOf27, As.mk25]
theorem As.parts25a (a : Addr) (w : World) : (ReflectliteValue.parts (.agg #[.pointer (some ⟨13, 76, none⟩), .pointer (some a), .int .u64 406])).run Tryz.prog w = .ok (some (76, a, 406)) w := by kernel_rfl
theorem As.parts25 (a : Addr) (w : World) : (ReflectliteValue.parts (.agg #[.pointer (some ⟨13, 76, none⟩), .pointer (some a), .int .u64 150])).run Tryz.prog w = .ok (some (76, a, 150)) w := by kernel_rfl
theorem As.direct25 (w : World) : (Rtype.directlyAssignable 76 76).run Tryz.prog w = .ok true w := by kernel_rfl
/-- (Value).Set: the *p.E variable at 'ta' gets what the Value's own variable 'b' holds. -/
theorem As.set25 (ta b e : Addr) (old : Value) (W : World) (hb : W.cell? b = some (.pointer (some e))) (ht : W.cell? ta = some old) (hf : W.frozen? ta = false) :
    (ReflectliteValue.set #[.agg #[.pointer (some ⟨13, 76, none⟩), .pointer (some ta), .int .u64 406], .agg #[.pointer (some ⟨13, 76, none⟩), .pointer (some b), .int .u64 150]]).run Tryz.prog W
      = .ok (.tuple #[]) (W.setCell ta (.pointer (some e))) := by
  show (Bind.bind (ReflectliteValue.parts (.agg #[.pointer (some ⟨13, 76, none⟩), .pointer (some ta), .int .u64 406])) (fun p => Bind.bind (ReflectliteValue.parts (.agg #[.pointer (some ⟨13, 76, none⟩), .pointer (some b), .int .u64 150])) (fun q => _)) : Sem Value).run _ _ = _
  simp only [Sem.run_bind, As.parts25a, As.parts25, Result.andThen]
  simp [ReflectliteValue.flagAddr, loadVar, isAgg, underlying, Tryz.underlying76, hb, Result.andThen, As.direct25, storeVar, Value.cells, storeCells, Addr.add]
  rw [run_store Tryz.prog W ta _ _ (by rfl)]
  simp [ht, hf]
set_option maxRecDepth 100000 in
set_option maxHeartbeats 4000000 in
theorem as_hit (e t : Addr) (old : Value) (w : World) (hg : w.cell? ⟨0, 0, none⟩ = some (.iface 147 (.agg #[.pointer (some ⟨13, 36, none⟩)]))) (ht0 : w.cell? t = some old) (hf0 : w.frozen? t = false) :
    Calls Tryz.prog 30 #[.iface 76 (.pointer (some e)), .iface 78 (.pointer (some t))] w fun ev w' => ev = .returned (.bool true) ∧ w' = ((((w.alloc (.cells #[.pointer (some t)] 78)).alloc (.cells #[.pointer (some ⟨13, 78, none⟩), .pointer (some ⟨w.heap.size, 0, none⟩), .int .u64 150] 116)).alloc (.cells #[.pointer (some ⟨13, 78, none⟩), .pointer (some ⟨w.heap.size, 0, none⟩), .int .u64 150] 116)).alloc (.cells #[.pointer (some e)] 76)).setCell t (.pointer (some e)) := by
  have h6 := @run_callFunc_extern Tryz.prog 49 _ (fun args => ReflectliteValue.unpack (args.getD 0 (.tuple #[]))) Tryz.func49 (by kernel_rfl) (by kernel_rfl) (by kernel_rfl) (by kernel_rfl)
  have h7 := @run_callFunc_extern Tryz.prog 50 _ (ReflectliteValue.methodAny (ReflectliteValue.valueError "reflectlite.Value.Type" 0) (fun t _ _ _ => ReflectliteType.toType t)) Tryz.func50 (by kernel_rfl) (by kernel_rfl) (by kernel_rfl) (by kernel_rfl)
  have h8 := @run_callFunc_extern Tryz.prog 51 _ (ReflectliteValue.method (ReflectliteValue.valueError "reflectlite.Value.IsNil" 0) ReflectliteValue.isNil) Tryz.func51 (by kernel_rfl) (by kernel_rfl) (by kernel_rfl) (by kernel_rfl)
  have h27 := @run_callFunc_extern Tryz.prog 223 _ (ReflectliteType.abiMethod fun t => do pure (.int .u8 (← Rtype.kind t))) Tryz.func223 (by kernel_rfl) (by kernel_rfl) (by kernel_rfl) (by kernel_rfl)
  have h37 := @run_callFunc_extern Tryz.prog 236 _ (ReflectliteType.method ReflectliteType.elem) Tryz.func236 (by kernel_rfl) (by kernel_rfl) (by kernel_rfl) (by kernel_rfl)
  have h38 := @run_callFunc_extern Tryz.prog 237 _ (ReflectliteType.relation "Implements" ReflectliteType.implements_) Tryz.func237 (by kernel_rfl) (by kernel_rfl) (by kernel_rfl) (by kernel_rfl)
  have h10 := @run_callFunc_extern Tryz.prog 53 _ ReflectliteType.typeOf Tryz.func53 (by kernel_rfl) (by kernel_rfl) (by kernel_rfl) (by kernel_rfl)
  have h35 := @run_callFunc_extern Tryz.prog 234 _ (ReflectliteType.relation "AssignableTo" ReflectliteType.assignableTo) Tryz.func234 (by kernel_rfl) (by kernel_rfl) (by kernel_rfl) (by kernel_rfl)
  have h11 := @run_callFunc_extern Tryz.prog 71 _ (ReflectliteValue.method (ReflectliteValue.valueError "reflectlite.Value.Elem" 0) ReflectliteValue.elem) Tryz.func71 (by kernel_rfl) (by kernel_rfl) (by kernel_rfl) (by kernel_rfl)
  have h12 := @run_callFunc_extern Tryz.prog 72 _ ReflectliteValue.set Tryz.func72 (by kernel_rfl) (by kernel_rfl) (by kernel_rfl) (by kernel_rfl)
  have tO := As.typeOf25
  have mA := As.methodAssignableTo
  have a25 := As.assignable25
  have v25 := As.valueOf25
  have f6 := As.valueOf27
  have f7 := As.type27
  have mK := As.methodKind
  have mE := As.methodElem
  have mI := As.methodImplements
  have k27 := As.kind27
  have k25 := As.kind25
  have e27 := As.elem27
  have i25 := As.implements25
  have n8 := As.isNil27 ⟨w.heap.size, 0, none⟩ t ((w.alloc (.cells #[.pointer (some t)] 78)).alloc (.cells #[.pointer (some ⟨13, 78, none⟩), .pointer (some ⟨w.heap.size, 0, none⟩), .int .u64 150] 116)) (by simp)
  have hlt : 0 < w.heap.size := by
    rcases Nat.eq_zero_or_pos w.heap.size with h0 | h
    · simp [World.cell?, h0] at hg
    · exact h
  have hg2 : ((w.alloc (.cells #[.pointer (some t)] 78)).alloc (.cells #[.pointer (some ⟨13, 78, none⟩), .pointer (some ⟨w.heap.size, 0, none⟩), .int .u64 150] 116)).cell? ⟨0, 0, none⟩ = some (.iface 147 (.agg #[.pointer (some ⟨13, 36, none⟩)])) := by
    rw [World.cell?_alloc_lt _ _ ⟨0, 0, none⟩ (by simp <;> omega), World.cell?_alloc_lt _ _ ⟨0, 0, none⟩ hlt]; exact hg
  have htl : t.block < w.heap.size := by
    rcases Nat.lt_or_ge t.block w.heap.size with h | h
    · exact h
    · simp [World.cell?, Array.getElem?_eq_none h] at ht0
  have el := As.elemV27 ⟨w.heap.size, 0, none⟩ t (((w.alloc (.cells #[.pointer (some t)] 78)).alloc (.cells #[.pointer (some ⟨13, 78, none⟩), .pointer (some ⟨w.heap.size, 0, none⟩), .int .u64 150] 116)).alloc (.cells #[.pointer (some ⟨13, 78, none⟩), .pointer (some ⟨w.heap.size, 0, none⟩), .int .u64 150] 116)) (by rw [World.cell?_alloc_lt _ _ ⟨w.heap.size, 0, none⟩ (by simp; omega)]; simp)
  have st := As.set25 t ⟨w.heap.size + 1 + 1 + 1, 0, none⟩ e old ((((w.alloc (.cells #[.pointer (some t)] 78)).alloc (.cells #[.pointer (some ⟨13, 78, none⟩), .pointer (some ⟨w.heap.size, 0, none⟩), .int .u64 150] 116)).alloc (.cells #[.pointer (some ⟨13, 78, none⟩), .pointer (some ⟨w.heap.size, 0, none⟩), .int .u64 150] 116)).alloc (.cells #[.pointer (some e)] 76))
    (by rw [World.cell?_alloc_at _ _ _ _ (by simp)]; rfl)
    (by rw [World.cell?_alloc_lt _ _ t (by simp; omega), World.cell?_alloc_lt _ _ t (by simp; omega), World.cell?_alloc_lt _ _ t (by simp; omega), World.cell?_alloc_lt _ _ t htl]; exact ht0)
    (by rw [World.frozen?_alloc_old _ _ t (by simp; omega), World.frozen?_alloc_old _ _ t (by simp; omega), World.frozen?_alloc_old _ _ t (by simp; omega), World.frozen?_alloc_old _ _ t (Nat.ne_of_lt htl)]; exact hf0)
  go_enter Tryz.func30, Tryz.ntmps30
  go_wp2
  refine wp_loop_rounds 1 ?_
  rw [rounds_succ]
  go_wp2
  go_ret
  exact ⟨rfl, rfl⟩
end Go.Proofs.YtfkdfplnhlnnoaaGreatDoor
end
section
namespace Go.Proofs.YtfkdfplnhlnnoaaGreatDoor
open Go.RowKit Go.Extern.Stop Go.Stop Go.Extern
theorem run_equalIn_errno {P : Program} (w : World) (d : Nat) {ti tn : TypeId} {ms : Array (String × TypeId)} {i : TypeInfo} {k : IntKind} (a b : Int)
    (hi : P.underlying ti = some (.interface ms)) (hn : P.underlying tn = some (.int k)) (hinfo : P.info? tn = some i) (hcomp : i.comparable = true) :
    (Op.equalIn (d + 2) ti (.iface tn (.int k a)) (.iface tn (.int k b))).run P w = .ok (a == b) w := by
  simp [Op.equalIn, run_underlying hi, run_underlying hn, typeInfo, hinfo, hcomp]
theorem run_eql_errno {P : Program} (w : World) {ti tn : TypeId} {ms : Array (String × TypeId)} {i : TypeInfo} {k : IntKind} (a b : Int)
    (hi : P.underlying ti = some (.interface ms)) (hn : P.underlying tn = some (.int k)) (hinfo : P.info? tn = some i) (hcomp : i.comparable = true) :
    (binOp .eql ti (.iface tn (.int k a)) (.iface tn (.int k b))).run P w = .ok (.bool (a == b)) w := by
  simp only [binOp]
  simp [Op.equal, Op.maxDepth, run_equalIn_errno w 9998 a b hi hn hinfo hcomp]
theorem Is.typeOf (v : Value) (w : World) : (ReflectliteType.typeOf #[.iface 70 v]).run Tryz.prog w = .ok (.iface 147 (.agg #[.pointer (some ⟨13, 70, none⟩)])) w := by kernel_rfl
def Is.cmpEntry (t : TypeId) : Sem Value := do Rtype.noPackHeld "Comparable" t; pure (.bool (← typeInfo t).comparable)
theorem Is.comparable (w : World) : (ReflectliteType.method Is.cmpEntry #[.agg #[.pointer (some ⟨13, 70, none⟩)]]).run Tryz.prog w = .ok (.bool true) w := by kernel_rfl
theorem Is.methodComparable (v : Value) (w : World) : (Go.method 499 147 v "Comparable").run Tryz.prog w = .ok (235, v) w := by kernel_rfl
theorem Is.comp : (Tryz.prog.info? 70).map (·.comparable) = some true := by kernel_rfl
theorem Is.noIsE (v : Value) (xT : TypeId) (w : World) : (Instr.typeAssert (.iface 70 v) xT 159 true).run Tryz.prog w = .ok (.tuple #[.nilIface, .bool false]) w := run_typeAssert_lacksB Tryz.underlying159 (by kernel_rfl) (by kernel_rfl) v xT w
theorem Is.noUnwrapE (v : Value) (xT : TypeId) (w : World) : (Instr.typeAssert (.iface 70 v) xT 154 true).run Tryz.prog w = .ok (.tuple #[.nilIface, .bool false]) w := run_typeAssert_lacksB Tryz.underlying154 (by kernel_rfl) (by kernel_rfl) v xT w
theorem Is.noUnwrapsE (v : Value) (xT : TypeId) (w : World) : (Instr.typeAssert (.iface 70 v) xT 156 true).run Tryz.prog w = .ok (.tuple #[.nilIface, .bool false]) w := run_typeAssert_lacksB Tryz.underlying156 (by kernel_rfl) (by kernel_rfl) v xT w
theorem Is.noIsF (v : Value) (xT : TypeId) (w : World) : (Instr.typeAssert (.iface 76 v) xT 159 true).run Tryz.prog w = .ok (.tuple #[.nilIface, .bool false]) w := run_typeAssert_lacksB Tryz.underlying159 (by kernel_rfl) (by kernel_rfl) v xT w
theorem Is.hasUnwrapF (v : Value) (xT : TypeId) (w : World) : (Instr.typeAssert (.iface 76 v) xT 154 true).run Tryz.prog w = .ok (.tuple #[.iface 76 v, .bool true]) w := run_typeAssert_hasB Tryz.underlying154 (by kernel_rfl) v xT w
theorem Is.methodUnwrap (v : Value) (w : World) : (Go.method 499 76 v "Unwrap").run Tryz.prog w = .ok (229, v) w := by kernel_rfl
set_option maxRecDepth 100000 in
set_option maxHeartbeats 1000000 in
theorem is_fault (p : Addr) (kind k : Int) (w : World) (h0 : w.cell? p = some (.int .i64 kind)) :
    Calls Tryz.prog 31 #[.iface 76 (.pointer (some p)), .iface 70 (.int .i64 k)] w fun e w' => e = .returned (.bool (kind == k)) ∧ w = w' := by
  obtain ⟨i, hi, hcmp⟩ := Option.map_eq_some_iff.1 Is.comp
  have hT := @run_callFunc_extern Tryz.prog 53 _ ReflectliteType.typeOf Tryz.func53 (by kernel_rfl) (by kernel_rfl) (by kernel_rfl) (by kernel_rfl)
  have hC := @run_callFunc_extern Tryz.prog 235 _ (ReflectliteType.method Is.cmpEntry) Tryz.func235 (by kernel_rfl) (by kernel_rfl) (by kernel_rfl) (by kernel_rfl)
  have tT := Is.typeOf
  have cT := Is.comparable
  have mR := Is.methodComparable
  have nE := Is.noIsE
  have uE := Is.noUnwrapE
  have vE := Is.noUnwrapsE
  have nF := Is.noIsF
  have uF := Is.hasUnwrapF
  have mU := Is.methodUnwrap
  have he1 := run_eql_iface_types (P := Tryz.prog) 76 70 (.pointer (some p)) (.int .i64 k) Tryz.underlying36 (by decide) w
  have he2 := run_eql_errno (P := Tryz.prog) w kind k Tryz.underlying36 Tryz.underlying70 hi hcmp
  cases hk : (kind == k)
  · go_enter Tryz.func31, Tryz.ntmps31
    go_wp2
    refine wp_loop_rounds 2 ?_
    rw [rounds_succ]
    go_wp2
    rw [rounds_succ]
    go_wp2
    go_ret
    exact ⟨rfl, rfl⟩
  · go_enter Tryz.func31, Tryz.ntmps31
    go_wp2
    refine wp_loop_rounds 2 ?_
    rw [rounds_succ]
    go_wp2
    rw [rounds_succ]
    go_wp2
    go_ret
    exact ⟨rfl, rfl⟩
end Go.Proofs.YtfkdfplnhlnnoaaGreatDoor
end
section
namespace Go.Proofs.YtfkdfplnhlnnoaaGreatDoor
open Go.RowKit
theorem as_fault (e : Addr) (tb : Nat) (old : Value) (w : World) (hg : w.cell? ⟨0, 0, none⟩ = some (.iface 147 (.agg #[.pointer (some ⟨13, 36, none⟩)])))
    (ht0 : w.cell? ⟨tb, 0, none⟩ = some old) (hf0 : w.frozen? ⟨tb, 0, none⟩ = false) :
    Calls Tryz.prog 30 #[.iface 76 (.pointer (some e)), .iface 78 (.pointer (some ⟨tb, 0, none⟩))] w fun ev w' => ev = .returned (.bool true) ∧ w'.cell? ⟨tb, 0, none⟩ = some (.pointer (some e)) ∧ Below tb w w' := by
  have hlt : tb < w.heap.size := World.block_lt_of_cell? w ⟨tb, 0, none⟩ ht0
  refine (as_hit e ⟨tb, 0, none⟩ old w hg ht0 hf0).mono ?_
  rintro ev w' ⟨rfl, rfl⟩
  refine ⟨rfl, ?_, ?_⟩
  · refine World.cell?_setCell_same' _ _ _ ?_
    rw [World.cell?_alloc_lt _ _ ⟨tb, 0, none⟩ (by simp; omega), World.cell?_alloc_lt _ _ ⟨tb, 0, none⟩ (by simp; omega), World.cell?_alloc_lt _ _ ⟨tb, 0, none⟩ (by simp; omega), World.cell?_alloc_lt _ _ ⟨tb, 0, none⟩ hlt, ht0]
    rfl
  · exact (((((Below.refl tb w).alloc (by omega) _).alloc (by simp; omega) _).alloc (by simp; omega) _).alloc (by simp; omega) _).setCell (p := ⟨tb, 0, none⟩) (Nat.le_refl _) _
set_option maxRecDepth 100000 in
set_option maxHeartbeats 1000000 in
theorem parts_nil (w : World) :
    Calls Tryz.prog 12 #[.nilIface] w fun e w' => e = .returned (.tuple #[.int .i64 0, .int .i64 0]) ∧ w = w' := by
  go_enter Tryz.func12, Tryz.ntmps12
  go_wp2
  go_ret2
  exact ⟨rfl, rfl⟩
set_option maxRecDepth 100000 in
set_option maxHeartbeats 1000000 in
theorem parts_fault (b : Nat) (kind at_ : Int) (w : World) (h1 : 1 ≤ kind) (h9 : kind ≤ 9) (h0 : w.cell? ⟨b, 0, none⟩ = some (.int .i64 kind)) (ha : w.cell? ⟨b, 1, none⟩ = some (.int .i64 at_))
    (hg : w.cell? ⟨0, 0, none⟩ = some (.iface 147 (.agg #[.pointer (some ⟨13, 36, none⟩)]))) :
    Calls Tryz.prog 12 #[.iface 76 (.pointer (some ⟨b, 0, none⟩))] w fun e w' => e = .returned (.tuple #[.int .i64 kind, .int .i64 at_]) ∧ Below w.heap.size w w' := by
  go_enter Tryz.func12, Tryz.ntmps12
  go_wp2_with fail
  have hbl : b < w.heap.size := World.block_lt_of_cell? w ⟨b, 0, none⟩ h0
  have hgl : 0 < w.heap.size := World.block_lt_of_cell? w ⟨0, 0, none⟩ hg
  refine (as_fault ⟨b, 0, none⟩ w.heap.size (.pointer none) _ ?_ ?_ ?_).mono ?_
  · rw [World.cell?_alloc_lt _ _ ⟨0, 0, none⟩ hgl]; exact hg
  · simp
  · simp
  rintro e w1 ⟨rfl, hcf, hB⟩
  have hB1 : Below w.heap.size w w1 := ((Below.refl _ w).alloc (Nat.le_refl _) _).trans hB
  have hck : w1.cell? ⟨b, 0, none⟩ = some (.int .i64 kind) := (hB1.cell (p := ⟨b, 0, none⟩) hbl).trans h0
  have hca : w1.cell? ⟨b, 1, none⟩ = some (.int .i64 at_) := (hB1.cell (p := ⟨b, 1, none⟩) hbl).trans ha
  clear hB
  go_wp2_with fail
  go_loopw [5] (fun k wr => ∃ j : Nat, j ≤ 10 ∧ k = .int .i64 j ∧ wr.cell? ⟨w.heap.size, 0, none⟩ = some (.pointer (some ⟨b, 0, none⟩)) ∧ wr.cell? ⟨b, 0, none⟩ = some (.int .i64 kind) ∧ wr.cell? ⟨b, 1, none⟩ = some (.int .i64 at_) ∧ Below w.heap.size w wr)
    (fun k _ => 10 - (intOf k).toNat)
  case atStart => exact ⟨0, by omega, rfl, hcf, hck, hca, hB1⟩
  case round =>
    clear hcf hck hca hB1
    obtain ⟨j, hj, rfl, hcf, hck, hca, hB1⟩ := hrel
    by_cases hlt : j ≤ 9
    · go_wp2_with fail
      go_quiet ((go_at_call 31; exact Calls.quiet_of_same ((is_fault ⟨b, 0, none⟩ kind j _ (by simpa using hck)).mono (fun _ _ h => ⟨h.1, h.2.symm⟩))))
      go_wp2
      · have hx : (!(kind == (j : Int)) == ((j : Int) == kind)) = true := by assumption
        exfalso
        rw [show ((j : Int) == kind) = (kind == (j : Int)) from by rw [Bool.eq_iff_iff]; simp; omega] at hx
        cases hk : (kind == (j : Int)) <;> rw [hk] at hx <;> cases hx
      · refine ⟨⟨j + 1, by omega, by go_num, by simpa using hcf, by simpa using hck, by simpa using hca, Go.below_drewN hB1 _⟩, by simp [intOf] <;> omega⟩
    · have hk0 : (kind == 0) = false := by simp; omega
      go_wp2
      go_quiet (fail)
      go_wp2
      go_ret2
      exact ⟨rfl, Go.below_drewN hB1 _⟩
end Go.Proofs.YtfkdfplnhlnnoaaGreatDoor
end
section
namespace Go.Proofs.YtfkdfplnhlnnoaaGreatDoor
open Go.RowKit
set_option linter.unusedSimpArgs false
set_option linter.unusedVariables false
theorem cell_of_heap {w : World} {b : Nat} {v : Value} {ty : TypeId} {fr : Nat × Nat} (h : w.heap[b]? = some (.cells #[v] ty fr)) : w.cell? ⟨b, 0, none⟩ = some v := by simp [World.cell?, h]
end Go.Proofs.YtfkdfplnhlnnoaaGreatDoor
end
section
namespace Go.Proofs.YtfkdfplnhlnnoaaGreatDoor
open Go.RowKit
set_option linter.unusedSimpArgs false
set_option linter.unusedVariables false
/-- package errors' variable, as it is laid -/
def ErrType (w : World) : Prop := w.cell? ⟨0, 0, none⟩ = some (.iface 147 (.agg #[.pointer (some ⟨13, 36, none⟩)]))
end Go.Proofs.YtfkdfplnhlnnoaaGreatDoor
end
section
namespace Go.Proofs.YtfkdfplnhlnnoaaGreatDoor
open Go.RowKit
namespace Gr
set_option linter.unusedSimpArgs false
set_option linter.unusedVariables false
open NT
/-- the text is a query, and this is its print -/
def AnsP (s p : Bg.Str) : Prop := ∃ l t, rWords s = .ok l ∧ G query (l.map tok) ∧ deep l = false ∧ D query l t ∧ p = pr t
/-- the text is no query: the error and its place -/
def AnsE (s : Bg.Str) (k a : Int) : Prop :=
  match rWords s with
  | .error n => k = 2 ∧ a = n
  | .ok l => (¬ G query (l.map tok) ∧ k = 3 ∧ a = 0) ∨ (G query (l.map tok) ∧ deep l = true ∧ k = 4 ∧ a = 0)
theorem AnsE.kind {s : Bg.Str} {k a : Int} (h : AnsE s k a) : 1 ≤ k ∧ k ≤ 9 := by
  unfold AnsE at h
  split at h
  · omega
  · rcases h with ⟨_, h, _⟩ | ⟨_, _, h, _⟩ <;> omega
/-- the fault's cells -/
def FaultAt (s : Bg.Str) (b : Nat) (w : World) : Prop := ∃ k a, AnsE s k a ∧ w.cell? ⟨b, 0, none⟩ = some (.int .i64 k) ∧ w.cell? ⟨b, 1, none⟩ = some (.int .i64 a)
set_option maxRecDepth 10000 in
set_option maxHeartbeats 1000000 in
theorem b_print1 (pd : Addr) (s : Bg.Str) (w : World) (hs : s.length ≤ 90000) (hc : w.cell? pd = some (.string ⟨s.toArray⟩)) (hE : WEnv w) (hSp : Spaces w) (hp : Pows w) :
    Calls Tryz.prog 38 #[.pointer (some pd)] w fun e w2 => Below w.heap.size w w2 ∧
      ((∃ q, e = .returned (.string ⟨q.toArray⟩) ∧ AnsP s q) ∨ (∃ b, e = .panicked (thrown b) ∧ FaultAt s b w2)) := by
  have hq := p_Query s w hs hE hSp
  have HE : Hid (∀ n, rWords s = .error n → AnsE s 2 n) := fun n h => by unfold AnsE; rw [h]; exact ⟨rfl, rfl⟩
  have HO : Hid (∀ l, rWords s = .ok l → ((¬ G query (l.map tok) → AnsE s 3 0) ∧ (G query (l.map tok) → deep l = true → AnsE s 4 0) ∧ (G query (l.map tok) → deep l = false → ∀ t, D query l t → AnsP s (pr t) ∧ Good t))) := fun l h => by
    refine ⟨fun h1 => ?_, fun h1 h2 => ?_, fun h1 h2 t h3 => ⟨⟨l, t, h, h1, h2, h3, rfl⟩, read_good h h3⟩⟩
    · unfold AnsE; rw [h]; exact .inl ⟨h1, rfl, rfl⟩
    · unfold AnsE; rw [h]; exact .inr ⟨h1, h2, rfl, rfl⟩
  generalize rWords s = R at hq HE HO
  go_enter Tryz.func38, Tryz.ntmps38
  go_wp2_with fail
  refine hq.mono ?_
  clear hq
  cases R with
  | error n =>
    rintro e w1 ⟨b, rfl, h1, h2, h3⟩
    go_wp2
    exact ⟨rfl, h3, .inr ⟨b, rfl, 2, n, HE.out n rfl, h1, h2⟩⟩
  | ok l =>
    rintro e w1 (⟨hG, b, rfl, h1, h2, h3⟩ | ⟨hG, hd, b, rfl, h1, h2, h3⟩ | ⟨hG, hd, hB, Pb, n, y, t, rfl, hD, hR⟩)
    · have HA : Hid (AnsE s 3 0) := (HO.out l rfl).1 hG
      clear hG
      go_wp2
      exact ⟨rfl, h3, .inr ⟨b, rfl, 3, 0, HA.out, h1, h2⟩⟩
    · have HA : Hid (AnsE s 4 0) := (HO.out l rfl).2.1 hG hd
      clear hG hd
      go_wp2
      exact ⟨rfl, h3, .inr ⟨b, rfl, 4, 0, HA.out, h1, h2⟩⟩
    · obtain ⟨hA, hgd⟩ := (HO.out l rfl).2.2 hG hd t hD
      have HA : Hid (AnsP s (pr t)) := hA
      have hbig := Nat.le_trans hE.big hB.size
      have hV := rep_sayV hR (hp.below hB hE.big) hbig hgd
      clear hA hG hd hD hgd hR
      generalize pr t = q at HA hV
      obtain ⟨T1, x1, K1, y1, e1, n1, m1, f1, hl⟩ := hV
      cases e1
      go_wp2_with fail
      refine (hl _ (Below.refl _ _)).mono ?_
      rintro e w2 ⟨rfl, hB2⟩
      go_wp2_with fail
      go_ret
      exact ⟨hB.trans (hB2.mono hB.size), .inl ⟨q, rfl, HA.out⟩⟩
set_option maxRecDepth 100000 in
set_option maxHeartbeats 1000000 in
theorem b_print (s : Bg.Str) (w : World) (hs : s.length ≤ 90000) (hE : WEnv w) (hSp : Spaces w) (hp : Pows w) :
    Calls Tryz.prog 18 #[.string ⟨s.toArray⟩] w fun e w' => Below w.heap.size w w' ∧
      ((∃ q, e = .returned (.tuple #[.string ⟨q.toArray⟩, .nilIface]) ∧ AnsP s q) ∨ (∃ b, e = .returned (.tuple #[.string ⟨#[]⟩, faultV b]) ∧ FaultAt s b w')) := by
  have hmf : ∀ (fn : Fn) (first cap : Array Value) (w : World), (Instr.makeFunc fn first cap).run Tryz.prog w = .ok (.func fn first cap) w := fun _ _ _ _ => rfl
  go_enter Tryz.func18, Tryz.ntmps18
  go_wp2_with fail
  have hB1 : Below w.heap.size w (w.alloc (.cells #[.string ⟨s.toArray⟩] 9)) := (Below.refl _ w).alloc (Nat.le_refl _) _
  have hsz : (w.alloc (.cells #[.string ⟨s.toArray⟩] 9)).heap.size = w.heap.size + 1 := by simp
  have hBc : Below w.heap.size w (catchW (w.alloc (.cells #[.string ⟨s.toArray⟩] 9)) 3) := (hB1.alloc (by omega) _).alloc (by simp; omega) _
  have q0 : (catchW (w.alloc (.cells #[.string ⟨s.toArray⟩] 9)) 3).heap[w.heap.size]? = some (.cells #[.string ⟨s.toArray⟩] 9 (0, 0)) := (three_get w.heap _ _ _).1
  have q2 : (catchW (w.alloc (.cells #[.string ⟨s.toArray⟩] 9)) 3).heap[w.heap.size + 1 + 1]? = some (.cells #[.nilIface] 36 (0, 0)) := (three_get w.heap _ _ _).2.2
  have HQ2 : Hid ((catchW (w.alloc (.cells #[.string ⟨s.toArray⟩] 9)) 3).cell? ⟨w.heap.size + 1 + 1, 0, none⟩ = some .nilIface) := cell_of_heap q2
  have HQ0 : Hid ((catchW (w.alloc (.cells #[.string ⟨s.toArray⟩] 9)) 3).cell? ⟨w.heap.size, 0, none⟩ = some (.string ⟨s.toArray⟩)) := cell_of_heap q0
  clear q0 q2
  refine (catchS ⟨w.heap.size, 0, none⟩ 3 (w.alloc (.cells #[.string ⟨s.toArray⟩] 9)) (fun q _ => AnsP s q) (fun b w2 => FaultAt s b w2) ?_).mono ?_
  · refine (b_print1 ⟨w.heap.size, 0, none⟩ s _ hs HQ0.out (hE.below hBc) (hSp.below hBc hE.big) (hp.below hBc hE.big)).mono ?_
    rintro e w2 ⟨hB, h⟩
    exact ⟨hB.mono (by simp [catchW] <;> omega), h⟩
  · rintro e w' ⟨w2, hB, (⟨q, h1, rfl, rfl⟩ | ⟨b, ⟨k, a, h1, hb0, hb1⟩, rfl, rfl⟩)⟩
    · have H1 : Hid (AnsP s q) := h1
      clear h1
      go_wp2
      go_ret2
      refine ⟨?_, .inl ⟨_, rfl, H1.out⟩⟩
      exact (hBc.trans (hB.mono (by simp <;> omega))).setCell (p := ⟨w.heap.size + 1 + 1, 0, none⟩) (show w.heap.size ≤ w.heap.size + 1 + 1 by omega) _
    · have H1 : Hid (AnsE s k a) := h1
      have hne : b ≠ w.heap.size + 1 + 1 := by
        intro e
        have h2 := (hB.cell (p := ⟨w.heap.size + 1 + 1, 0, none⟩) (by show w.heap.size + 1 + 1 < _; rw [hsz]; omega)).trans HQ2.out
        rw [← e, hb0] at h2
        cases h2
      clear h1
      go_wp2
      go_ret2
      refine ⟨?_, .inr ⟨b, rfl, k, a, H1.out, ?_, ?_⟩⟩
      · exact (hBc.trans (hB.mono (by simp <;> omega))).setCell (p := ⟨w.heap.size + 1 + 1, 0, none⟩) (show w.heap.size ≤ w.heap.size + 1 + 1 by omega) _
      · exact (World.cell?_of_block (a := ⟨b, 0, none⟩) (Below.heap_setCell w2 ⟨_, 0, none⟩ _ b (by simp; omega))).trans hb0
      · exact (World.cell?_of_block (a := ⟨b, 1, none⟩) (Below.heap_setCell w2 ⟨_, 0, none⟩ _ b (by simp; omega))).trans hb1
set_option maxRecDepth 100000 in
set_option maxHeartbeats 1000000 in
theorem p_print (s : Bg.Str) (w : World) (hs : s.length ≤ 90000) (hE : WEnv w) (hSp : Spaces w) (hp : Pows w) (hT : ErrType w) :
    Calls Tryz.prog 8 #[.string ⟨s.toArray⟩] w fun e w' => Below w.heap.size w w' ∧
      ((∃ q, e = .returned (.tuple #[.string ⟨q.toArray⟩, .int .i64 0, .int .i64 0]) ∧ AnsP s q) ∨ (∃ k a, e = .returned (.tuple #[.string ⟨#[]⟩, .int .i64 k, .int .i64 a]) ∧ AnsE s k a)) := by
  go_enter Tryz.func8, Tryz.ntmps8
  go_wp2_with fail
  refine (b_print s w hs hE hSp hp).mono ?_
  rintro e w1 ⟨hB, (⟨q, rfl, h1⟩ | ⟨b, rfl, k, a, h1, hb0, hb1⟩)⟩
  · have H1 : Hid (AnsP s q) := h1
    have hne : (q == []) = false := by
      obtain ⟨l, t, _, _, _, hD, rfl⟩ := h1
      have := pr_query hD
      simpa using this
    clear h1
    go_wp2_with fail
    refine (parts_nil _).mono ?_
    rintro e w2 ⟨rfl, rfl⟩
    go_wp2
    go_ret3
    exact ⟨hB, .inl ⟨q, rfl, H1.out⟩⟩
  · have H1 : Hid (AnsE s k a) := h1
    obtain ⟨hk1, hk9⟩ := h1.kind
    have hE1 : w1.cell? ⟨0, 0, none⟩ = some (.iface 147 (.agg #[.pointer (some ⟨13, 36, none⟩)])) := (hB.cell (p := ⟨0, 0, none⟩) (show 0 < w.heap.size from Nat.lt_of_lt_of_le (by decide) hE.big)).trans hT
    clear h1
    go_wp2_with fail
    refine (parts_fault b k a _ hk1 hk9 hb0 hb1 hE1).mono ?_
    rintro e w2 ⟨rfl, hB2⟩
    clear hb0 hb1 hE1
    go_wp2
    go_ret3
    exact ⟨hB.trans (hB2.mono hB.size), .inr ⟨k, a, rfl, H1.out⟩⟩
end Gr
end Go.Proofs.YtfkdfplnhlnnoaaGreatDoor
end
