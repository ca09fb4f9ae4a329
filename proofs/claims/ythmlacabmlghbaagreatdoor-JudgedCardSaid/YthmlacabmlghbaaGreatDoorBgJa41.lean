import Derived.LaidEql
import Derived.RowKitTokens
import Derived.Stop.Asserts
import Derived.Test.YthmlacabmlghbaaGreatDoorBgJa35
import Derived.Test.YthmlacabmlghbaaGreatDoorBgJa40
set_option maxRecDepth 100000
set_option maxHeartbeats 8000000
set_option linter.unusedSimpArgs false
set_option linter.unusedVariables false
namespace Go.Proofs.YthmlacabmlghbaaGreatDoor
open Go.Proofs.Tryz
theorem ZX3:type_of% @Go.run_callFunc_extern:=@Go.run_callFunc_extern
theorem ZUj{p:Prop}(h:p:=by go_enter func26,ntmps26;go_wp2;refine wp_loop_rounds 2 ?_;rw[rounds_succ];go_wp2;rw[rounds_succ];go_wp2;go_ret;exact⟨rfl,rfl⟩):p:=h
section
open Go.RowKit Go.Extern.Stop Go.Stop Go.Extern
theorem As.ZMS(t:Addr)(w:World):(ReflectliteValue.unpack (.iface 79 (.pointer (some t)))).run prog w
 = .ok (.agg #[.pointer (some ⟨13,79,none⟩),.pointer (some ⟨w.heap.size,0,none⟩),.int .u64 150]) (w.alloc (.cells #[.pointer (some t)] 79)):=ZPn
theorem As.type27(a:Addr)(w:World):(ReflectliteValue.methodAny (ReflectliteValue.valueError "reflectlite.Value.Type" 0) (fun t _ _ _=>ReflectliteType.toType t) #[.agg #[.pointer (some ⟨13,79,none⟩),.pointer (some a),.int .u64 150]]).run prog w
 = .ok (.iface 185 (.agg #[.pointer (some ⟨13,79,none⟩)])) w:=ZPn
theorem As.ZHK(h:Value)(w:World):(Go.method 613 185 (.agg #[h]) "Kind").run prog w= .ok (322,h) w:=by kernel_rfl
theorem As.ZGZ(w:World):((ReflectliteType.abiMethod fun t=>(fun a:Nat=>Value.int IntKind.u8 (a:Int)) <$> Rtype.kind t) #[.pointer (some ⟨13,79,none⟩)]).run prog w= .ok (.int .u8 22) w:=by kernel_rfl
theorem As.ZGY(w:World):((ReflectliteType.abiMethod fun t=>(fun a:Nat=>Value.int IntKind.u8 (a:Int)) <$> Rtype.kind t) #[.pointer (some ⟨13,77,none⟩)]).run prog w= .ok (.int .u8 22) w:=by kernel_rfl
theorem As.ZvN(a:Addr)(w:World):(ReflectliteValue.parts (.agg #[.pointer (some ⟨13,79,none⟩),.pointer (some a),.int .u64 150])).run prog w= .ok (some (79,a,150)) w:=by kernel_rfl
theorem As.ZFh(a p:Addr)(W:World)(ha:W.cell? a=some (.pointer (some p))):
  (ReflectliteValue.method (ReflectliteValue.valueError "reflectlite.Value.IsNil" 0) ReflectliteValue.isNil #[.agg #[.pointer (some ⟨13,79,none⟩),.pointer (some a),.int .u64 150]]).run prog W= .ok (.bool false) W:=by
 show(Bind.bind (ReflectliteValue.parts (.agg #[.pointer (some ⟨13,79,none⟩),.pointer (some a),.int .u64 150])) (fun p=>_):Sem Value).run _ _=_;simp only[Sem.run_bind,As.ZvN,Result.andThen];simp[ReflectliteValue.isNil,loadVar,isAgg,underlying,underlying79,ha,Result.andThen]
theorem As.ZHI(h:Value)(w:World):(Go.method 613 185 (.agg #[h]) "Elem").run prog w= .ok (334,.agg #[h]) w:=by kernel_rfl
theorem As.ZHJ(h:Value)(w:World):(Go.method 613 185 (.agg #[h]) "Implements").run prog w= .ok (335,.agg #[h]) w:=by kernel_rfl
theorem As.ZHG(h:Value)(w:World):(Go.method 613 185 (.agg #[h]) "AssignableTo").run prog w= .ok (332,.agg #[h]) w:=by kernel_rfl
theorem As.ZBZ(w:World):(ReflectliteType.method ReflectliteType.elem #[.agg #[.pointer (some ⟨13,79,none⟩)]]).run prog w= .ok (.iface 185 (.agg #[.pointer (some ⟨13,77,none⟩)])) w:=by kernel_rfl
theorem As.ZEC(w:World):(ReflectliteType.relation "Implements" ReflectliteType.implements_ #[.agg #[.pointer (some ⟨13,77,none⟩)],.iface 185 (.agg #[.pointer (some ⟨13,36,none⟩)])]).run prog w= .ok (.bool true) w:=by kernel_rfl
theorem As.ZMJ(v:Value)(w:World):(ReflectliteType.typeOf #[.iface 77 v]).run prog w= .ok (.iface 185 (.agg #[.pointer (some ⟨13,77,none⟩)])) w:=by kernel_rfl
theorem As.ZzN(w:World):(ReflectliteType.relation "AssignableTo" ReflectliteType.assignableTo #[.agg #[.pointer (some ⟨13,77,none⟩)],.iface 185 (.agg #[.pointer (some ⟨13,77,none⟩)])]).run prog w= .ok (.bool true) w:=by kernel_rfl
theorem As.ZMR(e:Addr)(w:World):(ReflectliteValue.unpack (.iface 77 (.pointer (some e)))).run prog w
 = .ok (.agg #[.pointer (some ⟨13,77,none⟩),.pointer (some ⟨w.heap.size,0,none⟩),.int .u64 150]) (w.alloc (.cells #[.pointer (some e)] 77)):=ZPn
theorem As.ZB0(w:World):(Rtype.elem? 79).run prog w= .ok (some 77) w:=by kernel_rfl
theorem As.ZHQ(p:Addr)(w:World):(ReflectliteValue.mk 77 p ReflectliteValue.flagAddr).run prog w= .ok (.agg #[.pointer (some ⟨13,77,none⟩),.pointer (some p),.int .u64 406]) w:=by kernel_rfl
theorem As.ZB1(a p:Addr)(W:World)(ha:W.cell? a=some (.pointer (some p))):
  (ReflectliteValue.method (ReflectliteValue.valueError "reflectlite.Value.Elem" 0) ReflectliteValue.elem #[.agg #[.pointer (some ⟨13,79,none⟩),.pointer (some a),.int .u64 150]]).run prog W
   = .ok (.agg #[.pointer (some ⟨13,77,none⟩),.pointer (some p),.int .u64 406]) W:=by
 show(Bind.bind (ReflectliteValue.parts (.agg #[.pointer (some ⟨13,79,none⟩),.pointer (some a),.int .u64 150])) (fun p=>_):Sem Value).run _ _=_;simp only[Sem.run_bind,As.ZvN,Result.andThen];simp[ReflectliteValue.elem,loadVar,isAgg,underlying,underlying79,ha,Result.andThen,As.ZB0,As.ZHQ]
theorem As.ZJd(a:Addr)(w:World):(ReflectliteValue.parts (.agg #[.pointer (some ⟨13,77,none⟩),.pointer (some a),.int .u64 406])).run prog w= .ok (some (77,a,406)) w:=by kernel_rfl
theorem As.ZJc(a:Addr)(w:World):(ReflectliteValue.parts (.agg #[.pointer (some ⟨13,77,none⟩),.pointer (some a),.int .u64 150])).run prog w= .ok (some (77,a,150)) w:=by kernel_rfl
theorem As.ZBW(w:World):(Rtype.directlyAssignable 77 77).run prog w= .ok true w:=by kernel_rfl
theorem As.ZKY(ta b e:Addr)(old:Value)(W:World)(hb:W.cell? b=some (.pointer (some e)))(ht:W.cell? ta=some old)(hf:W.frozen? ta=false):
  (ReflectliteValue.set #[.agg #[.pointer (some ⟨13,77,none⟩),.pointer (some ta),.int .u64 406],.agg #[.pointer (some ⟨13,77,none⟩),.pointer (some b),.int .u64 150]]).run prog W
   = .ok (.tuple #[]) (W.setCell ta (.pointer (some e))):=by
 show(Bind.bind (ReflectliteValue.parts (.agg #[.pointer (some ⟨13,77,none⟩),.pointer (some ta),.int .u64 406])) (fun p=>Bind.bind (ReflectliteValue.parts (.agg #[.pointer (some ⟨13,77,none⟩),.pointer (some b),.int .u64 150])) (fun q=>_)):Sem Value).run _ _=_;simp only[Sem.run_bind,As.ZJd,As.ZJc,Result.andThen];simp[ReflectliteValue.flagAddr,loadVar,isAgg,underlying,underlying77,hb,Result.andThen,As.ZBW,storeVar,Value.cells,storeCells,Addr.add];rw[run_store prog W ta _ _ ZPC];simp[ht,hf]
theorem ZzH(e t:Addr)(old:Value)(w:World)(hg:w.cell? ⟨0,0,none⟩=some (.iface 185 (.agg #[.pointer (some ⟨13,36,none⟩)])))(ht0:w.cell? t=some old)(hf0:w.frozen? t=false):
  Calls prog 25 #[.iface 77 (.pointer (some e)),.iface 79 (.pointer (some t))] w fun ev w'=>ev= .returned (.bool true)/\w'=((((w.alloc (.cells #[.pointer (some t)] 79)).alloc (.cells #[.pointer (some ⟨13,79,none⟩),.pointer (some ⟨w.heap.size,0,none⟩),.int .u64 150] 147)).alloc (.cells #[.pointer (some ⟨13,79,none⟩),.pointer (some ⟨w.heap.size,0,none⟩),.int .u64 150] 147)).alloc (.cells #[.pointer (some e)] 77)).setCell t (.pointer (some e)):=by
 have h6:=@ZX3 prog 55 _ (fun args=>ReflectliteValue.unpack (args.getD 0 (.tuple #[]))) func55 ZPn ZPn ZPn ZPn;have h7:=@ZX3 prog 56 _ (ReflectliteValue.methodAny (ReflectliteValue.valueError "reflectlite.Value.Type" 0) (fun t _ _ _=>ReflectliteType.toType t)) func56 ZPn ZPn ZPn ZPn;have h8:=@ZX3 prog 57 _ (ReflectliteValue.method (ReflectliteValue.valueError "reflectlite.Value.IsNil" 0) ReflectliteValue.isNil) func57 ZPn ZPn ZPn ZPn;have h27:=@ZX3 prog 322 _ (ReflectliteType.abiMethod fun t=>do pure (.int .u8 (<-Rtype.kind t))) func322 ZPn ZPn ZPn ZPn;have h37:=@ZX3 prog 334 _ (ReflectliteType.method ReflectliteType.elem) func334 ZPn ZPn ZPn ZPn;have h38:=@ZX3 prog 335 _ (ReflectliteType.relation "Implements" ReflectliteType.implements_) func335 ZPn ZPn ZPn ZPn;have h10:=@ZX3 prog 59 _ ReflectliteType.typeOf func59 ZPn ZPn ZPn ZPn;have h35:=@ZX3 prog 332 _ (ReflectliteType.relation "AssignableTo" ReflectliteType.assignableTo) func332 ZPn ZPn ZPn ZPn;have h11:=@ZX3 prog 86 _ (ReflectliteValue.method (ReflectliteValue.valueError "reflectlite.Value.Elem" 0) ReflectliteValue.elem) func86 ZPn ZPn ZPn ZPn;have h12:=@ZX3 prog 87 _ ReflectliteValue.set func87 ZPn ZPn ZPn ZPn;have tO:=As.ZMJ;have mA:=As.ZHG;have a25:=As.ZzN;have v25:=As.ZMR;have f6:=As.ZMS;have f7:=As.type27;have mK:=As.ZHK;have mE:=As.ZHI;have mI:=As.ZHJ;have k27:=As.ZGZ;have k25:=As.ZGY;have e27:=As.ZBZ;have i25:=As.ZEC;have n8:=As.ZFh ⟨w.heap.size,0,none⟩ t ((w.alloc (.cells #[.pointer (some t)] 79)).alloc (.cells #[.pointer (some ⟨13,79,none⟩),.pointer (some ⟨w.heap.size,0,none⟩),.int .u64 150] 147)) ZPm;have hlt:0<w.heap.size:=by
  rcases Nat.eq_zero_or_pos w.heap.size with h0|h
  ·simp[World.cell?,h0]at hg
  ·exact h
 have hg2:((w.alloc (.cells #[.pointer (some t)] 79)).alloc (.cells #[.pointer (some ⟨13,79,none⟩),.pointer (some ⟨w.heap.size,0,none⟩),.int .u64 150] 147)).cell? ⟨0,0,none⟩=some (.iface 185 (.agg #[.pointer (some ⟨13,36,none⟩)])):=by
  rw[ZW6 _ _ ⟨0,0,none⟩ ZRb,ZW6 _ _ ⟨0,0,none⟩ hlt];exact hg
 have htl:t.block<w.heap.size:=by
  rcases Nat.lt_or_ge t.block w.heap.size with h|h
  ·exact h
  ·simp[World.cell?,Array.getElem?_eq_none h]at ht0
 have el:=As.ZB1 ⟨w.heap.size,0,none⟩ t (((w.alloc (.cells #[.pointer (some t)] 79)).alloc (.cells #[.pointer (some ⟨13,79,none⟩),.pointer (some ⟨w.heap.size,0,none⟩),.int .u64 150] 147)).alloc (.cells #[.pointer (some ⟨13,79,none⟩),.pointer (some ⟨w.heap.size,0,none⟩),.int .u64 150] 147)) (by rw[ZW6 _ _ ⟨w.heap.size,0,none⟩ ZPo];simp);have st:=As.ZKY t ⟨w.heap.size+1+1+1,0,none⟩ e old ((((w.alloc (.cells #[.pointer (some t)] 79)).alloc (.cells #[.pointer (some ⟨13,79,none⟩),.pointer (some ⟨w.heap.size,0,none⟩),.int .u64 150] 147)).alloc (.cells #[.pointer (some ⟨13,79,none⟩),.pointer (some ⟨w.heap.size,0,none⟩),.int .u64 150] 147)).alloc (.cells #[.pointer (some e)] 77))
  (by rw[World.cell?_alloc_at _ _ _ _ ZPm];rfl)
  (by rw[ZW6 _ _ t ZPo,ZW6 _ _ t ZPo,ZW6 _ _ t ZPo,ZW6 _ _ t htl];exact ht0)
  (by rw[World.frozen?_alloc_old _ _ t ZPo,World.frozen?_alloc_old _ _ t ZPo,World.frozen?_alloc_old _ _ t ZPo,World.frozen?_alloc_old _ _ t (Nat.ne_of_lt htl)];exact hf0)
 go_enter func25,ntmps25;go_wp2;refine wp_loop_rounds 1 ?_;rw[rounds_succ];exact ZWP
end
section
open Go.RowKit Go.Extern.Stop Go.Stop Go.Extern
theorem ZKP{P:Program}(w:World)(d:Nat){ti tn:TypeId}{ms:Array (String×TypeId)}{i:TypeInfo}{k:IntKind}(a b:Int)
  (hi:P.underlying ti=some (.interface ms))(hn:P.underlying tn=some (.int k))(hinfo:P.info? tn=some i)(hcomp:i.comparable=true):
  (Op.equalIn (d+2) ti (.iface tn (.int k a)) (.iface tn (.int k b))).run P w= .ok (a==b) w:=by
 simp[Op.equalIn,run_underlying hi,run_underlying hn,typeInfo,hinfo,hcomp]
theorem ZKO{P:Program}(w:World){ti tn:TypeId}{ms:Array (String×TypeId)}{i:TypeInfo}{k:IntKind}(a b:Int)
  (hi:P.underlying ti=some (.interface ms))(hn:P.underlying tn=some (.int k))(hinfo:P.info? tn=some i)(hcomp:i.comparable=true):
  (binOp .eql ti (.iface tn (.int k a)) (.iface tn (.int k b))).run P w= .ok (.bool (a==b)) w:=by
 simp only[binOp];simp[Op.equal,Op.maxDepth,ZKP w 9998 a b hi hn hinfo hcomp]
theorem Is.typeOf(v:Value)(w:World):(ReflectliteType.typeOf #[.iface 71 v]).run prog w= .ok (.iface 185 (.agg #[.pointer (some ⟨13,71,none⟩)])) w:=by kernel_rfl
def Is.ZrM(t:TypeId):Sem Value:=do Rtype.noPackHeld "Comparable" t;pure (.bool (<-typeInfo t).comparable)
theorem Is.comparable(w:World):(ReflectliteType.method Is.ZrM #[.agg #[.pointer (some ⟨13,71,none⟩)]]).run prog w= .ok (.bool true) w:=by kernel_rfl
theorem Is.ZHH(v:Value)(w:World):(Go.method 613 185 v "Comparable").run prog w= .ok (333,v) w:=by kernel_rfl
theorem Is.comp:(prog.info? 71).map (·.comparable)=some true:=by kernel_rfl
theorem Is.ZH1(v:Value)(xT:TypeId)(w:World):(Instr.typeAssert (.iface 71 v) xT 197 true).run prog w= .ok (.tuple #[.nilIface,.bool false]) w:=run_typeAssert_lacksB underlying197 ZPn ZPn v xT w
theorem Is.ZH5(v:Value)(xT:TypeId)(w:World):(Instr.typeAssert (.iface 71 v) xT 192 true).run prog w= .ok (.tuple #[.nilIface,.bool false]) w:=run_typeAssert_lacksB underlying192 ZPn ZPn v xT w
theorem Is.ZH6(v:Value)(xT:TypeId)(w:World):(Instr.typeAssert (.iface 71 v) xT 194 true).run prog w= .ok (.tuple #[.nilIface,.bool false]) w:=run_typeAssert_lacksB underlying194 ZPn ZPn v xT w
theorem Is.ZH2(v:Value)(xT:TypeId)(w:World):(Instr.typeAssert (.iface 77 v) xT 197 true).run prog w= .ok (.tuple #[.nilIface,.bool false]) w:=run_typeAssert_lacksB underlying197 ZPn ZPn v xT w
theorem Is.ZDq(v:Value)(xT:TypeId)(w:World):(Instr.typeAssert (.iface 77 v) xT 192 true).run prog w= .ok (.tuple #[.iface 77 v,.bool true]) w:=run_typeAssert_hasB underlying192 ZPn v xT w
theorem Is.ZHL(v:Value)(w:World):(Go.method 613 77 v "Unwrap").run prog w= .ok (327,v) w:=by kernel_rfl
theorem ZFk(p:Addr)(kind k:Int)(w:World)(h0:w.cell? p=some (.int .i64 kind)):
  Calls prog 26 #[.iface 77 (.pointer (some p)),.iface 71 (.int .i64 k)] w fun e w'=>e= .returned (.bool (kind==k))/\w=w':=by
 obtain⟨i,hi,hcmp⟩:=Option.map_eq_some_iff.1 Is.comp;have hT:=@ZX3 prog 59 _ ReflectliteType.typeOf func59 ZPn ZPn ZPn ZPn;have hC:=@ZX3 prog 333 _ (ReflectliteType.method Is.ZrM) func333 ZPn ZPn ZPn ZPn;have tT:=Is.typeOf;have cT:=Is.comparable;have mR:=Is.ZHH;have nE:=Is.ZH1;have uE:=Is.ZH5;have vE:=Is.ZH6;have nF:=Is.ZH2;have uF:=Is.ZDq;have mU:=Is.ZHL;have he1:=run_eql_iface_types (P:=prog) 77 71 (.pointer (some p)) (.int .i64 k) underlying36 ZPl w;have he2:=ZKO (P:=prog) w kind k underlying36 underlying71 hi hcmp;cases hk:(kind==k)
 ·exact ZUj
 ·exact ZUj
end
section
open Go.RowKit
theorem ZzG(e:Addr)(tb:Nat)(old:Value)(w:World)(hg:w.cell? ⟨0,0,none⟩=some (.iface 185 (.agg #[.pointer (some ⟨13,36,none⟩)])))
  (ht0:w.cell? ⟨tb,0,none⟩=some old)(hf0:w.frozen? ⟨tb,0,none⟩=false):
  Calls prog 25 #[.iface 77 (.pointer (some e)),.iface 79 (.pointer (some ⟨tb,0,none⟩))] w fun ev w'=>ev= .returned (.bool true)/\w'.cell? ⟨tb,0,none⟩=some (.pointer (some e))/\Below tb w w':=by
 have hlt:tb<w.heap.size:=ZWW w ⟨tb,0,none⟩ ht0;refine(ZzH e ⟨tb,0,none⟩ old w hg ht0 hf0).mono ?_;rintro ev w' ⟨rfl,rfl⟩;refine⟨rfl,?_,?_⟩
 ·refine World.cell?_setCell_same' _ _ _ ?_;rw[ZW6 _ _ ⟨tb,0,none⟩ ZPo,ZW6 _ _ ⟨tb,0,none⟩ ZPo,ZW6 _ _ ⟨tb,0,none⟩ ZPo,ZW6 _ _ ⟨tb,0,none⟩ hlt,ht0];rfl
 ·exact(((((ZWT tb w).alloc U _).alloc ZPo _).alloc ZPo _).alloc ZPo _).setCell (p:=⟨tb,0,none⟩) (ZWS _) _
theorem ZvO(b:Nat)(kind at_:Int)(w:World)(h1:1<=kind)(h9:kind<=9)(h0:w.cell? ⟨b,0,none⟩=some (.int .i64 kind))(ha:w.cell? ⟨b,1,none⟩=some (.int .i64 at_))
  (hg:w.cell? ⟨0,0,none⟩=some (.iface 185 (.agg #[.pointer (some ⟨13,36,none⟩)]))):
  Calls prog 9 #[.iface 77 (.pointer (some ⟨b,0,none⟩))] w fun e w'=>e= .returned (.tuple #[.int .i64 kind,.int .i64 at_])/\Below w.heap.size w w':=by
 go_enter func9,ntmps9;go_wp2_with fail;have hbl:b<w.heap.size:=ZWW w ⟨b,0,none⟩ h0;have hgl:0<w.heap.size:=ZWW w ⟨0,0,none⟩ hg;refine(ZzG ⟨b,0,none⟩ w.heap.size (.pointer none) _ ?_ ?_ ?_).mono ?_
 ·rw[ZW6 _ _ ⟨0,0,none⟩ hgl];exact hg
 ·simp
 ·simp
 rintro e w1 ⟨rfl,hcf,hB⟩;have hB1:Below w.heap.size w w1:=((ZWT _ w).alloc (ZWS _) _).trans hB;have hck:w1.cell? ⟨b,0,none⟩=some (.int .i64 kind):=(hB1.cell (p:=⟨b,0,none⟩) hbl).trans h0;have JR:w1.cell? ⟨b,1,none⟩=some (.int .i64 at_):=(hB1.cell (p:=⟨b,1,none⟩) hbl).trans ha;clear hB;go_wp2_with fail;go_loopw [5] (fun k wr=>∃j:Nat,j<=10/\k= .int .i64 j/\wr.cell? ⟨w.heap.size,0,none⟩=some (.pointer (some ⟨b,0,none⟩))/\wr.cell? ⟨b,0,none⟩=some (.int .i64 kind)/\wr.cell? ⟨b,1,none⟩=some (.int .i64 at_)/\Below w.heap.size w wr)
  (fun k _=>10-(intOf k).toNat)
 case atStart=>exact⟨0,U,rfl,hcf,hck,JR,hB1⟩
 case round=>
  clear hcf hck JR hB1;obtain⟨j,hj,rfl,hcf,hck,JR,hB1⟩:=hrel;by_cases hlt:j<=9
  ·go_wp2_with fail;go_quiet ((go_at_call 26;exact Calls.quiet_of_same ((ZFk ⟨b,0,none⟩ kind j _ (by simpa using hck)).mono (fun _ _ h=>⟨h.1,h.2.symm⟩))));go_wp2
   ·have hx:(!(kind==(j:Int))==((j:Int)==kind))=true:=by assumption
    exfalso;rw[show((j:Int)==kind)=(kind==(j:Int)) from by rw[ZXG];simp;omega]at hx;cases hk:(kind==(j:Int))<;>rw[hk]at hx<;>cases hx
   ·refine⟨⟨j+1,U,ZPx,by simpa using hcf,by simpa using hck,by simpa using JR,Go.below_drewN hB1 _⟩,ZPB⟩
  ·have hk0:(kind==0)=false:=by simp;omega
   go_wp2;go_quiet (fail);go_wp2;go_ret2;exact⟨rfl,Go.below_drewN hB1 _⟩
end
section
open Go.RowKit
theorem cell_of_heap{w:World}{b:Nat}{v:Value}{ty:TypeId}{fr:Nat×Nat}(h:w.heap[b]? =some (.cells #[v] ty fr)):w.cell? ⟨b,0,none⟩=some v:=by simp[World.cell?,h]
end
section
open Go.RowKit
open NT
def QU(s:Za)(db:List Tb)(k a:Int):Prop:=
 match XB s with
 | .error n=>k=2/\a=n
 | .ok l=>(¬G query (l.map tok)/\k=3/\a=0)\/(G query (l.map tok)/\deep l=true/\k=4/\a=0)\/(G query (l.map tok)/\deep l=false/\∃t,D query l t/\k=ZaO db t/\a=0)
theorem Qi.below{B T:Nat}{W W':World}{Ze:List (Za×Int)}(h:Qi B W T Ze)(hB:Below W.heap.size W W'):Qi B W' T Ze:=by
 obtain⟨cv,P,rv,hP,ho,hc,hp,hr⟩:=h.obj;have hx:∀(g:Nat) (ob:Obj),W.heap[g]? =some ob->W'.heap[g]? =some ob:=fun g ob e=>(hB.block g (ZWU.1 e).1).trans e;obtain⟨es,ck,hm⟩:=hp.obj;exact⟨h.ge,⟨cv,P,rv,hP,hx _ _ ho,EC hc hB,V7 hp ((hx _ _ hm).trans hm.symm),hr⟩,h.le,h.pos⟩
theorem J4.below{W W':World}{M:Nat}{db:List Tb}(h:J4 W M db)(hB:Below W.heap.size W W'):J4 W' M db:=by
 obtain⟨B,names,tl,⟨h1,Ts,h2,h3,h4⟩,r⟩:=h.tabs;obtain⟨es,ck,hm⟩:=h3.obj;exact⟨B,names,tl,⟨h1,Ts,h2,V7 h3 (hB.block M (ZWU.1 hm).1),fun p hp=>Qi.below (h4 p hp) hB⟩,r⟩
theorem ZJ2{s:Za}{l:List RW}{t:Tr}{Pb n0:Nat}{W:World}{x:Value}(h:XB s= .ok l)(hD:D query l t)(hR:Zl Pb n0 W (.v x) t):KL W x t/\sz t<=100000:=by
 obtain⟨_,h2,h3⟩:=ZfZ h;have hs:sz t<=100000:=by
  have:=hD.sz;simp only[extra]at this;omega
 exact⟨((ZKy hR (hD.fit U (ZJI h)) hs).2.2 hD.k).1,hs⟩
theorem ZzW(pd pq:Addr)(Db M:Nat)(s:Za)(db:List Tb)(w:World)(hs:s.length<=90000)(hd:w.cell? pd=some (.pointer (some ⟨Db,0,none⟩)))(hm:w.cell? ⟨Db,0,none⟩=some (.map (some M)))(hq:w.cell? pq=some (.string ⟨s.toArray⟩))(hDb:J4 w M db)(hE:Zbm w)(hSp:UZ w):
  Calls prog 28 #[.pointer (some pd),.pointer (some pq)] w fun e w2=>Below w.heap.size w w2/\
   ((∃q,e= .returned (.pointer (some q))/\QU s db 0 0)\/(∃b,e= .panicked (thrown b)/\∃k a,QU s db k a/\1<=k/\k<=9/\w2.cell? ⟨b,0,none⟩=some (.int .i64 k)/\w2.cell? ⟨b,1,none⟩=some (.int .i64 a))):=by
 have HPQ:Hid (∀w',Below w.heap.size w w'->Calls prog 30 #[.string ⟨s.toArray⟩] w' fun e w1=>(∃k a,QU s db k a/\1<=k/\k<=9/\XD w'.heap.size k a w' e w1)\/(∃n y,e= .returned (.iface n y)/\Below w'.heap.size w' w1/\∃t,KL w1 (.iface n y) t/\sz t<=100000/\QU s db (ZaO db t) 0)):=fun w' hB=>by
  refine(ZIz s w' hs (hE.below hB) (hSp.below hB hE.big)).mono ?_;intro e w1 h;cases hR:XB s with
  |error n=>
   rw[hR]at h;exact .inl ⟨2,n,by unfold QU;rw[hR];exact⟨rfl,rfl⟩,U,U,h⟩
  |ok l=>
   rw[hR]at h;rcases h with⟨h1,h2⟩|⟨h1,h2,h3⟩|⟨h1,h2,h3,Pb,n,y,t,h4,h5,h6⟩
   ·exact .inl ⟨3,0,by unfold QU;rw[hR];exact .inl ⟨h1,rfl,rfl⟩,U,U,h2⟩
   ·exact .inl ⟨4,0,by unfold QU;rw[hR];exact .inr (.inl ⟨h1,h2,rfl,rfl⟩),U,U,h3⟩
   ·obtain⟨q1,q2⟩:=ZJ2 hR h5 h6;exact .inr ⟨n,y,h4,h3,t,q1,q2,by unfold QU;rw[hR];exact .inr (.inr ⟨h1,h2,t,h5,rfl,rfl⟩)⟩
 have HCK:Hid (∀(w1:World) (n:TypeId) (y:Value) (t:Tr),Below w.heap.size w w1->KL w1 (.iface n y) t->sz t<=100000->QU s db (ZaO db t) 0->Calls prog 29 #[.map (some M),.iface n y] w1 fun e w3=>(∃k a,QU s db k a/\1<=k/\k<=9/\XD w1.heap.size k a w1 e w3)\/(∃n3 y3,e= .returned (.iface n3 y3)/\Below w1.heap.size w1 w3/\QU s db 0 0)):=fun w1 n y t hB hq hs hJ=>by
  refine(ZGd w1 M db n y t (hDb.below hB) hq hs).mono ?_;intro e w3 h;rcases h with⟨hj,hb⟩|⟨hj,hb⟩|⟨hj,n3,y3,he,hB3⟩
  ·rw[hj]at hJ;exact .inl ⟨5,0,hJ,ZPl,ZPl,hb⟩
  ·rw[hj]at hJ;exact .inl ⟨6,0,hJ,ZPl,ZPl,hb⟩
  ·rw[hj]at hJ;exact .inr ⟨n3,y3,he,hB3,hJ⟩
 have hdl:=ZWW w _ hd;have hml:=ZWW w _ hm;have hql:=ZWW w _ hq;have UQ:Hid (∀w',Below w.heap.size w w'->w'.cell? pd=some (.pointer (some ⟨Db,0,none⟩))/\w'.cell? ⟨Db,0,none⟩=some (.map (some M))/\w'.cell? pq=some (.string ⟨s.toArray⟩)):=fun w' hB=>⟨(hB.cell hdl).trans hd,(hB.cell hml).trans hm,(hB.cell hql).trans hq⟩;clear hDb hE hSp;go_enter func28,ntmps28;go_wp2_with fail;go_region_with (first|(go_at_call 29;refine(HCK.out w1 n1 y1 t hBW1 HQP.out hsz HJ.out).mono ?_;intro e w3 hpost;rcases hpost with hbad|hgood;(focus (obtain⟨k,a,hJ3,hk1,hk9,b',rfl,h0,h1,hB3⟩:=hbad;go_wp2;exact⟨rfl,hBW1.trans (hB3.mono hBW1.size),.inr ⟨b',rfl,k,a,hJ3,hk1,hk9,h0,h1⟩⟩));obtain⟨n3,y3,rfl,hB3,hJ3⟩:=hgood;have HJ0:Hid (QU s db 0 0):=hJ3;have VP:Below w.heap.size w w3:=hBW1.trans (hB3.mono hBW1.size))|(go_at_call 30;refine(HPQ.out _ (ZW (ZWT _ w) 1)).mono ?_;intro e w1 hpost;rcases hpost with hbad|hgood;(focus (obtain⟨k,a,hJ,hk1,hk9,b',rfl,h0,h1,hB3⟩:=hbad;go_wp2;exact⟨rfl,(ZW (ZWT _ w) 1).trans (hB3.mono (ZWS _)),.inr ⟨b',rfl,k,a,hJ,hk1,hk9,h0,h1⟩⟩));obtain⟨n1,y1,rfl,hB1,t,hQP,hsz,hJ⟩:=hgood;have HQP:Hid (KL w1 (.iface n1 y1) t):=hQP;have HJ:Hid (QU s db (ZaO db t) 0):=hJ;have hBW1:Below w.heap.size w w1:=(ZW (ZWT _ w) 1).trans (hB1.mono (ZWS _));obtain⟨c0,c1,c2⟩:=UQ.out _ hBW1;clear hQP hJ));all_goals
  clear hJ3;go_wp2_with fail;go_ret;first
   |exact⟨VP.alloc VP.size _,.inl ⟨_,rfl,HJ0.out⟩⟩
   |exact⟨VP,.inl ⟨_,rfl,HJ0.out⟩⟩
end
section
open Go.RowKit
def EX(n0:Nat)(s:Za)(Db:Nat)(W:World):Prop:=
 n0<=Db/\∃M,W.cell? ⟨Db,0,none⟩=some (.map (some M))/\n0<=M/\∃st B,Vd YI ⟨[],none, []⟩ (ZX s)=some st/\n0<=B/\E8 B W M st.names st.tabs
theorem Qi.up{n0 B T:Nat}{W W':World}{Ze:List (Za×Int)}(h:Qi B W T Ze)(hB:n0<=B)(hx:∀g,n0<=g->W'.heap[g]? =W.heap[g]?):Qi B W' T Ze:=by
 obtain⟨cv,P,rv,hP,ho,hc,hp,hr⟩:=h.obj;exact⟨h.ge,⟨cv,P,rv,hP,(hx T (ZW0 hB h.ge)).trans ho,ZkN hc (fun g cu fr hg e=>(hx g (ZW0 hB hg)).trans e),V7 hp (hx P (ZW0 hB hP)),hr⟩,h.le,h.pos⟩
theorem EX.up{n0:Nat}{s:Za}{Db:Nat}{W W':World}(h:EX n0 s Db W)(hx:∀g,n0<=g->W'.heap[g]? =W.heap[g]?):EX n0 s Db W':=by
 obtain⟨h0,M,h1,h2,st,B,h3,h4,h5,Ts,h6,h7,h8⟩:=h;exact⟨h0,M,(ZXb (a:=⟨Db,0,none⟩) (hx Db h0)).trans h1,h2,st,B,h3,h4,h5,Ts,h6,V7 h7 (hx M h2),fun p hp=>Qi.up (h8 p hp) h4 hx⟩
theorem EX.is{n0:Nat}{s:Za}{Db:Nat}{W:World}(h:EX n0 s Db W):∃M,W.cell? ⟨Db,0,none⟩=some (.map (some M))/\J4 W M ((Qt [] (ZX s)).map El):=by
 obtain⟨h0,M,h1,h2,st,B,h3,h4,h5⟩:=h;obtain⟨e,hk⟩:=Zmb _ _ _ h3 Zw0;refine⟨M,h1,⟨B,st.names,st.tabs,h5,hk.nd,hk.ne,hk.ok,?_⟩⟩;have e':Qt [] (ZX s)=Zce st.tabs:=e;rw[e',Zr4];rfl
theorem ZzU(pd:Addr)(s:Za)(w:World)(hs:s.length<=90000)(hc:w.cell? pd=some (.string ⟨s.toArray⟩))(hS:UZ w)(Uv:Vx w)(hG:13<=w.heap.size):
  Calls prog 23 #[.pointer (some pd)] w fun e w2=>Below w.heap.size w w2/\
   ((∃q,e= .returned (.pointer (some q))/\(YZ s= -1/\∃Db,q=⟨Db,0,none⟩/\EX w.heap.size s Db w2))\/(∃b,e= .panicked (thrown b)/\0<=YZ s/\w2.cell? ⟨b,0,none⟩=some (.int .i64 1)/\w2.cell? ⟨b,1,none⟩=some (.int .i64 (YZ s)))):=by
 go_enter func23,ntmps23;go_wp2_with fail;refine(ZLA s w hs hS Uv hG).mono ?_;rintro e w1 ⟨hB,(⟨h1,M,rfl,hM,st,B,hst,hBn,hT⟩|⟨h1,b,rfl,hb0,hb1⟩)⟩
 ·have H1:Hid (YZ s= -1):=h1;have HT:Hid (EX w.heap.size s w1.heap.size (w1.alloc (.cells #[.map (some M)] 75))):=by
   have hsz:=hB.size;obtain⟨h5,Ts,h6,h7,h8⟩:=hT;have hx:∀(g:Nat) (ob:Obj),w1.heap[g]? =some ob->(w1.alloc (.cells #[.map (some M)] 75)).heap[g]? =some ob:=fun g ob e=>(ZXa w1 _ g (ZWU.1 e).1).trans e;refine⟨hsz,M,by have:=ZWV w1 (.cells #[.map (some M)] 75 (0,0));exact cell_of_heap this,hM,st,B,hst,hBn,h5,Ts,h6,?_,fun p hp=>?_⟩
   ·obtain⟨es,ck,hm⟩:=h7.obj;exact V7 h7 ((hx _ _ hm).trans hm.symm)
   ·obtain⟨cv,P,rv,hP,ho,hc,hp',hr⟩:=(h8 p hp).obj;obtain⟨es,ck,hm⟩:=hp'.obj;exact⟨(h8 p hp).ge,⟨cv,P,rv,hP,hx _ _ ho,ZkN hc (fun g cu fr _ e=>hx _ _ e),V7 hp' ((hx _ _ hm).trans hm.symm),hr⟩,(h8 p hp).le,(h8 p hp).pos⟩
  clear h1 hT hst hBn;go_wp2;go_ret;exact⟨hB.alloc hB.size _,.inl ⟨_,rfl,H1.out,_,rfl,HT.out⟩⟩
 ·have H1:Hid (0<=YZ s):=h1;have HB1:Hid (w1.cell? ⟨b,1,none⟩=some (.int .i64 (YZ s))):=hb1;clear h1 hb1;go_wp2;exact⟨rfl,hB,.inr ⟨b,rfl,H1.out,hb0,HB1.out⟩⟩
theorem ZzT(s:Za)(w:World)(hs:s.length<=90000)(hS:UZ w)(Uv:Vx w)(hG:13<=w.heap.size):
  Calls prog 8 #[.string ⟨s.toArray⟩] w fun e w'=>Below w.heap.size w w'/\
   ((∃Db,e= .returned (.tuple #[.pointer (some ⟨Db,0,none⟩),.nilIface])/\YZ s= -1/\EX w.heap.size s Db w')\/(∃b,e= .returned (.tuple #[.pointer none,E9 b])/\0<=YZ s/\w'.cell? ⟨b,0,none⟩=some (.int .i64 1)/\w'.cell? ⟨b,1,none⟩=some (.int .i64 (YZ s)))):=by
 have Xi:∀(fn:Fn) (first cap:Array Value) (w:World),(Instr.makeFunc fn first cap).run prog w= .ok (.func fn first cap) w:=fun _ _ _ _=>rfl;go_enter func8,ntmps8;go_wp2_with fail;have hB1:Below w.heap.size w (w.alloc (.cells #[.string ⟨s.toArray⟩] 9)):=(ZWT _ w).alloc (ZWS _) _;have hsz:(w.alloc (.cells #[.string ⟨s.toArray⟩] 9)).heap.size=w.heap.size+1:=ZPm
 have U7:Below w.heap.size w (Y9 (w.alloc (.cells #[.string ⟨s.toArray⟩] 9)) 1):=(hB1.alloc U _).alloc ZPo _;have Zn2:(Y9 (w.alloc (.cells #[.string ⟨s.toArray⟩] 9)) 1).heap.size=w.heap.size+3:=ZQk
 have q0:(Y9 (w.alloc (.cells #[.string ⟨s.toArray⟩] 9)) 1).heap[w.heap.size]? =some (.cells #[.string ⟨s.toArray⟩] 9 (0,0)):=(Za3 w.heap _ _ _).1;have q2:(Y9 (w.alloc (.cells #[.string ⟨s.toArray⟩] 9)) 1).heap[w.heap.size+1+1]? =some (.cells #[.nilIface] 36 (0,0)):=(Za3 w.heap _ _ _).2.2;have HQ2:Hid ((Y9 (w.alloc (.cells #[.string ⟨s.toArray⟩] 9)) 1).cell? ⟨w.heap.size+1+1,0,none⟩=some .nilIface):=cell_of_heap q2;have HQ0:Hid ((Y9 (w.alloc (.cells #[.string ⟨s.toArray⟩] 9)) 1).cell? ⟨w.heap.size,0,none⟩=some (.string ⟨s.toArray⟩)):=cell_of_heap q0;clear q0 q2;refine(ZAM ⟨w.heap.size,0,none⟩ 1 (w.alloc (.cells #[.string ⟨s.toArray⟩] 9)) (fun q w2=>YZ s= -1/\∃Db,q=⟨Db,0,none⟩/\EX (w.heap.size+3) s Db w2) (fun b w2=>0<=YZ s/\w2.cell? ⟨b,0,none⟩=some (.int .i64 1)/\w2.cell? ⟨b,1,none⟩=some (.int .i64 (YZ s))) ?_).mono ?_
 ·refine(ZzU ⟨w.heap.size,0,none⟩ s _ hs HQ0.out (hS.below U7 hG) (Uv.below U7 hG) (by simp[Y9];omega)).mono ?_;rintro e w2 ⟨hB,h⟩;rw[Zn2]at h;exact⟨hB.mono (by simp[Y9]<;>omega),h⟩
 ·rintro e w' ⟨w2,hB,(⟨q,⟨h1,Db,rfl,hDb⟩,rfl,rfl⟩|⟨b,⟨h1,hb0,hb1⟩,rfl,rfl⟩)⟩
  ·have H1:Hid (YZ s= -1):=h1;have HDb:Hid (EX w.heap.size s Db (w2.setCell ⟨w.heap.size+1+1,0,none⟩ .nilIface)):=by
    have h2:=hDb.up (W':=w2.setCell ⟨w.heap.size+1+1,0,none⟩ .nilIface) (fun g hg=>ZXf w2 ⟨w.heap.size+1+1,0,none⟩ _ g (by show g≠w.heap.size+1+1;omega));obtain⟨h0,M,h1,h2,st,B,h3,h4,h5⟩:=h2;exact⟨U,M,h1,U,st,B,h3,U,h5⟩
   clear h1 hDb;go_wp2;go_ret2;refine⟨?_,.inl ⟨_,rfl,H1.out,?_⟩⟩
   ·exact ZTz
   ·first|exact HDb.out|(rw[hsz];exact HDb.out)
  ·have H1:Hid (0<=YZ s):=h1;have hne:b≠w.heap.size+1+1:=by
    intro e;have h2:=(hB.cell (p:=⟨w.heap.size+1+1,0,none⟩) (by show w.heap.size+1+1<_;rw[hsz];omega)).trans HQ2.out;rw[<-e,hb0]at h2;cases h2
   have HB1:Hid (w2.cell? ⟨b,1,none⟩=some (.int .i64 (YZ s))):=hb1;clear h1 hb1;go_wp2;go_ret2;refine⟨?_,.inr ⟨b,rfl,H1.out,?_,?_⟩⟩
   ·exact ZTz
   ·exact(ZXb (a:=⟨b,0,none⟩) (ZXf w2 ⟨_,0,none⟩ _ b ZPo)).trans hb0
   ·exact(ZXb (a:=⟨b,1,none⟩) (ZXf w2 ⟨_,0,none⟩ _ b ZPo)).trans HB1.out
end
end Go.Proofs.YthmlacabmlghbaaGreatDoor
