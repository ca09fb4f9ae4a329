import Derived.Test.YthmlacabmlghbaaGreatDoorBgJa48
import Derived.Test.YthmlacabmlghbaaGreatDoorTie
set_option maxRecDepth 100000
set_option maxHeartbeats 8000000
set_option linter.unusedSimpArgs false
set_option linter.unusedVariables false
namespace Go.Proofs.YthmlacabmlghbaaGreatDoor
open Go.Proofs.Tryz
open Go.ChangeShapes Go.WideShapes Go.ChangeAt Go.RowKit
namespace Zi5
theorem ZG3:(Rows.judgedRow.laid.filter fun x=>x.2.handleName?.isSome)= [("errors.errorType",Rows.laid_errors_errorType)]:=by kernel_rfl
theorem ZG4:(Rows.judgedRow.laid.filter fun x=>x.2.handleName?.isNone)=ZoY:=by kernel_rfl
theorem wE{H:Type}(P:Program)(t:TypeId)(ts:List TypeId)(d:DataW H)(r:List (DataW H)):DataW.weightsEach P (t::ts) (d::r)=d.weights P t++DataW.weightsEach P ts r:=by
 rw[DataW.weightsEach.eq_def]
theorem wS{H:Type}(P:Program)(t:TypeId)(b:List UInt8):DataW.weights P t (.lit (.string b):DataW H)= [b.length]:=by
 rw[DataW.weights.eq_def]
theorem ZLq{W:World}(h:laidMetH prog Rows.judgedRow.laid W)(hG:13<=W.heap.size):Zja W:=by
 unfold laidMetH at h;rw[ZG3]at h;obtain⟨hp,hh⟩:=h;rw[ZG4]at hp;exact ZIa hp hh hG
theorem contract(H:Type)(enc:TypeId×Value->H)(W:World)(base:Nat)(args:Array Value)(ds gs:List (DataW H))(before:List MemPlace)
  (hval:∀(j:Nat) t v,Tryz.f3.params[j]? =some t->args[j]? =some v->Value.okWide prog W .any base t v)
  (hW:DataW.Whole enc prog Tryz.f3.params.toList Rows.judgedSpec.vars false W args.toList ds gs before)
  (hwt:(DataW.weightsEach prog (Tryz.f3.params.toList++(OpenSpec.ofChange Rows.judgedSpec).bare.plain.varTypes prog) (ds++gs)).all (·<=reachBytes)=true)(hL:laidMetH prog Rows.judgedRow.laid W)(hG:13<=W.heap.size):
  Calls prog 3 args W fun e W'=>∃v,e= .returned v/\Rows.judgedSpec.post enc prog Tryz.f3 false true false false W args v W':=by
 have hW':=hW;obtain⟨p,q,hA0,hV,rfl,hfz,hnd⟩:=hW;have hA:DataW.TrodAll enc prog W 0 (fun _=>true) true Tryz.f3.params.toList args.toList ds p:=hA0;rw[Tryz.params3]at hA hval hwt;obtain⟨v0,v1,d0,d1,p0,p1,rfl,rfl,rfl,h0,h1⟩:=trodAll_two hA;obtain⟨rfl,rfl⟩:=trodVars_none hV;obtain⟨s,rfl,rfl,rfl,hs⟩:=Go.ChangeMaps.open_string underlying9 (hval 0 9 v0 rfl rfl) h0;obtain⟨s',rfl,rfl,rfl,hs'⟩:=Go.ChangeMaps.open_string underlying9 (hval 1 9 v1 rfl rfl) h1;clear hA0;simp only[ZYb]at hW';have hS:=ZLq hL hG;have es:s=⟨s.data.toList.toArray⟩:=by cases s;simp
 have es':s'=⟨s'.data.toList.toArray⟩:=by cases s';simp
 have hb:s.data.toList.length<=140737488351232/\s'.data.toList.length<=140737488351232:=by
  have h2:=ZXQ.1 hwt;have m0:s.data.toList.length∈DataW.weightsEach prog ([9,9]++(OpenSpec.ofChange Rows.judgedSpec).bare.plain.varTypes prog) ([.lit (.string s.data.toList),.lit (.string s'.data.toList)]++([]:List (DataW H))):=by
   simp only[List.cons_append,List.nil_append];rw[wE,wS];exact ZYA _ (ZXh.2 rfl)
  have m1:s'.data.toList.length∈DataW.weightsEach prog ([9,9]++(OpenSpec.ofChange Rows.judgedSpec).bare.plain.varTypes prog) ([.lit (.string s.data.toList),.lit (.string s'.data.toList)]++([]:List (DataW H))):=by
   simp only[List.cons_append,List.nil_append];rw[wE,wS,wE,wS];exact List.mem_append_right _ (ZYA _ (ZXh.2 rfl))
  have g0:=ZXL (h2 _ m0);have g1:=ZXL (h2 _ m1);have hr:reachBytes=140737488351232:=rfl;omega
 have walk:Calls prog 3 #[.string s,.string s'] W fun e W'=>e= .returned (.bool true)/\Below W.heap.size W W':=by
  rw[es,es'];exact ZFY s.data.toList s'.data.toList W hb.1 hb.2 hS
 refine walk.mono fun e W' ⟨he,hB⟩=>?_;subst he;refine⟨_,rfl,_,_,_, [], [], [],hW',?_,?_,rfl,hB.frame _,fun h=>ZPs⟩
 ·exact trodAll_mk1 (shut_bool underlying4 true)
 ·exact trodAll_mk2 (Go.ChangeMaps.shut_string underlying9 hs) (Go.ChangeMaps.shut_string underlying9 hs')
theorem ZF2(os:Os)(started:os.Started)(H:Type)(enc:TypeId×Value->H)(F:Stop.Interp):
  ReturnsInHanded {} Tryz.checked os 3 .any ((OpenSpec.ofChange Rows.judgedSpec).preRow enc prog Tryz.f3 Rows.judgedRow.domain false Rows.judgedRow.laid) (((OpenSpec.ofChange Rows.judgedSpec).at F).post enc prog Tryz.f3 false true false false):=by
 refine returnsInHanded_of_row (C:=Tryz.checked) (s:=OpenSpec.ofChange Rows.judgedSpec) ZAp started ZPn func3 (wit os H enc) ?_;intro W base args ds gs before hval hW _ _ hwt hL hsh _;have hG:13<=W.heap.size:=by
  obtain⟨cs,hc,_⟩:=hsh.1 (13-1) #[.pointer none] 286 (ZXL ZPn) ZPn;have:=(ZWU.1 hc).1;omega
 exact contract H enc W base args ds gs before hval hW hwt hL hG
theorem ZF6:Rows.JudgedSaid:=
 OpenClaim.holds_of_cond 3 Tryz.f3 rfl rfl rfl rfl rfl rfl rfl ⟨rfl,rfl,rfl,rfl,rfl⟩ rfl rfl rfl rfl rfl ZF4 func3 ZF0 ZF1 ZF8
  (fun os started H enc _ F=>by rw[OpenClaim.pre_eq_preRow];exact ZF2 os started H enc F)
theorem ZF5(f:FuncId)(fn:Func)(hf:Tryz.pinned.checked.prog.funcNamed "bags/bagslaw.Judged"=some f)(hfn:Tryz.pinned.checked.prog.funcs[f]? =some fn):
  true=Tryz.pinned.checked.prog.looks []/\∀(j:Nat) t,fn.params[j]? =some t->Tryz.pinned.checked.prog.wantsStandIn t=false:=by
 obtain rfl:f=3:=ZXc ((show prog.funcNamed "bags/bagslaw.Judged"=some 3 by kernel_rfl).symm.trans hf) |>.symm;obtain rfl:fn=Tryz.f3:=(ZXc (func3.symm.trans hfn)).symm;refine⟨ZPn,fun j t ht=>?_⟩;rw[Tryz.params3]at ht;obtain rfl:t=9:=by
  have:=Array.mem_of_getElem? ht;exact ZWN
 exact(show prog.wantsStandIn 9=false by kernel_rfl)
theorem ZFZ:Rows.JudgedCardSaid:=
 Claim7.holds_tied_plain_at .later [] _ _ _ _ ZF6 (fun _ h=>ZPs) ZPn (fun _ h=>ZPs) judged_row_tie rfl ⟨rfl,rfl⟩ ZPn rfl ZF5 ZPn
end Zi5
theorem judged_card:Rows.JudgedCardSaid:=Zi5.ZFZ
#print axioms judged_card
end Go.Proofs.YthmlacabmlghbaaGreatDoor
