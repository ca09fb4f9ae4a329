import Derived.Test.YtncnkiabjhhclaaGreatDoorBgJa42
import Derived.Test.YtncnkiabjhhclaaGreatDoorBgVi
import Derived.Test.YtncnkiabjhhclaaGreatDoorBgVj
import Derived.Test.YtncnkiabjhhclaaGreatDoorBgVl
set_option maxRecDepth 100000
set_option maxHeartbeats 8000000
set_option linter.all false
namespace Go.Proofs.YtncnkiabjhhclaaGreatDoor
open Go.Proofs.Tryz
open Go.ChangeShapes Go.WideShapes Go.ChangeAt Go.RowKit
namespace Zhx
def ZOc:(Rows.knownRow.laid.filter λx=>x.2.handleName?.isSome)= [("errors.errorType",Rows.laid_errors_errorType)]:=by kernel_rfl
def ZOd:(Rows.knownRow.laid.filter λx=>x.2.handleName?.isNone)=Zp5:=by kernel_rfl
def ZST{W:World}(h:laidMetH prog Rows.knownRow.laid W)(hG:13<=W.heap.size):Zr3 W:=by
 unfold laidMetH at h;rw[ZOc]at h;obtain⟨hp,hh⟩:=h;rw[ZOd]at hp;exact ZPz hp hh hG
def Zmr(H:Type)(Nr:TypeId×Value->H)(W:World)(base:Nat)(args:Array Value)(ds gs:List (DataW H))(before:List MemPlace)(Ji:∀(j:Nat) t v,Tryz.f3.params[j]? =some t->args[j]? =some v->Value.okWide prog W .any base t v)(hW:DataW.Whole Nr prog Tryz.f3.params.toList Rows.knownSpec.vars false W args.toList ds gs before)(hwt:(DataW.weightsEach prog (Tryz.f3.params.toList++(OpenSpec.ofChange Rows.knownSpec).bare.plain.varTypes prog) (ds++gs)).all (·<=reachBytes)=true)(hL:laidMetH prog Rows.knownRow.laid W)(hG:13<=W.heap.size):
  Calls prog 3 args W λe W'=>∃v,e= .returned v/\Rows.knownSpec.post Nr prog Tryz.f3 false true false false W args v W':=by
 have hW':=hW;obtain⟨p,q,hA0,hV,rfl,hfz,UX⟩:=hW;have hA:DataW.TrodAll Nr prog W 0 (λ_=>true) true Tryz.f3.params.toList args.toList ds p:=hA0;rw[Tryz.params3]at hA Ji hwt;obtain⟨v0,d0,rfl,rfl,h0⟩:=trodAll_one hA;obtain⟨rfl,rfl⟩:=trodVars_none hV;obtain⟨n,rfl,rfl,rfl,hn⟩:=open_int underlying3 (Ji 0 3 v0 rfl rfl) h0;clear hA0;simp only[sD]at hW';have hS:=ZST hL hG;have hb: -9223372036854775808<=n/\n<=9223372036854775807:=by simpa[Lit.wf,IntKind.min,IntKind.max,IntKind.signed,IntKind.bits]using hn
 have walk:Calls prog 3 #[.int .i64 n] W λe W'=>e= .returned (.bool true)/\Below W.heap.size W W':=ZM5 W n hb.1 hb.2 hS.env hS.sp hS.pw hS.et;refine walk.mono λe W' ⟨he,hB⟩=>?_;subst he;refine⟨_,rfl,_,_,_, [], [], [],hW',?_,?_,rfl,hB.frame _,λh=>aS⟩
 ·exact trodAll_mk1 (shut_bool underlying4 true)
 ·exact trodAll_mk1 (shut_int underlying3 hn)
def ZN0(os:Os)(started:os.Started)(H:Type)(Nr:TypeId×Value->H)(F:Stop.Interp):
  ReturnsInHanded {} Tryz.checked os 3 .any ((OpenSpec.ofChange Rows.knownSpec).preRow Nr prog Tryz.f3 Rows.knownRow.domain false Rows.knownRow.laid) (((OpenSpec.ofChange Rows.knownSpec).at F).post Nr prog Tryz.f3 false true false false):=by
 refine returnsInHanded_of_row (C:=Tryz.checked) (s:=OpenSpec.ofChange Rows.knownSpec) ZE5 started af func3 (wit os H Nr) ?_;intro W base args ds gs before Ji hW _ _ hwt hL QX _;have hG:13<=W.heap.size:=by
  obtain⟨cs,hc,_⟩:=QX.1 (13-1) #[.pointer none] 304 (qw af) af;have:=(oz.1 hc).1;omega
 exact Zmr H Nr W base args ds gs before Ji hW hwt hL hG
def ZN4:Rows.KnownSaid:=
 OpenClaim.holds_of_cond 3 Tryz.f3 rfl rfl rfl rfl rfl rfl rfl ⟨rfl,rfl,rfl,rfl,rfl⟩ rfl rfl rfl rfl rfl ZN2 func3 ZNX ZNZ ZN7
  (λos started H Nr _ F=>by rw[OpenClaim.pre_eq_preRow];exact ZN0 os started H Nr F)
def ZN3(f:FuncId)(fn:Func)(hf:Tryz.pinned.checked.prog.funcNamed "bags/bagskeep.Known"=some f)(Bo:Tryz.pinned.checked.prog.funcs[f]? =some fn):
  true=Tryz.pinned.checked.prog.looks []/\∀(j:Nat) t,fn.params[j]? =some t->Tryz.pinned.checked.prog.wantsStandIn t=false:=by
 obtain rfl:f=3:=oN ((show prog.funcNamed "bags/bagskeep.Known"=some 3 by kernel_rfl).symm.trans hf) |>.symm;obtain rfl:fn=Tryz.f3:=(oN (func3.symm.trans Bo)).symm;refine⟨af,λj t ht=>?_⟩;rw[Tryz.params3]at ht;obtain rfl:t=3:=by
  have:=Array.mem_of_getElem? ht;exact nR
 exact(show prog.wantsStandIn 3=false by kernel_rfl)
def ZNW:Rows.KnownCardSaid:=
 ZFU .later _ _ _ _ true ZN4 ZN6 ZN5 rfl ⟨rfl,rfl⟩ ZN1 rfl ZN3 ZNY
end Zhx
theorem known_card:Rows.KnownCardSaid:=Zhx.ZNW
#print axioms known_card
end Go.Proofs.YtncnkiabjhhclaaGreatDoor
