import Derived.Test.YtncnkiabjhhclaaGreatDoorBgAb
import Derived.Deep.DeepHandedRow
import Derived.JoinedCond
import Derived.LaidHandle
import Derived.LaidLaws
import Derived.LaidMore
import Derived.Lay
import Derived.Lib.LaidTab
import Derived.OpenShut
import Derived.ProofKit
import Derived.SevenTiedAt
import Derived.Stop.Joined
import Derived.Stop.LaidErr
import Derived.Test.YtncnkiabjhhclaaGreatDoorCards
set_option maxRecDepth 100000
set_option maxHeartbeats 8000000
set_option linter.all false
namespace Go.Proofs.YtncnkiabjhhclaaGreatDoor
open Go.Proofs.Tryz
def vP{p:Prop}(h:p:=by kernel_rfl):p:=h
open Go.ChangeShapes Go.WideShapes Go.ChangeAt Go.RowKit
def Dy{a b:Bool}(ha:a=true)(hb:b=true):(a&&b)=true:=by rw[ha,hb];rfl
def ZNh:(Rows.knownRow.wf (OpenSpec.ofChange (OpenSpec.ofChange Rows.knownSpec).bare))=true:=by kernel_rfl
def ZNs:(laidOutB prog)=true:=by kernel_rfl
def ZND:(mapsRowed prog)=true:=by kernel_rfl
def ZNH:(Tryz.f3.params.all (prog.readableRec ·))=true:=by kernel_rfl
def ZNI:(namedTie prog Rows.knownRow.named (OpenSpec.ofChange Rows.knownSpec).bare.vars)=true:=by kernel_rfl
def ZNJ:((Rows.knownRow.stops== []))=true:=by kernel_rfl
def ZNK:((prog.stops== []))=true:=by kernel_rfl
def ZNL:((Rows.knownRow.knobs== []))=true:=by kernel_rfl
def ZNM:((prog.stopKnobs== []))=true:=by kernel_rfl
def ZNi:((Rows.knownRow.inPlace==prog.inPlace 3))=true:=by kernel_rfl
def ZNj:((Rows.knownRow.unfollowed==prog.unfollowed 3))=true:=by kernel_rfl
def ZNk:((Rows.knownRow.recurses==prog.recurses 3))=true:=by kernel_rfl
def ZNl:((Rows.knownRow.named==prog.varsNamed 3))=true:=by kernel_rfl
def ZNm:((Rows.knownRow.maps==(Tryz.f3.params.toList++(OpenSpec.ofChange Rows.knownSpec).bare.plain.varTypes prog).any (prog.mapsRec ·)))=true:=by kernel_rfl
def ZNn:((Rows.knownRow.ifaces==(Tryz.f3.params.toList++(OpenSpec.ofChange Rows.knownSpec).bare.plain.varTypes prog).any (prog.ifacesRec ·)))=true:=by kernel_rfl
def ZNo:((Rows.knownRow.mapsOut==prog.mapsAmong Tryz.f3.resultTypes.toList))=true:=by kernel_rfl
def ZNp:((Rows.knownRow.loops==(Tryz.f3.params.toList++(OpenSpec.ofChange Rows.knownSpec).bare.plain.varTypes prog).any (prog.loopsFrom ·)))=true:=by kernel_rfl
def ZNq:((Rows.knownRow.wideKeys==(Tryz.f3.params.toList++(OpenSpec.ofChange Rows.knownSpec).bare.plain.varTypes prog++Tryz.f3.resultTypes.toList).any (prog.wideKeysFrom ·)))=true:=by kernel_rfl
def ZNr:((OpenSpec.ofChange Rows.knownSpec).bare.vars.all (prog.varReadable ·))=true:=by kernel_rfl
def ZNt:(Tryz.f3.resultTypes.all (λt=>prog.readableRec t&&decide (t<prog.types.size)))=true:=by kernel_rfl
def ZNu:((Rows.knownRow.ifacesOut==Tryz.f3.resultTypes.toList.any (prog.ifacesRec ·)))=true:=by kernel_rfl
def ZNv:((Rows.knownRow.loopsOut==Tryz.f3.resultTypes.toList.any (prog.loopsFrom ·)))=true:=by kernel_rfl
def ZNw:((Rows.knownRow.plainKeys==prog.plainKeys))=true:=by kernel_rfl
def ZNx:(Rows.knownRow.shortTexts.isNone)=true:=by kernel_rfl
def ZNy:(prog.stopsHeard)=true:=by kernel_rfl
def ZNz:(prog.mayEnter)=true:=by kernel_rfl
def ZNA:((Rows.knownRow.lifted==prog.liftsFinal))=true:=by kernel_rfl
def ZNB:((prog.make==some Rows.knownRow.make))=true:=by kernel_rfl
def ZNC:((Rows.knownRow.kinds==(if Rows.knownRow.domain.isEmpty then[]else Tryz.f3.params.toList.map λt=>match prog.underlying t with|some (.int k)=>some k|_=>none)))=true:=by kernel_rfl
def ZNE:((Rows.knownRow.pinned==Rows.knownRow.pinnedBy))=true:=by kernel_rfl
def ZNF:((Rows.knownRow.veiled==(Tryz.f3.params.toList++(OpenSpec.ofChange Rows.knownSpec).bare.plain.varTypes prog++Tryz.f3.resultTypes.toList).any (prog.veiledRec ·)))=true:=by kernel_rfl
def ZNG:(Rows.knownRow.veiledFits prog Tryz.f3.params.toList (Tryz.f3.params.toList++(OpenSpec.ofChange Rows.knownSpec).bare.plain.varTypes prog++Tryz.f3.resultTypes.toList))=true:=by kernel_rfl
def ZNX:joinedFacts Tryz.pinned.checked.prog 3 Tryz.f3 (OpenSpec.ofChange Rows.knownSpec).bare Rows.knownRow=true:=Dy (Dy (Dy (Dy (Dy (Dy (Dy (Dy (Dy (Dy (Dy (Dy (Dy (Dy (Dy (Dy (Dy (Dy (Dy (Dy (Dy (Dy (Dy (Dy (Dy (Dy (Dy (Dy (Dy (Dy (Dy ZNh ZNs) ZND) ZNH) ZNI) ZNJ) ZNK) ZNL) ZNM) ZNi) ZNj) ZNk) ZNl) ZNm) ZNn) ZNo) ZNp) ZNq) ZNr) ZNt) ZNu) ZNv) ZNw) ZNx) ZNy) ZNz) ZNA) ZNB) ZNC) ZNE) ZNF) ZNG
def ZN2:Tryz.pinned.checked.prog.funcNamed Rows.knownRow.func=some 3:=by kernel_rfl
def ZNZ:Tryz.f3.isInstance Tryz.pinned.checked.prog Rows.knownRow.origin Rows.knownRow.targs:=qw vP
def ZN7:Tryz.f3.isWrapper Tryz.pinned.checked.prog Rows.knownRow.wrapper Rows.knownRow.mainSum:=by
 unfold Func.isWrapper;first|(rw[nY bG];kernel_rfl)|(rw[nU bG];exact⟨rfl,rfl⟩)
namespace Zhx
def Zpo:((Rows.knownRow.laid.filter λx=>x.2.handleName?.isNone).filter λx=>((Rows.knownRow.laid.filter λx=>x.2.handleName?.isNone).map (·.1)).contains x.1)=(Rows.knownRow.laid.filter λx=>x.2.handleName?.isNone):=uo.2 λx hx=>rC.2 (qm.2 ⟨x,hx,rfl⟩)
def ZOe:((Rows.knownRow.laid.filter λx=>x.2.handleName?.isNone).filter λx=> !((Rows.knownRow.laid.filter λx=>x.2.handleName?.isNone).map (·.1)).contains x.1)= []:=List.filter_eq_nil_iff.2 λx hx=>by rw[rC.2 (qm.2 ⟨x,hx,rfl⟩)];simp
def wit(os)(H)(Nr:TypeId×Value->H):∃(w:World) (tape:Tape) (i:Input),w.os=os/\(w.forCall tape i).Shaped Tryz.checked.prog/\i.vars= []/\Input.okWide Tryz.checked.prog (w.forCall tape i) .any w.heap.size 3 i/\
  (OpenSpec.ofChange Rows.knownSpec).preRow Nr Tryz.checked.prog Tryz.f3 Rows.knownRow.domain false Rows.knownRow.laid (w.forCall tape i).memory i.args/\({}:Assume).holds Tryz.checked.prog (lone (Frame.enter Tryz.checked.prog 3 i.args .normal) [] (w.forCall tape i)):=by
 have hB:∃B:World,B={World.holding prog os ⟨#[],#[], []⟩with heap:=(World.holding prog os ⟨#[],#[], []⟩).heap.modify 0 fun
   | .cells _ t frozen=>.cells #[.iface 149 (.agg #[.pointer (some ⟨13,35,none⟩)])] t frozen
   |o=>o}:=⟨_,rfl⟩
 obtain⟨B,hB⟩:=hB;have hos:(B.layVars prog (Rows.knownRow.laid.filter λx=>x.2.handleName?.isNone)).os=os:=by
  subst hB;exact World.layVars_os _ _ _
 have NU:laidMetH prog Rows.knownRow.laid ((B.layVars prog (Rows.knownRow.laid.filter λx=>x.2.handleName?.isNone)).forCall (λ_ _=>0) ⟨#[],#[.int .i64 0], []⟩).memory:=by
  refine laidMetH_of_parts ?_ (by subst hB;kernel_rfl);have h:laidMet prog (Rows.knownRow.laid.filter λx=>x.2.handleName?.isNone) (B.layVars prog (Rows.knownRow.laid.filter λx=>x.2.handleName?.isNone)):=
   laidMet_layVars (w0:=B) ((Rows.knownRow.laid.filter λx=>x.2.handleName?.isNone).map (·.1)) [] (by rw[Zpo]) (by rw[Zpo];subst hB;kernel_rfl) (by rw[Zpo];subst hB;kernel_rfl) (by rw[ZOe];exact LaidIn.none)
  exact h.of_heap (by simp[World.memory,World.forCall,Input.heap])
 have hx:∃places,DataW.whole Nr prog ((B.layVars prog (Rows.knownRow.laid.filter λx=>x.2.handleName?.isNone)).forCall (λ_ _=>0) ⟨#[],#[.int .i64 0], []⟩).memory Tryz.f3.params.toList Rows.knownSpec.vars false #[Value.int .i64 0].toList 8=some ([.lit (.int .i64 0)], [],places):=by
  subst hB;exact⟨[],vP⟩
 have QX:((B.layVars prog (Rows.knownRow.laid.filter λx=>x.2.handleName?.isNone)).forCall (λ_ _=>0) ⟨#[],#[.int .i64 0], []⟩).Shaped Tryz.checked.prog:=by
  subst hB;exact World.shaped_of_ZipB vP vP
 have wQ:Input.okWideB Tryz.checked.prog ((B.layVars prog (Rows.knownRow.laid.filter λx=>x.2.handleName?.isNone)).forCall (λ_ _=>0) ⟨#[],#[.int .i64 0], []⟩) 3 ⟨#[],#[.int .i64 0], []⟩=true:=by
  subst hB;kernel_rfl
 clear hB;obtain⟨places,hx⟩:=hx;exact⟨B.layVars prog (Rows.knownRow.laid.filter λx=>x.2.handleName?.isNone),λ_ _=>0,⟨#[],#[.int .i64 0], []⟩,hos,QX,(Input.okWide_of_okWideB (base:=0) wQ).1,(Input.okWide_of_okWideB wQ).2,
  OpenSpec.preRow_of_cond 8 hx vP (λk hk=>by cases hk) vP NU,by
   simp only[Assume.holds];exact⟨ae,ae,λ_=>Modest.zero,ae,ae⟩⟩
end Zhx
end Go.Proofs.YtncnkiabjhhclaaGreatDoor
