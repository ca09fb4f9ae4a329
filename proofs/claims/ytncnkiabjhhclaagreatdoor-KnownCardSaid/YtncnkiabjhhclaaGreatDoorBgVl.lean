import Derived.Test.YtncnkiabjhhclaaGreatDoorBgAb
import Derived.ProofKit
import Derived.SevenTiedAt
import Derived.Test.YtncnkiabjhhclaaGreatDoorCards
set_option maxRecDepth 100000
set_option maxHeartbeats 8000000
set_option linter.all false
namespace Go.Proofs.YtncnkiabjhhclaaGreatDoor
open Go
def ZIA{p:Pinned}{s:OpenSpec}{k:Claim7}(h:Claim7.holdsNew p (.plain s) k)(g):Claim7.holdsNew p (.plain s) {k with goes:=g}:=h
def ZFU(Lk){p:Pinned}{s:OpenSpec}{c:OpenClaim}(kinds)(tests)(Qw:Bool×String)(lk g)(hc:c.holds p s)(hw:c.wfByText s=true)(ZMa:c.laidByTextAt Lk p kinds tests)(yI:c.start= .entering)(Jh:c.noBlocks=false/\c.again=false)(hm:p.checked.prog.mainIs=some (Qw.1,Qw.2.toList))(hn:(!Qw.1&&Qw.2.isEmpty&& !lk)=false)(hl:∀f fn,p.checked.prog.funcNamed c.func=some f->p.checked.prog.funcs[f]? =some fn->lk=p.checked.prog.looks []/\∀(j:Nat) t,fn.params[j]? =some t->p.checked.prog.wantsStandIn t=false)(hg:g=c.goesBy p.checked.prog):
  Claim7.holds p (.plain s) {stood:={row:=c,standIns:= [],harness:=Qw,looks:=lk},kinds:= [],alts:= [],goes:=g,laidByText:=true,laidKinds:=kinds,laidTests:=tests,laidLooks:=Lk}:=by
 have h6:Claim7.isSixth {stood:={row:=c,standIns:= [],harness:=Qw,looks:=lk},kinds:= []}=false:=by simpa[Claim7.isSixth]using hn
 exact⟨ZIA (Claim7.tied_new_at Lk kinds tests (Claim7.new_of_sixth hc Qw lk yI Jh hm h6 hl) hw) g,(λD hD=>by cases hD),ZMa,(λh=>aS),hg⟩
def ZN6:Rows.knownRow.wfByText (OpenSpec.ofChange Rows.knownSpec)=true:=by kernel_rfl
def ZN1:Tryz.pinned.checked.prog.mainIs=some (Rows.knownCard.stood.harness.1,Rows.knownCard.stood.harness.2.toList):=by kernel_rfl
def ZNY:true=Rows.knownRow.goesBy Tryz.pinned.checked.prog:=by kernel_rfl
end Go.Proofs.YtncnkiabjhhclaaGreatDoor
