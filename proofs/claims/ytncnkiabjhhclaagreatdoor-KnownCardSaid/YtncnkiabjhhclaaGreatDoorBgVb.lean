import Derived.Test.YtncnkiabjhhclaaGreatDoorBgVa
set_option maxRecDepth 100000
set_option maxHeartbeats 8000000
set_option linter.all false
namespace Go.Proofs.YtncnkiabjhhclaaGreatDoor
open Go.Proofs.Tryz
open Go
def ZT6:prog.worded (varsWordLater true)=true:=by kernel_rfl
def ZT7:prog.worded (varsWordLater !true)=false:=by kernel_rfl
def ZT5:prog.worded rootWordLater=true:=by kernel_rfl
def ZT3:ZgL.map (λx=>prog.kindOfLater x.1)=ZTT.map some:=by kernel_rfl
def ZT2:(prog.funcNamed "gosem.cut.vars").isSome=true:=by kernel_rfl
def ZT4:varsNamedLaterB prog (varsId prog) ZgL=true:=by kernel_rfl
end Go.Proofs.YtncnkiabjhhclaaGreatDoor
