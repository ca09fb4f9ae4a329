import Derived.Test.YtncnkiabjhhclaaGreatDoorBgVa
set_option maxRecDepth 100000
set_option maxHeartbeats 8000000
set_option linter.all false
namespace Go.Proofs.YtncnkiabjhhclaaGreatDoor
open Go
def ZT0(os)(tape):varsDone Tryz.prog 400 (varsId Tryz.prog) os tape=true:=by kernel_rfl
def ZTY(os)(tape):(ZgL.filter λx=>x.2.handleName?.isSome).all (handleAtB Tryz.prog (varsWorld Tryz.prog 400 (varsId Tryz.prog) os tape).memory)=true:=by kernel_rfl
end Go.Proofs.YtncnkiabjhhclaaGreatDoor
