import Derived.Test.YtncnkiabjhhclaaGreatDoorBgVa
set_option maxRecDepth 100000
set_option maxHeartbeats 8000000
set_option linter.all false
namespace Go.Proofs.YtncnkiabjhhclaaGreatDoor
open Go
def ZTU(os:Os)(tape:Tape):(ZgM Tryz.prog (varsWorld Tryz.prog 400 (varsId Tryz.prog) os tape).memory).map (·.1)=some (ZgL.filter λx=>x.2.handleName?.isNone):=by kernel_rfl
end Go.Proofs.YtncnkiabjhhclaaGreatDoor
