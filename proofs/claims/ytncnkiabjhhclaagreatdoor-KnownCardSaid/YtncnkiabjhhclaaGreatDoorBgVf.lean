import Derived.Test.YtncnkiabjhhclaaGreatDoorBgVa
set_option maxRecDepth 100000
set_option maxHeartbeats 8000000
set_option linter.all false
namespace Go.Proofs.YtncnkiabjhhclaaGreatDoor
open Go
def ZTX(os)(tape):(ZgM Tryz.prog (varsWorld Tryz.prog 400 (varsId Tryz.prog) os tape).memory).map (λx=>laidRowsB Tryz.prog (varsWorld Tryz.prog 400 (varsId Tryz.prog) os tape).memory x.2)=some true:=by kernel_rfl
end Go.Proofs.YtncnkiabjhhclaaGreatDoor
