import Derived.Test.YtncnkiabjhhclaaGreatDoorBgKi
set_option maxRecDepth 100000
set_option maxHeartbeats 8000000
set_option linter.all false
namespace Go.Proofs.YtncnkiabjhhclaaGreatDoor
open Go.RowKit
open Go.Proofs.Tryz
def ZG7:Zbq 300 80 78 345 (λv=>∃t y,v= .iface t y):=by
 have κ:Mi 80 78 345 .nilIface:=⟨⟩;unfold Zbq;exact ZmA
end Go.Proofs.YtncnkiabjhhclaaGreatDoor
