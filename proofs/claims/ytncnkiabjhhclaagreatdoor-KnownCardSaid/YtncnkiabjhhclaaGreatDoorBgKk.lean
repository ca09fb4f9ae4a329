import Derived.Test.YtncnkiabjhhclaaGreatDoorBgKi
set_option maxRecDepth 100000
set_option maxHeartbeats 8000000
set_option linter.all false
namespace Go.Proofs.YtncnkiabjhhclaaGreatDoor
open Go.RowKit
open Go.Proofs.Tryz
def ZG5:Zbq 189 78 67 300 (λv=>∃t y z,v= .slice t y z):=by
 have κ:Mi 78 67 300 (.slice none 0 0):=⟨⟩;unfold Zbq;exact ZmA
end Go.Proofs.YtncnkiabjhhclaaGreatDoor
