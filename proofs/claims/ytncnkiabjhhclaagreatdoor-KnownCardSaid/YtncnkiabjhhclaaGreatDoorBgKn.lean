import Derived.Test.YtncnkiabjhhclaaGreatDoorBgKk
import Derived.Test.YtncnkiabjhhclaaGreatDoorBgKl
set_option maxRecDepth 100000
set_option maxHeartbeats 8000000
set_option linter.all false
namespace Go.Proofs.YtncnkiabjhhclaaGreatDoor
open Go.RowKit
open Go.Proofs.Tryz
def ZG2:ZaR 127 78 67 300 (λv=>∃t y z,v= .slice t y z):=by
 have κ:Mi 78 67 300 (.slice none 0 0):=⟨⟩;have HW:=@ZG5;have HMK:=fun(n:Nat) h h' (w:World)=>rJ (P:=Tryz.prog) 67 78 (.slice none 0 0) 24 Tryz.underlying67 Tryz.ZjS rfl .i64 .i64 n h h' w;unfold ZaR;exact Zmz
end Go.Proofs.YtncnkiabjhhclaaGreatDoor
