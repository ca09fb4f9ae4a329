import Derived.Test.YtncnkiabjhhclaaGreatDoorBgKj
import Derived.Test.YtncnkiabjhhclaaGreatDoorBgKl
set_option maxRecDepth 100000
set_option maxHeartbeats 8000000
set_option linter.all false
namespace Go.Proofs.YtncnkiabjhhclaaGreatDoor
open Go.RowKit
open Go.Proofs.Tryz
def ZG4:ZaR 248 80 78 345 (λv=>∃t y,v= .iface t y):=by
 have κ:Mi 80 78 345 .nilIface:=⟨⟩;have HW:=@ZG7;have HMK:=fun(n:Nat) h h' (w:World)=>rJ (P:=Tryz.prog) 78 80 .nilIface 16 Tryz.underlying78 Tryz.U6 rfl .i64 .i64 n h h' w;unfold ZaR;exact Zmz
end Go.Proofs.YtncnkiabjhhclaaGreatDoor
