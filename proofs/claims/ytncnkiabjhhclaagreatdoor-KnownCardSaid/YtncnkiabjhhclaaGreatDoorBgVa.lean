import Derived.Test.YtncnkiabjhhclaaGreatDoorBgAb
import Derived.LaidByTextLater
import Derived.SevenTiedAt
import Derived.Test.YtncnkiabjhhclaaGreatDoorRows
set_option maxRecDepth 100000
set_option maxHeartbeats 8000000
set_option linter.all false
namespace Go.Proofs.YtncnkiabjhhclaaGreatDoor
open Go
def ZgL:List (String×DataW Unit):= [("strings.asciiSpace",Rows.laid_strings_asciiSpace),("unicode/utf8.acceptRanges",Rows.laid_unicode_utf8_acceptRanges),("unicode.White_Space",Rows.laid_unicode_White_Space),("strconv.ErrSyntax",Rows.laid_strconv_ErrSyntax),("strconv.ErrRange",Rows.laid_strconv_ErrRange),("internal/strconv.uint64pow10",Rows.laid_internal_strconv_uint64pow10),("math/bits.deBruijn32tab",Rows.laid_math_bits_deBruijn32tab),("math/bits.deBruijn64tab",Rows.laid_math_bits_deBruijn64tab),("errors.errorType",Rows.laid_errors_errorType),("bags/words.signs",Rows.laid_bags_words_signs)]
def ZTT:List LaidKind:= [.data,.data,.listed,.sentinel,.sentinel,.data,.data,.data,.handle,.data]
def ZgM(P:Program)(w:World):Option (List (String×DataW Unit)×List MemPlace):=DataW.laidRun P w 8 ((ZgL.filter λx=>x.2.handleName?.isNone).map (·.1))
def ZtT:MemPlace->Nat
 | .cell b off=>b*100000+off
 | .map b=>b*100000+99999
def nodupB:List Nat->Bool
 | []=>true
 |x::r=>r.all (λy=> !(Nat.beq x y))&&nodupB r
theorem ZyV:∀l,nodupB l=true->l.Nodup
 | [],_=>List.nodup_nil
 |x::r,h=>by
  rw[nodupB,oJ,pR]at h;refine sK.2 ⟨λhm=>?_,ZyV r h.2⟩;have:=h.1 x hm;simp at this
def nodup_of_code(l:List MemPlace)(h:nodupB (l.map ZtT)=true):l.Nodup:=by
 have h1:=ZyV _ h;unfold List.Nodup at *;rw[List.pairwise_map]at h1;exact h1.imp λwF e=>wF (by rw[e])
def ZQZ:Tryz.pinned.checked.prog.pinnedFits "unicode/utf8.first"=true:=by kernel_rfl
def ZPp:Tryz.pinned.checked.prog.headLifts.contains "ownunsafe"=false:=by kernel_rfl
end Go.Proofs.YtncnkiabjhhclaaGreatDoor
