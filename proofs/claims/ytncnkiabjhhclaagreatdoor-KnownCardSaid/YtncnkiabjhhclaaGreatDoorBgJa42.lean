import Derived.Test.YtncnkiabjhhclaaGreatDoorBgVb
import Derived.Test.YtncnkiabjhhclaaGreatDoorBgVc
import Derived.Test.YtncnkiabjhhclaaGreatDoorBgVd
import Derived.Test.YtncnkiabjhhclaaGreatDoorBgVe
import Derived.Test.YtncnkiabjhhclaaGreatDoorBgVf
set_option maxRecDepth 100000
set_option maxHeartbeats 8000000
set_option linter.all false
namespace Go.Proofs.YtncnkiabjhhclaaGreatDoor
open Go.Proofs.Tryz
def vQ{p:Prop}(h:p:=by kernel_rfl):p:=h
section
open Go
def ZT1:Tryz.pinned.checked.prog.listedFits [("strings.asciiSpace",Rows.laid_strings_asciiSpace),("unicode/utf8.first",Rows.laid_unicode_utf8_first),("unicode/utf8.acceptRanges",Rows.laid_unicode_utf8_acceptRanges),("unicode.White_Space",Rows.laid_unicode_White_Space),("strconv.ErrSyntax",Rows.laid_strconv_ErrSyntax),("strconv.ErrRange",Rows.laid_strconv_ErrRange),("internal/strconv.uint64pow10",Rows.laid_internal_strconv_uint64pow10),("math/bits.deBruijn32tab",Rows.laid_math_bits_deBruijn32tab),("math/bits.deBruijn64tab",Rows.laid_math_bits_deBruijn64tab),("errors.errorType",Rows.laid_errors_errorType),("bags/words.signs",Rows.laid_bags_words_signs)]=true:=by
 unfold Program.listedFits;rw[ZPp];kernel_rfl
end
section
open Go
def ZTV(os)(tape):(ZgM prog (varsWorld prog 400 (varsId prog) os tape).memory).map (λx=>decide x.2.Nodup&&laidRowsB prog (varsWorld prog 400 (varsId prog) os tape).memory x.2)=some true:=by
 have h1:=ZTW os tape;have h2:=ZTX os tape;cases e:ZgM prog (varsWorld prog 400 (varsId prog) os tape).memory with
 |none=>rw[e]at h1;cases h1
 |some x=>
  rw[e]at h1 h2;simp only[Option.map_some,sN]at h1 h2 ⊢;rw[h2,Bool.and_true];exact su (nodup_of_code _ h1)
def ZTZ:prog.laidByTextLater [("strings.asciiSpace",Rows.laid_strings_asciiSpace),("unicode/utf8.acceptRanges",Rows.laid_unicode_utf8_acceptRanges),("unicode.White_Space",Rows.laid_unicode_White_Space),("strconv.ErrSyntax",Rows.laid_strconv_ErrSyntax),("strconv.ErrRange",Rows.laid_strconv_ErrRange),("internal/strconv.uint64pow10",Rows.laid_internal_strconv_uint64pow10),("math/bits.deBruijn32tab",Rows.laid_math_bits_deBruijn32tab),("math/bits.deBruijn64tab",Rows.laid_math_bits_deBruijn64tab),("errors.errorType",Rows.laid_errors_errorType),("bags/words.signs",Rows.laid_bags_words_signs)] [.data,.data,.listed,.sentinel,.sentinel,.data,.data,.data,.handle,.data] true:=
 Program.laidByTextLater_by_run_h 400 8 ZT6 ZT7 ZT5 ZT3 ZT2 ZT4 ZT0 ZTU ZTV ZTY
def ZN5:Rows.knownRow.laidByTextAt .later Tryz.pinned [.data,.pinned,.data,.listed,.sentinel,.sentinel,.data,.data,.data,.handle,.data] true:=
 OpenClaim.laidByTextAt_pinned rfl rfl ZTZ rfl rfl rfl rfl (λy hy _e=>by
  simp only[Rows.knownRow,List.zip_cons_cons,List.zip_nil_right,oQ,List.mem_nil_iff,pW]at hy;rcases hy with rfl|rfl|rfl|rfl|rfl|rfl|rfl|rfl|rfl|rfl|rfl
  ·cases _e
  ·exact⟨ZQZ,vQ⟩
  ·cases _e
  ·cases _e
  ·cases _e
  ·cases _e
  ·cases _e
  ·cases _e
  ·cases _e
  ·cases _e
  ·cases _e) ZT1
end
end Go.Proofs.YtncnkiabjhhclaaGreatDoor
