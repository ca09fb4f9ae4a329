import Derived.Deep.DeepHandedRow
import Derived.LaidHandle
import Derived.LaidLaws
import Derived.LaidMore
import Derived.Lay
import Derived.Lib.LaidTab
import Derived.OpenShut
import Derived.ProofKit
import Derived.SevenTiedAt
import Derived.Stop.Joined
import Derived.Stop.LaidErr
import Derived.Test.YtncnkiabjhhclaaGreatDoorBgJa32
import Derived.Test.YtncnkiabjhhclaaGreatDoorCards
set_option maxRecDepth 100000
set_option maxHeartbeats 8000000
set_option linter.all false
namespace Go.Proofs.YtncnkiabjhhclaaGreatDoor
open Go.Proofs.Tryz
variable{W:World}
open Go.ChangeShapes Go.WideShapes Go.ChangeAt Go.RowKit
def ZE5:ownKnob prog.godebug=none:=by kernel_rfl
def gEt:prog.globalNamed "errors.errorType"=some 0:=by kernel_rfl
def gSp:prog.globalNamed "strings.asciiSpace"=some 1:=by kernel_rfl
def ZIk:(prog.globals[1]?).map (·.type)=some 222:=by kernel_rfl
def gEs:prog.globalNamed "strconv.ErrSyntax"=some 8:=by kernel_rfl
def ZIg:(prog.globals[8]?).map (·.type)=some 35:=by kernel_rfl
def gEr:prog.globalNamed "strconv.ErrRange"=some 9:=by kernel_rfl
def ZIe:(prog.globals[9]?).map (·.type)=some 35:=by kernel_rfl
def ZF8:prog.cellsOf 222=256:=by kernel_rfl
def ZGa:prog.cellsOf 5=1:=by kernel_rfl
def ZtD:prog.cellsOf 588=1:=by kernel_rfl
def Zml:prog.cellsOf 9=1:=by kernel_rfl
def ZAp: "*"++ "errors.errorString"= "*errors.errorString":=by decide
def Zz3(u:TypeId)(h:prog.typeName? 3 u=some "*errors.errorString"):u=586:=
 typeName_ptr_named (nm:= "errors.errorString") (by rw[ZAp];kernel_rfl) af O u (by rw[ZAp];exact h)
def ZR3:(prog.cutTypes.find? (·.1== "internal/reflectlite.rtype")).map (·.2)=some 149:=by kernel_rfl
def ZPB:((List.range prog.types.size).filter λt=>prog.rowNamed t [101,114,114,111,114])= [35]:=by kernel_rfl
def ZJP:typeHandle prog 35= .pointer (some ⟨13,35,none⟩):=by kernel_rfl
def gSg:prog.globalNamed "bags/words.signs"=some 3:=by kernel_rfl
def ZIj:(prog.globals[3]?).map (·.type)=some 379:=by kernel_rfl
def ZF7:prog.cellsOf 379=15:=by kernel_rfl
def ZSB:(Rows.laid_bags_words_signs:DataW Unit)= .agg (BZ.map λs=>.lit (.string s)):=by kernel_rfl
def ZSW{rest:List (String×DataW Unit)}(h:laidMet prog (("bags/words.signs",.agg (BZ.map λs=>.lit (.string s)))::rest) W):YS W:=by
 obtain⟨ps,⟨g',t',cs,fuel,p,q,ML,SV,hvar,hd,_,_⟩,_⟩:=h;obtain rfl:=oN (gSg.symm.trans ML);obtain rfl:=oN (ZIj.symm.trans SV);cases fuel with
 |zero=>simp[DataW.trod]at hd
 |succ fuel=>
  simp only[DataW.trod,underlying379,Zml,ZF7,Nat.mul_one]at hd;split at hd
  ·obtain⟨xs,hm,hx⟩:=pO.1 hd;have hxs:xs.map (·.1)=BZ.map λs=>(DataW.lit (.string s):DataW Unit):=by
    have:=congrArg Prod.fst hx;exact nR
   intro k hk;have h15:BZ.length=15:=O
   obtain⟨b,hb,hf⟩:=Lib.mapM_at hm k k (by rw[List.getElem?_range Z]);obtain⟨s,hc,UI,_⟩:=DataW.trod_string underlying9 hf;have h1:cs[k]? =some (.string s):=by
    have:=congrArg (·[0]?) hc;simpa[List.getElem?_take,uJ]using this
   have h2:=congrArg (·[k]?) hxs;simp only[rP,hb,oW hk,Option.map_some,UI]at h2;have h3:s.data.toList=BZ[k]:=bP
   have h4:=World.var?_cell gSg hvar k;rw[h4,<-h3];simpa using h1
  ·cases hd
def ZgE:List Int:=(List.range 256).map λn=>if n<128/\isSp (UInt8.ofNat n)=true then 1 else 0
def ZSK:(Rows.laid_strings_asciiSpace:DataW Unit)=Lib.tabData .u8 ZgE:=by kernel_rfl
def ZSJ:((List.range 128).all λn=>ZgE.getD n 0==(if isSp (UInt8.ofNat n)then 1 else 0))=true:=by decide +kernel
structure Zr3 (w:World):Prop where
 env:Lh w
 sp:I5 w
 pw:KD w
 et:w.cell? ⟨0,0,none⟩=some (.iface 149 (.agg #[.pointer (some ⟨13,35,none⟩)]))
def ZIi:(prog.globals[7]?).map (·.type)=some 502:=by kernel_rfl
def ZF6:prog.cellsOf 502=20:=by kernel_rfl
def ZF9:prog.cellsOf 409=1:=by kernel_rfl
def ZRb:(Rows.laid_internal_strconv_uint64pow10:DataW Unit)=Lib.tabData .u64 Lib.pow10Tab:=by kernel_rfl
def Zp5:List (String×DataW Unit):= [("strings.asciiSpace",Rows.laid_strings_asciiSpace),("unicode/utf8.first",Rows.laid_unicode_utf8_first),("unicode/utf8.acceptRanges",Rows.laid_unicode_utf8_acceptRanges),("unicode.White_Space",Rows.laid_unicode_White_Space),("strconv.ErrSyntax",Rows.laid_strconv_ErrSyntax),("strconv.ErrRange",Rows.laid_strconv_ErrRange),("internal/strconv.uint64pow10",Rows.laid_internal_strconv_uint64pow10),("math/bits.deBruijn32tab",Rows.laid_math_bits_deBruijn32tab),("math/bits.deBruijn64tab",Rows.laid_math_bits_deBruijn64tab),("bags/words.signs",Rows.laid_bags_words_signs)]
def ZPz(hp:laidMet prog Zp5 W)(hh:handlesMet prog [("errors.errorType",Rows.laid_errors_errorType)] W)(hG:13<=W.heap.size):Zr3 W:=by
 unfold Zp5 at hp;have t8:=hp;have t6:=hp.tail.tail.tail.tail;have t5:=t6.tail;have t7:=t5.tail;have t9:=t7.tail.tail.tail;refine⟨⟨⟨?_,?_⟩,?_,hG⟩,?_,?_,?_⟩
 ·obtain⟨a0,s0,hv0, -, -, -⟩:=laid_sentinel t6 gEs ZIg underlying35 Zz3 underlying586 underlying588 rfl rfl underlying9 ZtD Zml;exact⟨_,_,hv0⟩
 ·obtain⟨a0,s0,hv0, -, -, -⟩:=laid_sentinel t5 gEr ZIe underlying35 Zz3 underlying586 underlying588 rfl rfl underlying9 ZtD Zml;exact⟨_,_,hv0⟩
 ·rw[ZSB]at t9;exact ZSW t9
 ·have ht:Lib.TabIs prog W "strings.asciiSpace" .u8 ZgE:=by
   rw[ZSK]at t8;exact Lib.tabIs_of_head gSp ZIk underlying222 underlying5 ZGa ZF8 t8
  have hc:=fun(i:Nat) (hi:i<ZgE.length)=>ht.cell gSp i hi;have hlen:ZgE.length=256:=bG
  refine⟨oH W _ (hc 0 Z),λc Cv=>?_⟩;have h1:=hc c.toNat Z;have h2:=pR.1 ZSJ c.toNat (ru.2 Cv);rw[UInt8.ofNat_toNat]at h2;rw[h1,eq_of_beq h2]
 ·unfold KD;rw[ZRb]at t7;exact Lib.tabIs_of_head ZuE ZIi underlying502 underlying409 ZF9 ZF6 t7
 ·obtain⟨name,u,ty,e1,e2,e3,e4,e5⟩:=hh _ (qU.2 rfl);have en:name= [101,114,114,111,114]:=(oN e1).symm;subst en;obtain rfl:=oN (ZR3.symm.trans e2);have hm:ty∈(List.range prog.types.size).filter λt=>prog.rowNamed t [101,114,114,111,114]:=List.mem_filter.2 ⟨ru.2 e3,e4⟩;rw[ZPB]at hm;obtain rfl:=qU.1 hm;rw[ZJP]at e5;show W.cell? ⟨0,0,none⟩=_;simpa using World.var?_cell gEt e5 0
end Go.Proofs.YtncnkiabjhhclaaGreatDoor
