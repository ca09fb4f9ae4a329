import Derived.Deep.DeepHandedRow
import Derived.JoinedCond
import Derived.LaidHandle
import Derived.LaidLaws
import Derived.LaidMore
import Derived.Lay
import Derived.Lib.LaidTab
import Derived.OpenShut
import Derived.ProofKit
import Derived.SevenTiedAt
import Derived.Stop.Joined
import Derived.Stop.LaidErr
import Derived.Test.YthmlacabmlghbaaGreatDoorBgJa46
import Derived.Test.YthmlacabmlghbaaGreatDoorBgPT
import Derived.Test.YthmlacabmlghbaaGreatDoorCards
set_option maxRecDepth 100000
set_option maxHeartbeats 8000000
set_option linter.unusedSimpArgs false
set_option linter.unusedVariables false
namespace Go.Proofs.YthmlacabmlghbaaGreatDoor
open Go.Proofs.Tryz
section
open Go.RowKit
open NT
structure Zja (w:World):Prop where
 env:Zbm w
 sp:UZ w
 err:w.cell? ⟨0,0,none⟩=some (.iface 185 (.agg #[.pointer (some ⟨13,36,none⟩)]))
theorem ZKg(s:Za)(W:World)(hs:s.length<=90000)(h:s.length>4000):
  Calls prog 5 #[.string ⟨s.toArray⟩] W fun e W'=>∃v,e= .returned (.tuple #[v,.int .i64 0])/\Below W.heap.size W W':=by
 have h1:(4000:Int)<(s.length:Int):=U
 go_enter func5,ntmps5;go_wp2;go_ret2;exact⟨_,rfl,ZWT _ _⟩
theorem ZKf(s:Za)(W:World)(hs:s.length<=90000):
  Calls prog 5 #[.string ⟨s.toArray⟩] W fun e W'=>∃v,e= .returned (.tuple #[v,.int .i64 (YZ s)])/\Below W.heap.size W W'/\Hid (YZ s= -1->Vz [] W' v ((Qt [] (ZX s)).map El)):=by
 unfold YZ;by_cases h:s.length>4000
 ·rw[ZWR h];exact(ZKg s W hs h).mono fun e W' ⟨v,h1,h2⟩=>⟨v,h1,h2,fun h=>ZPs⟩
 ·rw[ZWQ h];exact(ZKe s W U).mono fun e W' ⟨v,h1,h2,h3⟩=>⟨v,h1,h2,fun h=>ZiP.tabs (h3.out h)⟩
theorem ZFX{W:World}{s:Za}{db:List Tb}{k a k' a':Int}{v:Value}(h:QU s db k a)(hr:Zl7 W (XB s) v k' a'):(k'≠0/\k=k'/\a=a'/\∃o,v= .pointer o)\/(k'=0/\a'=0/\a=0/\∃M N b t,v= .pointer (some ⟨b,0,none⟩)/\Zr M N W t v/\Good t/\Zbk t/\sz t<=1000000/\k=ZaO db t):=by
 unfold QU at h;split at h
 ·rename_i n hn;rw[hn]at hr;obtain⟨r0,h1,h2⟩:=hr;exact .inl ⟨U,U,U,_,r0⟩
 ·rename_i l hn;rw[hn]at hr;rcases h with⟨h1,h2,h3⟩|⟨h1,h2,h3,h4⟩|⟨h1,h2,t,h3,h4,h5⟩<;>rcases hr with⟨r1,r0,r2,r3⟩|⟨r1,r2,r0,r3,r4⟩|⟨r1,r2,r3,r4,M,N,b,t',rv,rp,rd⟩
  ·exact .inl ⟨U,U,U,_,r0⟩
  ·exact absurd r1 h1
  ·exact absurd r1 h1
  ·exact absurd h1 r1
  ·exact .inl ⟨U,U,U,_,r0⟩
  ·rw[h2]at r2;cases r2
  ·exact absurd h1 r1
  ·rw[h2]at r2;cases r2
  ·obtain rfl:=h3.one rd;have hsz:sz t<=1000000:=by
    have:=h3.sz;obtain⟨_,q2,q3⟩:=ZfZ hn;simp only[extra]at this;omega
   exact .inr ⟨r3,r4,h5,M,N,b,t,rv,rp,ZJ0 hn h3,h3.dj,hsz,h4⟩
theorem ZJ1{W:World}{R:Except Nat (List RW)}{v:Value}{k a:Int}(h:Zl7 W R v k a):∃o,v= .pointer o:=by
 cases R with
 |error n=>exact⟨_,h.1⟩
 |ok l=>
  rcases h with⟨_,r,_⟩|⟨_,_,r,_⟩|⟨_,_,_,_,_,_,b,_,r,_⟩
  ·exact⟨_,r⟩
  ·exact⟨_,r⟩
  ·exact⟨_,r⟩
theorem ZF3(d s:Za)(W:World)(hd:d.length<=140737488351232)(hs:s.length<=140737488351232)(h:d.length+s.length>8192):
  Calls prog 3 #[.string ⟨d.toArray⟩,.string ⟨s.toArray⟩] W fun e W'=>e= .returned (.bool true)/\Below W.heap.size W W':=by
 have h1:(8192:Int)<(d.length:Int)+(s.length:Int):=U
 go_enter func3,ntmps3;go_wp2;go_ret;exact⟨rfl,ZWT _ _⟩
theorem ZF7(d s:Za)(W:World)(h:d.length+s.length<=8192)(hS:Zja W):
  Calls prog 3 #[.string ⟨d.toArray⟩,.string ⟨s.toArray⟩] W fun e W'=>e= .returned (.bool true)/\Below W.heap.size W W':=by
 have h1:¬(8192:Int)<(d.length:Int)+(s.length:Int):=U
 go_enter func3,ntmps3;go_wp2_with fail;refine(ZI4 d s W U U hS.env hS.sp hS.env.num hS.err).mono ?_;rintro e w1 ⟨hB1,c,l,k,a,rfl,hR⟩;have HR:Hid (ZgO d s k a):=hR;clear hR;go_wp2_with fail;refine(ZKf d _ U).mono ?_;rintro e w2 ⟨dv,rfl,hB2,hT⟩;have ED:=hB1.trans (hB2.mono hB1.size);obtain⟨line,ZhT⟩:∃x,YZ d=x:=⟨_,rfl⟩;rw[ZhT]at hT;rcases HR.out with⟨h0,rfl,ha⟩|⟨h0,hJ,hk0,hk9,hOK⟩
 ·rw[ZhT]at h0 ha ⊢;subst ha;have h0':¬a<0:=by omega
  clear hT HR ZhT;go_wp2_with fail;refine(Zv7 s _ U).mono ?_;rintro e w3 ⟨v,k2,a2,rfl,hB3,hr⟩;obtain⟨o,rfl⟩:=ZJ1 hr;clear hr;go_wp2_with fail;go_ret;exact⟨rfl,ED.trans (hB3.mono ED.size)⟩
 ·rw[ZhT]at h0 ⊢;subst h0;have HT:Hid (Vz [] w2 dv ((Qt [] (ZX d)).map El)):=hT.out rfl;have HJ:Hid (QU s ((Qt [] (ZX d)).map El) k a):=hJ;have X9:Hid (Zc2 ((Qt [] (ZX d)).map El)):=hOK;obtain⟨da,dc,rfl⟩:∃a c,dv= .slice a ((Qt [] (ZX d)).map El).length c:=by obtain⟨a,c,e,_⟩:=HT.out;exact⟨a,c,e⟩
  clear hT hJ hOK HR ZhT;generalize (Qt [] (ZX d)).map El=db at *;go_wp2_with fail;refine(Zv7 s _ U).mono ?_;rintro e w3 ⟨v,k2,a2,rfl,hB3,hr⟩;have VP:=ED.trans (hB3.mono ED.size);rcases ZFX HJ.out hr with⟨hk2,rfl,rfl,o,rfl⟩|⟨rfl,rfl,rfl,M,N,b,t,rfl,hp,hg,hq,hsz,hk⟩
  ·have hb:(k==0)=false:=by simpa using hk2
   clear hr HJ HT X9 hk2;go_wp2_with fail;go_ret;exact⟨rfl,VP⟩
  ·have HT3:Hid (Vz [] w3 (.slice da db.length dc) db):=HT.out.same (Same.of_below (X:= []) hB3) (fun _ h=>h);have HJU:=ZJ8 M N (.slice da db.length dc) (.pointer (some ⟨b,0,none⟩)) db t w3 HT3.out X9.out hq hsz hp hg;rw[<-hk]at HJU;have HJU:Hid (Calls prog 7 #[.slice da db.length dc,.pointer (some ⟨b,0,none⟩)] w3 fun e W'=>e= .returned (.int .i64 k)/\Below w3.heap.size w3 W'):=HJU;clear hr HJ HT HT3 X9 hp hg hq hsz hk;go_wp2_with fail;refine HJU.out.mono ?_;rintro e w4 ⟨rfl,hB4⟩;have Zco:=VP.trans (hB4.mono VP.size);clear HJU;by_cases hz:k=0
   ·subst hz;go_wp2_with fail;go_ret;exact⟨rfl,Zco⟩
   ·have hb:(k==0)=false:=by simpa using hz
    go_wp2_with fail;go_ret;exact⟨rfl,Zco⟩
theorem ZFY(d s:Za)(W:World)(hd:d.length<=140737488351232)(hs:s.length<=140737488351232)(hS:Zja W):
  Calls prog 3 #[.string ⟨d.toArray⟩,.string ⟨s.toArray⟩] W fun e W'=>e= .returned (.bool true)/\Below W.heap.size W W':=by
 by_cases h:d.length+s.length>8192
 ·exact ZF3 d s W hd hs h
 ·exact ZF7 d s W U hS
end
section
open Go.ChangeShapes Go.WideShapes Go.ChangeAt Go.RowKit
theorem ZAp:ownKnob prog.godebug=none:=by kernel_rfl
theorem gEt:prog.globalNamed "errors.errorType"=some 0:=by kernel_rfl
theorem gSp:prog.globalNamed "strings.asciiSpace"=some 1:=by kernel_rfl
theorem ZCL:(prog.globals[1]?).map (·.type)=some 231:=by kernel_rfl
theorem gEs:prog.globalNamed "strconv.ErrSyntax"=some 8:=by kernel_rfl
theorem ZCI:(prog.globals[8]?).map (·.type)=some 36:=by kernel_rfl
theorem gEr:prog.globalNamed "strconv.ErrRange"=some 9:=by kernel_rfl
theorem ZCH:(prog.globals[9]?).map (·.type)=some 36:=by kernel_rfl
theorem ZAY:prog.cellsOf 231=256:=by kernel_rfl
theorem ZAZ:prog.cellsOf 5=1:=by kernel_rfl
theorem ZrC:prog.cellsOf 479=1:=by kernel_rfl
theorem ZmB:prog.cellsOf 9=1:=by kernel_rfl
theorem ZwG: "*"++ "errors.errorString"= "*errors.errorString":=by decide
theorem Zwh(u:TypeId)(h:prog.typeName? 3 u=some "*errors.errorString"):u=477:=
 typeName_ptr_named (nm:= "errors.errorString") (by rw[ZwG];kernel_rfl) ZPn ZPl u (by rw[ZwG];exact h)
theorem ZKM:(prog.cutTypes.find? (·.1== "internal/reflectlite.rtype")).map (·.2)=some 185:=by kernel_rfl
theorem ZIg:((List.range prog.types.size).filter fun t=>prog.rowNamed t [101,114,114,111,114])= [36]:=by kernel_rfl
theorem ZDp:typeHandle prog 36= .pointer (some ⟨13,36,none⟩):=by kernel_rfl
theorem gSg:prog.globalNamed "bags/words.signs"=some 3:=by kernel_rfl
theorem ZCK:(prog.globals[3]?).map (·.type)=some 357:=by kernel_rfl
theorem ZAX:prog.cellsOf 357=15:=by kernel_rfl
theorem ZK5:(Rows.laid_bags_words_signs:DataW Unit)= .agg (Y6.map fun s=>.lit (.string s)):=by kernel_rfl
theorem ZLv{W:World}{rest:List (String×DataW Unit)}(h:laidMet prog (("bags/words.signs",.agg (Y6.map fun s=>.lit (.string s)))::rest) W):ZdZ W:=by
 obtain⟨ps,⟨g',t',cs,fuel,p,q,hg',ht',hvar,hd,_,_⟩,_⟩:=h;obtain rfl:=ZXc (gSg.symm.trans hg');obtain rfl:=ZXc (ZCK.symm.trans ht');cases fuel with
 |zero=>simp[DataW.trod]at hd
 |succ fuel=>
  simp only[DataW.trod,underlying357,ZmB,ZAX,Nat.mul_one]at hd;split at hd
  ·obtain⟨xs,hm,hx⟩:=Option.map_eq_some_iff.1 hd;have hxs:xs.map (·.1)=Y6.map fun s=>(DataW.lit (.string s):DataW Unit):=by
    have:=congrArg Prod.fst hx;exact ZWN
   intro k hk;have h15:Y6.length=15:=ZPl
   obtain⟨b,hb,hf⟩:=Lib.mapM_at hm k k (by rw[List.getElem?_range U]);obtain⟨s,hc,hbs,_⟩:=DataW.trod_string underlying9 hf;have h1:cs[k]? =some (.string s):=by
    have:=congrArg (·[0]?) hc;simpa[List.getElem?_take,List.getElem?_drop]using this
   have h2:=congrArg (·[k]?) hxs;simp only[ZXU,hb,ZW1 hk,Option.map_some,hbs]at h2;have h3:s.data.toList=Y6[k]:=ZQe
   have h4:=World.var?_cell gSg hvar k;rw[h4,<-h3];simpa using h1
  ·cases hd
def ZiE:List Int:=(List.range 256).map fun n=>if n<128/\isSp (UInt8.ofNat n)=true then 1 else 0
theorem ZLf:(Rows.laid_strings_asciiSpace:DataW Unit)=Lib.tabData .u8 ZiE:=by kernel_rfl
theorem ZLe:((List.range 128).all fun n=>ZiE.getD n 0==(if isSp (UInt8.ofNat n)then 1 else 0))=true:=by decide +kernel
def ZoY:List (String×DataW Unit):= [("math/bits.deBruijn32tab",Rows.laid_math_bits_deBruijn32tab),("math/bits.deBruijn64tab",Rows.laid_math_bits_deBruijn64tab),("internal/strconv.uint64pow10",Rows.laid_internal_strconv_uint64pow10),("unicode/utf8.acceptRanges",Rows.laid_unicode_utf8_acceptRanges),("strconv.ErrRange",Rows.laid_strconv_ErrRange),("strconv.ErrSyntax",Rows.laid_strconv_ErrSyntax),("unicode.White_Space",Rows.laid_unicode_White_Space),("strings.asciiSpace",Rows.laid_strings_asciiSpace),("bags/words.signs",Rows.laid_bags_words_signs),("unicode/utf8.first",Rows.laid_unicode_utf8_first)]
theorem ZIa{W:World}(hp:laidMet prog ZoY W)(hh:handlesMet prog [("errors.errorType",Rows.laid_errors_errorType)] W)(hG:13<=W.heap.size):Zja W:=by
 unfold ZoY at hp;have t5:=hp.tail.tail.tail.tail;have t6:=t5.tail;have t8:=t6.tail.tail;have t9:=t8.tail;refine⟨⟨⟨?_,?_⟩,?_,hG⟩,?_,?_⟩
 ·obtain⟨a0,s0,hv0, -, -, -⟩:=laid_sentinel t6 gEs ZCI underlying36 Zwh underlying477 underlying479 rfl rfl underlying9 ZrC ZmB;exact⟨_,_,hv0⟩
 ·obtain⟨a0,s0,hv0, -, -, -⟩:=laid_sentinel t5 gEr ZCH underlying36 Zwh underlying477 underlying479 rfl rfl underlying9 ZrC ZmB;exact⟨_,_,hv0⟩
 ·rw[ZK5]at t9;exact ZLv t9
 ·have ht:Lib.TabIs prog W "strings.asciiSpace" .u8 ZiE:=by
   rw[ZLf]at t8;exact Lib.tabIs_of_head gSp ZCL underlying231 underlying5 ZAZ ZAY t8
  have hc:=fun(i:Nat) (hi:i<ZiE.length)=>ht.cell gSp i hi;have hlen:ZiE.length=256:=ZP5
  refine⟨ZWW W _ (hc 0 U),fun c hcc=>?_⟩;have h1:=hc c.toNat U;have h2:=ZXQ.1 ZLe c.toNat (ZYj.2 hcc);rw[UInt8.ofNat_toNat]at h2;rw[h1,eq_of_beq h2]
 ·obtain⟨name,u,ty,e1,e2,e3,e4,e5⟩:=hh _ (ZXh.2 rfl);have en:name= [101,114,114,111,114]:=(ZXc e1).symm;subst en;obtain rfl:=ZXc (ZKM.symm.trans e2);have hm:ty∈(List.range prog.types.size).filter fun t=>prog.rowNamed t [101,114,114,111,114]:=List.mem_filter.2 ⟨ZYj.2 e3,e4⟩;rw[ZIg]at hm;obtain rfl:=ZXh.1 hm;rw[ZDp]at e5;show W.cell? ⟨0,0,none⟩=_;simpa using World.var?_cell gEt e5 0
end
section
open Go.ChangeShapes Go.WideShapes Go.ChangeAt Go.RowKit
theorem Xz{a b:Bool}(ha:a=true)(hb:b=true):(a&&b)=true:=by rw[ha,hb];rfl
theorem ZFp:(Rows.judgedRow.wf (OpenSpec.ofChange (OpenSpec.ofChange Rows.judgedSpec).bare))=true:=by kernel_rfl
theorem ZFA:(laidOutB prog)=true:=by kernel_rfl
theorem ZFL:(mapsRowed prog)=true:=by kernel_rfl
theorem ZFP:(Tryz.f3.params.all (prog.readableRec ·))=true:=by kernel_rfl
theorem ZFQ:(namedTie prog Rows.judgedRow.named (OpenSpec.ofChange Rows.judgedSpec).bare.vars)=true:=by kernel_rfl
theorem ZFR:((Rows.judgedRow.stops== []))=true:=by kernel_rfl
theorem ZFS:((prog.stops== []))=true:=by kernel_rfl
theorem ZFT:((Rows.judgedRow.knobs== []))=true:=by kernel_rfl
theorem ZFU:((prog.stopKnobs== []))=true:=by kernel_rfl
theorem ZFq:((Rows.judgedRow.inPlace==prog.inPlace 3))=true:=by kernel_rfl
theorem ZFr:((Rows.judgedRow.unfollowed==prog.unfollowed 3))=true:=by kernel_rfl
theorem ZFs:((Rows.judgedRow.recurses==prog.recurses 3))=true:=by kernel_rfl
theorem ZFt:((Rows.judgedRow.named==prog.varsNamed 3))=true:=by kernel_rfl
theorem ZFu:((Rows.judgedRow.maps==(Tryz.f3.params.toList++(OpenSpec.ofChange Rows.judgedSpec).bare.plain.varTypes prog).any (prog.mapsRec ·)))=true:=by kernel_rfl
theorem ZFv:((Rows.judgedRow.ifaces==(Tryz.f3.params.toList++(OpenSpec.ofChange Rows.judgedSpec).bare.plain.varTypes prog).any (prog.ifacesRec ·)))=true:=by kernel_rfl
theorem ZFw:((Rows.judgedRow.mapsOut==prog.mapsAmong Tryz.f3.resultTypes.toList))=true:=by kernel_rfl
theorem ZFx:((Rows.judgedRow.loops==(Tryz.f3.params.toList++(OpenSpec.ofChange Rows.judgedSpec).bare.plain.varTypes prog).any (prog.loopsFrom ·)))=true:=by kernel_rfl
theorem ZFy:((Rows.judgedRow.wideKeys==(Tryz.f3.params.toList++(OpenSpec.ofChange Rows.judgedSpec).bare.plain.varTypes prog++Tryz.f3.resultTypes.toList).any (prog.wideKeysFrom ·)))=true:=by kernel_rfl
theorem ZFz:((OpenSpec.ofChange Rows.judgedSpec).bare.vars.all (prog.varReadable ·))=true:=by kernel_rfl
theorem ZFB:(Tryz.f3.resultTypes.all (fun t=>prog.readableRec t&&decide (t<prog.types.size)))=true:=by kernel_rfl
theorem ZFC:((Rows.judgedRow.ifacesOut==Tryz.f3.resultTypes.toList.any (prog.ifacesRec ·)))=true:=by kernel_rfl
theorem ZFD:((Rows.judgedRow.loopsOut==Tryz.f3.resultTypes.toList.any (prog.loopsFrom ·)))=true:=by kernel_rfl
theorem ZFE:((Rows.judgedRow.plainKeys==prog.plainKeys))=true:=by kernel_rfl
theorem ZFF:(Rows.judgedRow.shortTexts.isNone)=true:=by kernel_rfl
theorem ZFG:(prog.stopsHeard)=true:=by kernel_rfl
theorem ZFH:(prog.mayEnter)=true:=by kernel_rfl
theorem ZFI:((Rows.judgedRow.lifted==prog.liftsFinal))=true:=by kernel_rfl
theorem ZFJ:((prog.make==some Rows.judgedRow.make))=true:=by kernel_rfl
theorem ZFK:((Rows.judgedRow.kinds==(if Rows.judgedRow.domain.isEmpty then[]else Tryz.f3.params.toList.map fun t=>match prog.underlying t with|some (.int k)=>some k|_=>none)))=true:=by kernel_rfl
theorem ZFM:((Rows.judgedRow.pinned==Rows.judgedRow.pinnedBy))=true:=by kernel_rfl
theorem ZFN:((Rows.judgedRow.veiled==(Tryz.f3.params.toList++(OpenSpec.ofChange Rows.judgedSpec).bare.plain.varTypes prog++Tryz.f3.resultTypes.toList).any (prog.veiledRec ·)))=true:=by kernel_rfl
theorem ZFO:(Rows.judgedRow.veiledFits prog Tryz.f3.params.toList (Tryz.f3.params.toList++(OpenSpec.ofChange Rows.judgedSpec).bare.plain.varTypes prog++Tryz.f3.resultTypes.toList))=true:=by kernel_rfl
theorem ZF0:joinedFacts Tryz.pinned.checked.prog 3 Tryz.f3 (OpenSpec.ofChange Rows.judgedSpec).bare Rows.judgedRow=true:=Xz (Xz (Xz (Xz (Xz (Xz (Xz (Xz (Xz (Xz (Xz (Xz (Xz (Xz (Xz (Xz (Xz (Xz (Xz (Xz (Xz (Xz (Xz (Xz (Xz (Xz (Xz (Xz (Xz (Xz (Xz ZFp ZFA) ZFL) ZFP) ZFQ) ZFR) ZFS) ZFT) ZFU) ZFq) ZFr) ZFs) ZFt) ZFu) ZFv) ZFw) ZFx) ZFy) ZFz) ZFB) ZFC) ZFD) ZFE) ZFF) ZFG) ZFH) ZFI) ZFJ) ZFK) ZFM) ZFN) ZFO
theorem ZF4:Tryz.pinned.checked.prog.funcNamed Rows.judgedRow.func=some 3:=by kernel_rfl
theorem ZF1:Tryz.f3.isInstance Tryz.pinned.checked.prog Rows.judgedRow.origin Rows.judgedRow.targs:=ZXL ZPn
theorem ZF8:Tryz.f3.isWrapper Tryz.pinned.checked.prog Rows.judgedRow.wrapper Rows.judgedRow.mainSum:=by
 unfold Func.isWrapper;first|(rw[ZWR ZP5];kernel_rfl)|(rw[ZWQ ZP5];exact⟨rfl,rfl⟩)
namespace Zi5
theorem Zon:((Rows.judgedRow.laid.filter fun x=>x.2.handleName?.isNone).filter fun x=>((Rows.judgedRow.laid.filter fun x=>x.2.handleName?.isNone).map (·.1)).contains x.1)=(Rows.judgedRow.laid.filter fun x=>x.2.handleName?.isNone):=List.filter_eq_self.2 fun x hx=>ZXI.2 (ZXj.2 ⟨x,hx,rfl⟩)
theorem ZG5:((Rows.judgedRow.laid.filter fun x=>x.2.handleName?.isNone).filter fun x=> !((Rows.judgedRow.laid.filter fun x=>x.2.handleName?.isNone).map (·.1)).contains x.1)= []:=List.filter_eq_nil_iff.2 fun x hx=>by rw[ZXI.2 (ZXj.2 ⟨x,hx,rfl⟩)];simp
theorem wit(os:Os)(H:Type)(enc:TypeId×Value->H):∃(w:World) (tape:Tape) (i:Input),w.os=os/\(w.forCall tape i).Shaped Tryz.checked.prog/\i.vars= []/\Input.okWide Tryz.checked.prog (w.forCall tape i) .any w.heap.size 3 i/\
  (OpenSpec.ofChange Rows.judgedSpec).preRow enc Tryz.checked.prog Tryz.f3 Rows.judgedRow.domain false Rows.judgedRow.laid (w.forCall tape i).memory i.args/\({}:Assume).holds Tryz.checked.prog (lone (Frame.enter Tryz.checked.prog 3 i.args .normal) [] (w.forCall tape i)):=by
 have hB:∃B:World,B={World.holding prog os ⟨#[],#[], []⟩with heap:=(World.holding prog os ⟨#[],#[], []⟩).heap.modify 0 fun
   | .cells _ t frozen=>.cells #[.iface 185 (.agg #[.pointer (some ⟨13,36,none⟩)])] t frozen
   |o=>o}:=⟨_,rfl⟩
 obtain⟨B,hB⟩:=hB;have hos:(B.layVars prog (Rows.judgedRow.laid.filter fun x=>x.2.handleName?.isNone)).os=os:=by
  subst hB;exact World.layVars_os _ _ _
 have hmet:laidMetH prog Rows.judgedRow.laid ((B.layVars prog (Rows.judgedRow.laid.filter fun x=>x.2.handleName?.isNone)).forCall (fun _ _=>0) ⟨#[],#[.string ⟨#[]⟩,.string ⟨#[]⟩], []⟩).memory:=by
  refine laidMetH_of_parts ?_ (by subst hB;kernel_rfl);have h:laidMet prog (Rows.judgedRow.laid.filter fun x=>x.2.handleName?.isNone) (B.layVars prog (Rows.judgedRow.laid.filter fun x=>x.2.handleName?.isNone)):=
   laidMet_layVars (w0:=B) ((Rows.judgedRow.laid.filter fun x=>x.2.handleName?.isNone).map (·.1)) [] (by rw[Zon]) (by rw[Zon];subst hB;kernel_rfl) (by rw[Zon];subst hB;kernel_rfl) (by rw[ZG5];exact LaidIn.none)
  exact h.of_heap (by simp[World.memory,World.forCall,Input.heap])
 have hx:∃places,DataW.whole enc prog ((B.layVars prog (Rows.judgedRow.laid.filter fun x=>x.2.handleName?.isNone)).forCall (fun _ _=>0) ⟨#[],#[.string ⟨#[]⟩,.string ⟨#[]⟩], []⟩).memory Tryz.f3.params.toList Rows.judgedSpec.vars false #[Value.string ⟨#[]⟩,Value.string ⟨#[]⟩].toList 8=some ([.lit (.string []),.lit (.string [])], [],places):=by
  subst hB;exact⟨[],ZPn⟩
 have hsh:((B.layVars prog (Rows.judgedRow.laid.filter fun x=>x.2.handleName?.isNone)).forCall (fun _ _=>0) ⟨#[],#[.string ⟨#[]⟩,.string ⟨#[]⟩], []⟩).Shaped Tryz.checked.prog:=by
  subst hB;exact World.shaped_of_ZipB ZPn ZPn
 have hok:Input.okWideB Tryz.checked.prog ((B.layVars prog (Rows.judgedRow.laid.filter fun x=>x.2.handleName?.isNone)).forCall (fun _ _=>0) ⟨#[],#[.string ⟨#[]⟩,.string ⟨#[]⟩], []⟩) 3 ⟨#[],#[.string ⟨#[]⟩,.string ⟨#[]⟩], []⟩=true:=by
  subst hB;kernel_rfl
 clear hB;obtain⟨places,hx⟩:=hx;exact⟨B.layVars prog (Rows.judgedRow.laid.filter fun x=>x.2.handleName?.isNone),fun _ _=>0,⟨#[],#[.string ⟨#[]⟩,.string ⟨#[]⟩], []⟩,hos,hsh,(Input.okWide_of_okWideB (base:=0) hok).1,(Input.okWide_of_okWideB hok).2,
  OpenSpec.preRow_of_cond 8 hx ZPn (fun k hk=>by cases hk) ZPn hmet,by
   simp only[Assume.holds];exact⟨ZPm,ZPm,fun _=>Modest.zero,ZPm,ZPm⟩⟩
end Zi5
end
end Go.Proofs.YthmlacabmlghbaaGreatDoor
