import Derived.Deep.DeepMust
import Derived.Test.YtncnkiabjhhclaaGreatDoorBgJa08
set_option maxRecDepth 100000
set_option maxHeartbeats 8000000
set_option linter.all false
namespace Go.Proofs.YtncnkiabjhhclaaGreatDoor
open Go.Proofs.Tryz
open Go.RowKit
structure Mi (et sl pt:TypeId) (zv:Value)
def Mi.inv{et sl pt:TypeId}{zv:Value}(_:Mi et sl pt zv)(M:Md)(B0 W:World)(l:List xE)(la:Option Addr)(lc:Nat)(q:Option Addr)(nt:TypeId)(ny:Value)(sp:Bool)(K lb pb vb mb g1 g2:Nat)(cap:Array Value)(ms:List Nat)(PV:Nat->Value->World->Prop)(gk:Nat)(iv:Value)(wr:World):Prop:=
 ∃(k:Nat) (Au EZ:Array Value) (fx fy:Value),k<=l.length/\gk=l.length-k+1/\iv= .int .i64 k/\W.heap.size<wr.heap.size/\wr.heap[lb]? =some (.cells #[.slice la l.length lc] 257)/\wr.heap[pb]? =some (.cells #[.func (.func K) #[] cap] pt)/\wr.heap[vb]? =some (.cells #[.slice (some ⟨g1,0,none⟩) l.length l.length] sl)/\wr.heap[mb]? =some (.cells #[.slice (some ⟨g2,0,none⟩) l.length l.length] 389)/\wr.heap[g1]? =some (.cells Au et)/\wr.heap[g2]? =some (.cells EZ 47)/\Au.size=l.length/\EZ.size=l.length/\wr.heap[W.heap.size]? =some (.cells #[fx,fy,.pointer q,.iface nt ny,.bool sp] 218)/\Hid (M.X B0.heap.size B0 wr/\M.J k wr/\(∀i,i<k->∃v,Au[i]? =some v/\PV i v wr)/\∀i,i<k->EZ[i]? =some (.int .i64 (ms.getD i 0)))
def Zbq(fn:Nat)(et sl pt:TypeId)(sh:Value->Prop):Prop:=
 ∀(M:Md) (B0 W:World) (l:List xE) (lv:Value) (q:Option Addr) (nt:TypeId) (ny:Value) (up:List xE) (sp:Bool) (K ab lb pb vb mb g1 g2:Nat) (cap Zh3 Zh4:Array Value) (ms:List Nat) (PV:Nat->Value->World->Prop)
  (hX0:M.X B0.heap.size B0 W) (Fa:l.length<=64) (hE:yH K) (Fq:B0.heap.size<=g1) (Cj:B0.heap.size<=g2)
  (ZC:W.heap[ab]? =some (.cells #[.slice none 0 0,.slice none 0 0,.pointer q,.iface nt ny,.bool sp] 218)) (O8:W.heap[lb]? =some (.cells #[lv] 257)) (IE:W.heap[pb]? =some (.cells #[.func (.func K) #[] cap] pt))
  (hvb:W.heap[vb]? =some (.cells #[.slice (some ⟨g1,0,none⟩) l.length l.length] sl)) (hmb:W.heap[mb]? =some (.cells #[.slice (some ⟨g2,0,none⟩) l.length l.length] 389))
  (yV:W.heap[g1]? =some (.cells Zh3 et)) (Aa:W.heap[g2]? =some (.cells Zh4 47)) (En:Zh3.size=l.length) (Ay:Zh4.size=l.length)
  (hl:Cq B0 lv l) (zu:Ao B0 (.iface nt ny) up (.pointer q)) (hJ:M.J 0 W)
  (Gj:∀i v a b,M.X a.heap.size a b->PV i v a->PV i v b) (II:∀i v (a:World) (g o:Nat) (cu:Array Value) (ty:TypeId) (u:Value),PV i v a->a.heap[g]? =some (.cells cu ty)->ty∈ [et,47,218]->PV i v (a.setCell ⟨g,o,none⟩ u))
  (BC:∀(i:Nat) (hi:i<l.length) (W':World) (fp:Value),M.J i W'->Ao W' (.iface nt ny) (l[i]::up) fp->M.X B0.heap.size B0 W'->Calls prog K (#[fp]++cap) W' λe W2=>∃v,e= .returned (.tuple #[v,.int .i64 (ms.getD i 0)])/\sh v/\PV i v W2/\M.X W'.heap.size W' W2/\M.J (i+1) W2) (hL:∀t∈ [et,47,218],t∈M.L:=by first|assumption|(intro t h;revert t;decide)),
  Calls prog fn #[.int .i64 0,.int .i64 l.length,vU ab,vU lb,vU pb,vU vb,vU mb] W λe W'=>e= .returned (.tuple #[])/\M.X B0.heap.size B0 W'/\M.J l.length W'/\W'.heap[vb]? =some (.cells #[.slice (some ⟨g1,0,none⟩) l.length l.length] sl)/\W'.heap[mb]? =some (.cells #[.slice (some ⟨g2,0,none⟩) l.length l.length] 389)/\∃Au EZ:Array Value,W'.heap[g1]? =some (.cells Au et)/\W'.heap[g2]? =some (.cells EZ 47)/\(∀i,i<l.length->∃v,Au[i]? =some v/\PV i v W')/\∀i,i<l.length->EZ[i]? =some (.int .i64 (ms.getD i 0))
def ZmA{p:Prop}(h:p:=by
 intro M B0 W l lv q nt ny up sp K ab lb pb vb mb g1 g2 cap Zh3 Zh4 ms PV hX0 Fa hE Fq Cj ZC O8 IE hvb hmb yV Aa En Ay hl zu hJ Gj II BC hL;obtain⟨a0,a1,a2,a3,a4⟩:=cD5 ZC;have HL:=vR hl;have HU:=vR zu;have HC:=vR BC;have RB:=vR Gj;have V7:=vR II;have HJ:=vR hJ;have HX0:=vR hX0;have HN0:=vR (M.size hX0);have lt1:=(wo yV);have lt2:=(wo Aa);have ltl:=(wo O8);have ltp:=(wo IE);have ltv:=(wo hvb);have ltm:=(wo hmb);have wF:g1≠g2:=λe=>by rw[e,Aa]at yV;cases yV
 have ZO8:g1≠lb:=λe=>by rw[e,O8]at yV;cases yV
 have ZPc:g1≠pb:=λe=>by rw[e,IE]at yV;cases yV
 have ZPe:g1≠vb:=λe=>by rw[e,hvb]at yV;cases yV
 have ZPa:g1≠mb:=λe=>by rw[e,hmb]at yV;cases yV
 have ZO9:g2≠lb:=λe=>by rw[e,O8]at Aa;cases Aa
 have ZPd:g2≠pb:=λe=>by rw[e,IE]at Aa;cases Aa
 have ZPf:g2≠vb:=λe=>by rw[e,hvb]at Aa;cases Aa
 have ZPb:g2≠mb:=λe=>by rw[e,hmb]at Aa;cases Aa
 obtain⟨la,lc,rfl,zQ,_⟩:=hl;have Ip:Hid (∀ob,(W.alloc ob).heap[lb]? =W.heap[lb]?/\(W.alloc ob).heap[pb]? =W.heap[pb]?/\(W.alloc ob).heap[vb]? =W.heap[vb]?/\(W.alloc ob).heap[mb]? =W.heap[mb]?/\(W.alloc ob).heap[g1]? =W.heap[g1]?/\(W.alloc ob).heap[g2]? =W.heap[g2]?):=λob=>⟨ow _ _ _ ltl,ow _ _ _ ltp,ow _ _ _ ltv,ow _ _ _ ltm,ow _ _ _ lt1,ow _ _ _ lt2⟩;have HBS:=vR (oG O8 (oG IE (oG hvb (oG hmb (oG yV Aa)))));clear ZC BC Gj II hJ zu hX0 O8 IE hvb hmb yV Aa;unfold yH at hE;unfold vU;first|go_enter func243,ntmps243|go_enter func300,ntmps300|go_enter func189,ntmps189
 go_wp2_with fail;go_loopg [10] (l.length+1) (κ.inv M B0 W l la lc q nt ny sp K lb pb vb mb g1 g2 cap ms PV);case atStart=>
  obtain⟨e1,e2,e3,e4,e5,e6⟩:=Ip.out (.cells #[.slice none 0 0,.slice none 0 0,.pointer q,.iface nt ny,.bool sp] 218);obtain⟨f1,f2,f3,f4,f5,f6⟩:=HBS.out;exact⟨0,Zh3,Zh4,_,_,Z,Z,rfl,ae,e1.trans f1,e2.trans f2,e3.trans f3,e4.trans f4,e5.trans f5,e6.trans f6,En,Ay,xI W _,M.trans HX0.out (M.mono (M.below ((uQ _ W).alloc (nV _) _)) HN0.out),M.jb HJ.out ((uQ _ W).alloc (nV _) _),λi hi=>Z,λi hi=>Z⟩
 case round=>
  obtain⟨k,Au,EZ,fx,fy,hk,rfl,rfl,yA,bl,bp,bv,bm,b1,b2,z1,z2,bf,hI⟩:=hrel;by_cases hlt:k<l.length
  ·obtain⟨a',c',ee,_,hx⟩:=HL.out;cases ee;obtain⟨g,o,cu,rv,mv,rfl,hg,c0,c1,Bt,Hy⟩:=hx k hlt;have ktw:KT Ig B0 wr:=M.kt hI.out.1;have hgw:=ktw g cu _ O hg;have c0':wr.cell? ⟨g,o+k*2,none⟩=some rv:=yP (hgw.trans hg.symm) c0;have c1':wr.cell? ⟨g,o+k*2+1,none⟩=some mv:=yP (hgw.trans hg.symm) c1;have Mg:=vR Bt;have YA:=vR Hy;obtain⟨ra,rc,rfl,_⟩:=Bt;obtain⟨ma,mc,rfl,_⟩:=Hy;have dl:=xH bl;obtain⟨df0,ZGT⟩:=cF0 bf;obtain⟨df1,ZGU⟩:=cF1 bf;have HI:=vR hI.out;clear hx c0 c1 hI hg hgw;go_upto_region 5 with fail
   obtain⟨w1,N9⟩:∃w1,w1=(wr.setCell ⟨W.heap.size,0,none⟩ (.slice ra l[k].row.length rc)).setCell ⟨W.heap.size,1,none⟩ (.slice ma l[k].made.length mc):=⟨_,rfl⟩;rw[<-N9];have hF:w1.heap[W.heap.size]? =some (.cells #[.slice ra l[k].row.length rc,.slice ma l[k].made.length mc,.pointer q,.iface nt ny,.bool sp] 218):=by rw[N9];exact zD (zD bf)
   have Z7:∀x,x≠W.heap.size->w1.heap[x]? =wr.heap[x]? :=λx hx=>by rw[N9];exact(uX _ _ _ _ hx).trans (uX _ _ _ _ hx)
   have OZ:M.X B0.heap.size B0 w1:=by rw[N9];exact M.set (M.set HI.out.1 HN0.out) HN0.out
   have hJ1:M.J k w1:=by rw[N9];exact M.js (M.js HI.out.2.1 bf (hL _ ae)) (zD bf) (hL _ ae)
   have HP1:Hid (∀i,i<k->∃v,Au[i]? =some v/\PV i v w1):=λi hi=>by
    obtain⟨v,h1,h2⟩:=HI.out.2.2.1 i hi;refine⟨v,h1,?_⟩;rw[N9];exact V7.out _ _ _ _ _ _ _ _ (V7.out _ _ _ _ _ _ _ _ h2 bf ae) (zD bf) ae
   have TL:=vR HI.out.2.2.2;have ZXM:w1.heap.size=wr.heap.size:=by rw[N9];simp[Bf]
   have bl1:=(Z7 lb Z).trans bl;have bp1:=(Z7 pb Z).trans bp;have bv1:=(Z7 vb Z).trans bv;have bm1:=(Z7 mb Z).trans bm;have b11:=(Z7 g1 Z).trans b1;have b21:=(Z7 g2 Z).trans b2;clear N9 Z7 df0 ZGT df1 ZGU dl c0' c1' bf bl bp bv bm b1 b2 HI ktw;have ME:vV w1 w1.drew:=yF (uQ _ _) 1;have Zb5:M.X B0.heap.size B0 w1.drew:=M.trans OZ (M.mono (M.below ME) (M.size OZ));have Zu6:=M.jb hJ1 ME;have kt1:KT Ig B0 w1.drew:=M.kt Zb5;have HCA:=vR (HC.out k hlt w1.drew (.pointer (some ⟨W.heap.size,0,none⟩)) Zu6 ⟨W.heap.size,_,_,_,_,rfl,hF,Mg.out.same kt1 O,YA.out.same kt1 O,HU.out.same kt1.BV⟩ Zb5);have ZCF:Hid (∀i,i<k->∃v,Au[i]? =some v/\PV i v w1.drew):=λi hi=>by
    obtain⟨v,h1,h2⟩:=HP1.out i hi;exact⟨v,h1,RB.out i v _ _ (M.below ME) h2⟩
   have ZVL:=vR Zb5;have ev:=xH bv1;have em:=xH bm1;have ep:=xH bp1;have yU:k<Au.size:=Z
   have EH:k<EZ.size:=Z
   have Gt:Hid (∀(w2:World) (v:Value),PV k v w2->M.X w1.drew.heap.size w1.drew w2->M.J (k+1) w2->κ.inv M B0 W l (some ⟨g,o,none⟩) lc q nt ny sp K lb pb vb mb g1 g2 cap ms PV (l.length-(k+1)+1) (.int .i64 ((k:Int)+1)) ((w2.setCell ⟨g1,k,none⟩ v).setCell ⟨g2,k,none⟩ (.int .i64 (ms.getD k 0)))):=by
    intro w2 v ZoJ Fh GA;have lw:∀x,x<W.heap.size+1->x<w1.drew.heap.size:=λx hx=>by show x<w1.heap.size;omega
    have b12:=M.wJ Fh (lw g1 Z) O b11;have b22:=M.wJ Fh (lw g2 Z) O b21;have ZEr:=zD (k:=k) (u:=v) b12;have YY:=(uX w2 ⟨g1,k,none⟩ v g2 (p8 wF)).trans b22;have oth:∀x,x≠g1->x≠g2->((w2.setCell ⟨g1,k,none⟩ v).setCell ⟨g2,k,none⟩ (.int .i64 (ms.getD k 0))).heap[x]? =w2.heap[x]? :=λx h1 h2=>(uX _ _ _ _ h2).trans (uX _ _ _ _ h1);have ZX2:=M.size Fh;have ZLR:W.heap.size<w1.drew.heap.size:=lw _ Z;have Lv:M.X B0.heap.size B0 w2:=M.trans Zb5 (M.mono Fh (M.size Zb5));refine⟨k+1,_,_,_,_,Z,rfl,ae,by simp only[Bf];omega,(oth lb (p8 ZO8) (p8 ZO9)).trans (M.wJ Fh (lw lb Z) O bl1),(oth pb (p8 ZPc) (p8 ZPd)).trans (M.wJ Fh (lw pb Z) O bp1),(oth vb (p8 ZPe) (p8 ZPf)).trans (M.wJ Fh (lw vb Z) O bv1),(oth mb (p8 ZPa) (p8 ZPb)).trans (M.wJ Fh (lw mb Z) O bm1),(uX _ _ _ _ wF).trans ZEr,zD YY,by rw[uL];exact z1,by rw[uL];exact z2,(oth _ Z Z).trans (M.wJ Fh (lw _ Z) O hF),M.set (M.set Lv Fq) Cj,M.js (M.js GA b12 (hL _ ae)) YY (hL _ ae),λi hi=>?_,λi hi=>?_⟩
    ·by_cases hik:i=k
     ·subst hik;exact⟨v,qQ Z,V7.out _ _ _ _ _ _ _ _ (V7.out _ _ _ _ _ _ _ _ ZoJ b12 ae) YY ae⟩
     ·obtain⟨u,h1,h2⟩:=ZCF.out i Z;exact⟨u,by rw[qL Z];exact h1,V7.out _ _ _ _ _ _ _ _ (V7.out _ _ _ _ _ _ _ _ (RB.out _ _ _ _ Fh h2) b12 ae) YY ae⟩
    ·by_cases hik:i=k
     ·subst hik;rw[qQ Z]
     ·rw[qL Z];exact TL.out i Z
   generalize ms.getD k 0=mk at *;clear OZ hJ1 Zb5 Zu6 kt1 HP1;go_region_with ((with_reducible refine HCA.out.mono ?_);go_must (rintro e w2 ⟨v,rfl,QX,ZoJ,Fh,GA⟩;(first|obtain⟨t,rfl⟩:=QX|obtain⟨t,y,rfl⟩:=QX|obtain⟨t,y,z,rfl⟩:=QX);have bv2:=M.wJ Fh bI O bv1;have bm2:=M.wJ Fh bI O bm1;have bl2:=M.wJ Fh bI O bl1;have bp2:=M.wJ Fh bI O bp1;have b12:=M.wJ Fh bI O b11;have b22:=M.wJ Fh bI O b21;have bF2:=M.wJ Fh bI O hF;have Fx:=xH bv2;have MN:=xH bm2;obtain⟨p1,p2⟩:=IU b12 yU;obtain⟨p3,p4⟩:=IU b22 EH;have YY:=λx=>(uX w2 ⟨g1,k,none⟩ x g2 (p8 wF)).trans b22;have p5:=λx=>(IU (YY x) EH).1;have p6:=λx=>(IU (YY x) EH).2));all_goals
    go_wp2_with fail;go_roundg (l.length-(k+1)+1);case measure=>omega
    case rel=>exact Gt.out w2 _ ZoJ Fh GA
  ·obtain rfl:k=l.length:=by omega
   have HI:=vR hI.out;clear hI;go_wp2_with fail;go_end0;exact⟨rfl,HI.out.1,HI.out.2.1,bv,bm,Au,EZ,b1,b2,HI.out.2.2.1,HI.out.2.2.2⟩):p:=h
def ZG6:Zbq 243 396 393 246 (λv=>∃t:Nat,v= .int .i64 t):=by
 have κ:Mi 396 393 246 (.int .i64 0):=⟨⟩;unfold Zbq;exact ZmA
end Go.Proofs.YtncnkiabjhhclaaGreatDoor
