import Derived.Test.YtncnkiabjhhclaaGreatDoorBgJa07
import Derived.Test.YtncnkiabjhhclaaGreatDoorBgJa27
import Derived.Test.YtncnkiabjhhclaaGreatDoorBgJa30
set_option maxRecDepth 100000
set_option maxHeartbeats 8000000
set_option linter.all false
namespace Go.Proofs.YtncnkiabjhhclaaGreatDoor
open Go.Proofs.Tryz
variable{no:Bool}{ps:List (vS×vS)}{S:List Nat}{es:List PX}{L wu:List vS}{B Pb bL bn n0:Nat}{W W' W0 w1 w3:World}
def lq{p:Prop}(h:p:=by have xM:=vR Iz;obtain⟨b,k,a,_,rfl,_⟩:=Iz;go_wp2;exact⟨rfl,.inl xM.out⟩):p:=h
def iR{p:Prop}(h:p:=by simp[results,Tryz.results18,go_sem,FX]):p:=h
open Go.RowKit
def Kz(vs:List wG):Nat->vS
 |0=> []
 |k+1=>(if k=0 then[]else Kz vs k++ [44])++Rq (vs.getD k .null)
def F6(vs:List wG):vS:=Kz vs vs.length
theorem ZBf{vs:List wG}(wQ:∀x∈vs,okV x=true/\(Rq x).length<=1000):∀k,k<=vs.length->(Kz vs k).length<=1001*k
 |0,_=>by simp[Kz]
 |k+1,h=>by
  have ih:=ZBf wQ k Z;have hm:=(wQ vs[k] (oC Z)).2;have hd:vs.getD k .null=vs[k]:=by simp[qI,show k<vs.length by omega]
  rw[Kz,hd,o6];split<;>simp<;>omega
structure Uc (n0:Nat) (W0:World) (bn bL:Nat) (no:Bool) (L:List vS) (W:World):Prop where
 size:n0<=W.heap.size
 os:W.os=W0.os
 tape:W.tape=W0.tape
 output:W.output=W0.output
 low:∀g,g<n0->g≠bn->g≠bL->W.heap[g]? =W0.heap[g]?
 no:W.heap[bn]? =some (.cells #[.bool no] 4)
 l:∃lv,W.heap[bL]? =some (.cells #[lv] 24)/\W.ownsRow n0 9 1 lv L.length (DV L)
def Uc.below(h:Uc n0 W0 bn bL no L W)(hB:vV W W'):Uc n0 W0 bn bL no L W':=by
 obtain⟨lv,h1,h2⟩:=h.l;have hk:∀g ob,W.heap[g]? =some ob->W'.heap[g]? =some ob:=λg ob e=>xq hB e;exact⟨om h.size hB.size,hB.os.trans h.os,hB.tape.trans h.tape,hB.output.trans h.output,λg h1 h2 h3=>(hB.block g (oU h1 h.size)).trans (h.low g h1 h2 h3),hk _ _ h.no,lv,hk _ _ h1,zC h2 hB⟩
def ZhW{w:World}{b:Nat}{v:Value}{ty:TypeId}(h:w.heap[b]? =some (.cells #[v] ty)):w.cell? ⟨b,0,none⟩=some v/\w.frozen? ⟨b,0,none⟩=false:=⟨bq,dO⟩
def ZQM(n0)(W0 W)(bn bl bL)(bs:Nat)(stop:Int)(L)(v:Value)(vs:List wG)(hT:Uc n0 W0 bn bL false L W)(JK:W0.heap[bs]? =some (.cells #[.int .i64 stop] 3))(UI:bs<n0)(hbn:bn<n0)(hbL:bL<n0)(hns:bs≠bn)(hLs:bs≠bL)(hnL:bn≠bL)(hLl:L.length<=3000)(hv:W.ownsRow n0 80 1 v vs.length (vs.map xe))(h0:0<vs.length)(hl:vs.length<=1000)(wQ:∀x∈vs,okV x=true/\(Rq x).length<=1000)(hp:KD W)(hG:13<=n0):
  Calls prog 26 #[v,vU bn,vU bl,vU bL,vU bs] W λe W'=>e= .returned (.bool (!decide (((L.length+1:Nat):Int)=stop)))/\Uc n0 W0 bn bL (decide (((L.length+1:Nat):Int)=stop)) (L++ [F6 vs]) W':=by
 have cn:=xH hT.no;obtain⟨gr,ZYA,hve,A7,hrc⟩:=hv.form h0;subst hve;unfold vU;go_enter func26,ntmps26;go_wp2_with fail;have UH:∃cur,W.heap[gr]? =some (.cells cur 80):=by
  rcases hv.2 with⟨e,_⟩|⟨g,c,cur,e,_,hh,_⟩
  ·cases e
  ·cases e;exact⟨cur,hh⟩
 obtain⟨Zh2,Zca⟩:=UH;have Qz:∀j (h:j<vs.length),Zh2[j]? =some (xe vs[j]):=λj h=>by
  have:=hv.cells (g:=gr) rfl j (xe vs[j]) (by simp[h]);rw[oV]at this;simpa[World.cell?,Zca]using this
 have xL:=(wo Zca);have HT:=vR hT;have ET:=vR wQ;have HP:=vR hp;clear hv hT wQ hp cn;go_loopg [7,15] (vs.length+1) (λgk sv iv wr=>∃k:Nat,k<=vs.length/\gk=vs.length-k+1/\iv= .int .i64 k/\sv= .string ⟨(Kz vs k).toArray⟩/\Ox [gr] W wr/\∃cur:Array Value,wr.heap[gr]? =some (.cells cur 80)/\Hid (∀j,k<=j->(h:j<vs.length)->cur[j]? =some (xe vs[j])));case atStart=>exact⟨0,Z,Z,rfl,rfl,Ox.refl _ _,Zh2,Zca,λj _ h=>Qz j h⟩
 case round=>
  obtain⟨k,hk,rfl,rfl,rfl,xu,cur,MK,zM⟩:=hrel;by_cases hlt:k<vs.length
  ·have Av:=zM.out k (nV _) hlt;have yV:wr.cell? ⟨gr,k,none⟩=some (xe vs[k]):=by simp[World.cell?,MK,Av]
   have MQ:=HP.out.below (n:=n0) ⟨xu.os,xu.tape,xu.output,xu.size,λg hg=>xu.block g (oU hg (by have:=HT.out.size;exact this)) ah⟩ hG;have Zxb:=ET.out _ (oC hlt);have HW:=vR (ZQP vs[k] wr MQ Zxb.1);have Xv:=ZBf ET.out k hk;have HS:Hid (Kz vs (k+1)=(if k=0 then[]else Kz vs k++ [44])++Rq vs[k]):=by
    show _=_;rw[Kz,show vs.getD k .null=vs[k] by simp[qI,hlt]]
   have hap:=Zl5;have hvi:∃T y,xe vs[k]= .iface T y:=by cases vs[k]<;>exact⟨_,_,rfl⟩
   obtain⟨vT,vy,Jj⟩:=hvi;rw[Jj]at yV HW;unfold TW at HW;have hwv:=Zxb.2;have yo:wr.frozen? ⟨gr,k,none⟩=false:=by simp[World.frozen?,MK]
   generalize Rq vs[k]=sv1 at *;clear Av MQ;have Gt:Hid (∀w1,vV wr w1->Ox [gr] W (w1.setCell ⟨gr,k,none⟩ (.iface 82 (.string ⟨#[116,104,101,32,99,97,108,108,101,114,39,115]⟩)))/\∃cur:Array Value,(w1.setCell ⟨gr,k,none⟩ (.iface 82 (.string ⟨#[116,104,101,32,99,97,108,108,101,114,39,115]⟩))).heap[gr]? =some (.cells cur 80)/\Hid (∀j,k+1<=j->(h:j<vs.length)->cur[j]? =some (xe vs[j]))):=λw1 hB=>by
    have h1:=xq hB MK;refine⟨xu.trans ((Ox.vZ hB).trans (JO w1 gr k _)),_,Ii h1,λj hj h=>?_⟩;rw[qL Z];exact zM.out j Z h
   have HCW:Hid (∀w1,vV wr w1->w1.cell? ⟨gr,k,none⟩=some (.iface vT vy)/\w1.frozen? ⟨gr,k,none⟩=false):=λw1 hB=>⟨wT hB (wo MK) yV,(hB.frozen (p:=⟨gr,k,none⟩) (wo MK)).trans yo⟩;clear zM MK xu Jj;by_cases Bc:k=0
   ·subst Bc;have OE:Hid (Kz vs (0+1)=sv1):=HS.out;clear HS;have Bd:Kz vs 0= []:=rfl;rw[Bd];go_wp2_with fail;refine HW.out.mono ?_;rintro e w1 ⟨rfl,wE⟩;obtain⟨c2,z2⟩:=HCW.out w1 wE;clear HW;go_wp2_with fail;go_roundg (vs.length-(0+1)+1);case measure=>omega
    case rel=>exact⟨0+1,Z,rfl,aG,by rw[OE.out],Gt.out w1 wE⟩
   ·have OE:Hid (Kz vs (k+1)=Kz vs k++ [44]++sv1):=by show _=_;rw[HS.out,nU Bc]
    clear HS;have ZQ:decide ((0:Int)<(k:Int))=true:=by simp;omega
    generalize Kz vs k=s0 at *;have hap:=Zl5;go_wp2_with fail;refine HW.out.mono ?_;rintro e w1 ⟨rfl,wE⟩;obtain⟨c2,z2⟩:=HCW.out w1 wE;clear HW;go_wp2_with fail;go_roundg (vs.length-(k+1)+1);case measure=>omega
    case rel=>exact⟨k+1,Z,rfl,aG,by rw[OE.out];simp,Gt.out w1 wE⟩
  ·obtain rfl:k=vs.length:=by omega
   obtain⟨lv,hL1,hL2⟩:=HT.out.l;have CK:=λg ob (e:W.heap[g]? =some ob) (wF:g≠gr)=>(xu.block g (wo e) bC).trans e;have hLr:=CK _ _ hL1 Z;have hnr:=CK _ _ HT.out.no Z;have hsr:=CK _ _ ((HT.out.low bs UI hns hLs).trans JK) Z;have ZoE:=ZcX hL2 xu Zca O;obtain⟨la,lc,rfl⟩:=yN hL2;have cL:=xH hLr;obtain⟨i0,zB,hz0,yo,hz2⟩:=oM Tryz.Zpd;have yA:=om HT.out.size xu.size;have HO:=vR ZoE;have HF:=vR (λw6 (hg:(wr.alloc (.cells #[.string ⟨(Kz vs vs.length).toArray⟩] 9)).grownBy w6 (Value.slice la L.length lc).ownBlock) g ob (hl:g<n0) (e:wr.heap[g]? =some ob)=>
    (hg.block g (by have:=(wo e);simp;omega) (λe2=>by have:=(ZoE.lt g e2.symm).1;omega)).trans ((ow wr _ g (wo e)).trans e))
   have HLR:=vR hLr;have HNR:=vR hnr;have HSR:=vR hsr;clear hL1 hL2 hLr hnr hsr ZoE CK zM;have Ip:Hid (F6 vs=Kz vs vs.length):=rfl;generalize Kz vs vs.length=st at *;go_wp2_with (at_builtin;go_must (refine wpList_append_lies _ rfl _ _ 24 rfl n0 9 i0 (.string ⟨#[]⟩) 1 16 underlying24 zB hz0 yo hz2 rfl O (.slice la L.length lc) L.length (DV L) rfl (zC HO.out ((nW _ wr).alloc (nV _) _)) ⟨wr.heap.size,0,none⟩ 1 1 [.string ⟨st.toArray⟩] rfl rfl (ZcT wr _ _ _ rfl) au Z aj Z ah _ rfl ?_);intro g7 c7 w6 Dv zh _ _;have Zo:=HF.out w6 zh _ _ hbL HLR.out;obtain⟨m16,z16⟩:=ZhW Zo;have cs7:=λu=>(ZhW (Bb (k:=0) (u:=u) (HF.out w6 zh _ _ UI HSR.out) hLs)).1;have cn7:=λu=>(ZhW (Bb (k:=0) (u:=u) (HF.out w6 zh _ _ hbn HNR.out) hnL)).1;have zn7:=λu=>(ZhW (Bb (k:=0) (u:=u) (HF.out w6 zh _ _ hbn HNR.out) hnL)).2);go_ret;have e1:((L.length:Int)+1==stop)=decide (((L.length+1:Nat):Int)=stop):=by
    rw[tX];simp
   rw[e1];have Zo:=HF.out w6 zh _ _ hbL HLR.out;have hN6:=HF.out w6 zh _ _ hbn HNR.out;have Zp:=Ii (k:=0) (u:=.slice (some ⟨g7,0,none⟩) (L.length+1) c7) Zo;have hN7:=Bb (b:=bL) (k:=0) (u:=.slice (some ⟨g7,0,none⟩) (L.length+1) c7) hN6 hnL;have hL8:=Bb (b:=bn) (k:=0) (u:=.bool (decide (((L.length+1:Nat):Int)=stop))) Zp hnL.symm;have hN8:=Ii (k:=0) (u:=.bool (decide (((L.length+1:Nat):Int)=stop))) hN7;have hs6:=zh.size;refine⟨rfl,⟨?_,?_,?_,?_,λg hg q1 q2=>?_,hN8,_,hL8,?_⟩⟩
   ·rw[Bf,Bf];simp at hs6;omega
   ·exact zh.os.trans (xu.os.trans HT.out.os)
   ·exact zh.tape.trans (xu.tape.trans HT.out.tape)
   ·exact zh.output.trans (xu.output.trans HT.out.output)
   ·have hgW:=oU hg HT.out.size;obtain⟨ob,yX⟩:∃ob,W.heap[g]? =some ob:=⟨_,rz hgW⟩;rw[<-HT.out.low g hg q1 q2,yX];exact Bb (Bb (HF.out w6 zh g ob hg ((xu.block g hgW ah).trans yX)) q2) q1
   ·have ZJr:(L++ [F6 vs]).length=L.length+1:=by simp
    have hsc:DV (L++ [F6 vs])=DV L++ [.string ⟨st.toArray⟩]:=by unfold DV;rw[oo,Ip.out];try rfl
    rw[ZJr,hsc];exact Ia (Ia Dv (Py Dv O Zo)) (Py (Ia Dv (Py Dv O Zo)) O hN7)
def ZHw:yH 51:=λ_ _=>af
def ZHy:yH 26:=λ_ _=>af
structure ZlN (rows:List (List wG)):Prop where
 len:rows.length<=2000
 row:∀r∈rows,0<r.length/\r.length<=1000
 val:∀r∈rows,∀x∈r,okV x=true/\(Rq x).length<=1000
def Uc.kt(h:Uc n0 W0 bn bL no L W)(hn:n0=W0.heap.size)(yG:∃cu,W0.heap[bn]? =some (.cells cu 4))(Eb:∃cu,W0.heap[bL]? =some (.cells cu 24)):W0.heap.size<=W.heap.size/\KT [80,78] W0 W:=by
 obtain⟨c1,yG⟩:=yG;obtain⟨c2,Eb⟩:=Eb;refine⟨hn▸h.size,λg cu ty ht e=>?_⟩;have hl:=(wo e);refine(h.low g Z (λe2=>?_) (λe2=>?_)).trans e
 ·subst e2;rw[e]at yG;cases yG;revert ht;decide
 ·subst e2;rw[e]at Eb;cases Eb;revert ht;decide
def Zid(h:Array Obj)(a b c d:Obj):((((h.push a).push b).push c).push d)[h.size]? =some a/\((((h.push a).push b).push c).push d)[h.size+1]? =some b/\((((h.push a).push b).push c).push d)[h.size+2]? =some c/\((((h.push a).push b).push c).push d)[h.size+3]? =some d:=by
 refine⟨?_,?_,?_,?_⟩<;>simp only[tu,Array.size_push]<;>simp;rw[nU Z,nU Z]
def ZQL(r)(W):Calls prog 12 #[vU r,.int .i64 0] W λe W'=>e= .returned (.tuple #[.slice none 0 0,.int .i64 0])/\vV W W':=by
 unfold vU;go_enter func12,ntmps12;go_wp2_with fail;go_ret2;exact⟨rfl,((((nW _ W).alloc (nV _) _).alloc ae _).alloc ah _).alloc ah _⟩
def ZpJ(W)(r)(wu)(rows)(stop:Int)(n:Nat)(h:Jz W r wu rows)(wQ:ZlN rows)(yI:(stop= -1/\n=rows.length)\/(stop=(n:Int)/\0<n/\n<=rows.length))(hp:KD W)(hG:13<=W.heap.size):
  Calls prog 12 #[vU r,.int .i64 stop] W λe W'=>∃lv,e= .returned (.tuple #[lv,.int .i64 0])/\W'.ownsRow W.heap.size 9 1 lv n (DV ((rows.take n).map F6))/\vV W W':=by
 have BD:∀(fn:Fn) (first cap:Array Value) (w:World),(Instr.makeFunc fn first cap).run prog w= .ok (.func fn first cap) w:=λ_ _ _ _=>rfl;have he1:=ZHw;unfold yH at he1;have JK:(stop==0)=false:=by
  rw[pQ];rcases yI with⟨rfl,_⟩|⟨rfl,h1,_⟩<;>omega
 have HH:=vR h;have ZCC:=vR wQ;have HPW:=vR hp;have ZrI:=vR yI;clear h wQ hp yI;unfold vU;go_enter func12,ntmps12;go_wp2_with fail;have h:=HH.out;have wQ:=ZCC.out;have hp:=HPW.out;have yI:=ZrI.out;generalize EL:(((W.alloc (.cells #[.int .i64 stop] 3)).alloc (.cells #[.slice none 0 0] 24)).alloc (.cells #[.int .i64 0] 3)).alloc (.cells #[.bool false] 4)=w4;have Zxw:w4.heap.size=W.heap.size+4:=by rw[<-EL];simp
 have xw:vV W w4:=by rw[<-EL];exact((((nW _ W).alloc (nV _) _).alloc ae _).alloc ah _).alloc ah _
 have b0:w4.heap[W.heap.size]? =some (.cells #[.int .i64 stop] 3):=by rw[<-EL];exact(Zid W.heap _ _ _ _).1
 have b1:w4.heap[W.heap.size+1]? =some (.cells #[.slice none 0 0] 24):=by rw[<-EL];exact(Zid W.heap _ _ _ _).2.1
 have b2:w4.heap[W.heap.size+2]? =some (.cells #[.int .i64 0] 3):=by rw[<-EL];exact(Zid W.heap _ _ _ _).2.2.1
 have b3:w4.heap[W.heap.size+3]? =some (.cells #[.bool false] 4):=by rw[<-EL];exact(Zid W.heap _ _ _ _).2.2.2
 obtain⟨w5,BG⟩:∃w5,w4.alloc (.cells #[.pointer (some ⟨r,0,none⟩)] 40)=w5:=⟨_,rfl⟩;have Zxx:w5.heap.size=W.heap.size+5:=by rw[<-BG];simp;omega
 have yl:vV w4 w5:=by rw[<-BG];exact(nW _ _).alloc (nV _) _
 have p5:w5.heap[W.heap.size+4]? =some (.cells #[vU r] 40):=by
  have:=oK w4 (.cells #[.pointer (some ⟨r,0,none⟩)] 40);rw[Zxw,BG]at this;exact this
 have Jb:=xw.trans (yl.mono xw.size);have k5:∀g ob,w4.heap[g]? =some ob->w5.heap[g]? =some ob:=λg ob e=>xq yl e;obtain⟨cv,rv,hr,_,Pk⟩:=h;have KX:=xq Jb hr;have Zxo:=Pk.below Jb;have T0:Uc (W.heap.size+5) w5 (W.heap.size+3) (W.heap.size+1) (decide (((0:Nat):Int)=stop)) ((rows.take 0).map F6) w5:=by
  have:decide (((0:Nat):Int)=stop)=false:=by
   rw[pQ]at JK;simp;exact λe=>JK e.symm
  rw[this];exact⟨Z,rfl,rfl,rfl,λ_ _ _ _=>rfl,k5 _ _ b3,_,k5 _ _ b1,pV _ _ _ _⟩
 have HR:=vR (ZRQ w4 r);have Df:=vR (ZRR w5 (W.heap.size+4) r cv rv rows 26 #[vU (W.heap.size+3),vU (W.heap.size+2),vU (W.heap.size+1),vU W.heap.size] n (λi=> !decide (((i+1:Nat):Int)=stop)) (λi W'=>Uc (W.heap.size+5) w5 (W.heap.size+3) (W.heap.size+1) (decide (((i:Nat):Int)=stop)) ((rows.take i).map F6) W') p5 KX Zxo wQ.len wQ.row ZHy T0
  (λi W' hT=>hT.kt Zxx.symm ⟨_,k5 _ _ b3⟩ ⟨_,k5 _ _ b1⟩) (λi a c hT hB=>hT.below hB)
  (λi hi W' v zP hT hv=>by
   have wF:decide (((i:Nat):Int)=stop)=false:=by
    simp only[qZ];rcases yI with⟨rfl,_⟩|⟨rfl,h1,_⟩<;>omega
   rw[wF]at hT;have MQ:=hp.below (n:=W.heap.size) ⟨hT.os.trans Jb.os,hT.tape.trans Jb.tape,hT.output.trans Jb.output,by have:=hT.size;omega,λg hg=>(hT.low g Z Z Z).trans (Jb.block g hg)⟩ hG;have hLl:((rows.take i).map F6).length=i:=by simp;omega
   rw[Zxx]at hv;have:=ZQM (W.heap.size+5) w5 W' (W.heap.size+3) (W.heap.size+2) (W.heap.size+1) W.heap.size stop ((rows.take i).map F6) v rows[i] hT (k5 _ _ b0) Z Z Z Z Z Z (by have:=wQ.len;omega) hv (wQ.row _ (oC hi)).1 (wQ.row _ (oC hi)).2 (wQ.val _ (oC hi)) MQ Z;rw[hLl]at this;rw[o8 hi,oo];exact this)
  ⟨by rcases yI with⟨_,h1⟩|⟨_,_,h1⟩<;>omega,λi hi=>by simp;rcases yI with⟨rfl,_⟩|⟨rfl,h1,_⟩<;>omega,by
   rcases yI with⟨rfl,h1⟩|⟨rfl,h1,h2⟩
   ·exact .inl ⟨h1,λi _=>ah⟩
   ·exact .inr ⟨h1,ah⟩⟩)
 unfold vU at *;rw[BG]at HR;clear BG hr Pk wQ hp yI KX Zxo T0;clear EL;rw[Zxw]at HR;refine HR.out.mono ?_;rintro e w' ⟨rfl,rfl⟩;have b2':=k5 _ _ b2;clear b0 b1 b2 b3 xw yl HR;go_wp2_with fail;refine Df.out.mono ?_;rintro e w6 ⟨rfl,hT⟩;have HT:=vR hT;obtain⟨lv,El,Fu⟩:=hT.l;obtain⟨la,lc,rfl⟩:=yN Fu;have Xr:=(hT.low (W.heap.size+2) Z Z Z).trans b2';have c1:=xH El;have c2:w6.cell? ⟨W.heap.size+1+1,0,none⟩=some (.int .i64 0):=by simp[World.cell?,Xr]
 have HO:=vR Fu;have QP:((rows.take n).map F6).length=n:=by rcases ZrI.out with⟨_,h1⟩|⟨_,_,h1⟩<;>simp<;>omega
 rw[QP]at c1 HO;have HB6:Hid (vV W w6):=⟨hT.os.trans Jb.os,hT.tape.trans Jb.tape,hT.output.trans Jb.output,by have:=hT.size;omega,λg hg=>(hT.low g Z Z Z).trans (Jb.block g hg)⟩;clear El Fu Xr hT Df QP;go_wp2_with fail;go_quiet (fail);go_wp2_with fail;go_ret2;exact⟨_,rfl,Zax HO.out Z,Nq HB6.out _⟩
def Zz1{fn:Func}{t u v x:Tmp}(h:fn.results= #[.tmp t,.tmp u,.tmp v,.tmp x])(tmps:Array Value)(P:Program)(w:World):
  (results fn tmps).run P w= .ok (.tuple #[tmps.getD t undef,tmps.getD u undef,tmps.getD v undef,tmps.getD x undef]) w:=by
 simp[results,h]
abbrev Dr:=Except (Int×Int) (List vS×List (List wG))
def Zhy:Dr->Prop
 | .error (k,_)=>1<=k/\k<=9
 | .ok (wu,rows)=>0<wu.length/\wu.length<=1000/\(∀c∈wu,c.length<=1000)/\ZlN rows
def ZhA(R:Dr)(w:World)(e:Ending)(w':World):Prop:=vV w w'/\match R with
 | .error (k,a)=>∃b,e= .returned (.tuple #[.pointer none,Qj b])/\w'.cell? ⟨b,0,none⟩=some (.int .i64 k)/\w'.cell? ⟨b,1,none⟩=some (.int .i64 a)
 | .ok (wu,rows)=>∃r,e= .returned (.tuple #[vU r,.nilIface])/\Jz w' r wu rows
def ZhB(R:Dr)(w:World)(e:Ending)(w':World):Prop:=vV w w'/\match R with
 | .error (k,a)=>e= .returned (.tuple #[.slice none 0 0,.slice none 0 0,.int .i64 k,.int .i64 a])
 | .ok (wu,rows)=>∃cv lv,e= .returned (.tuple #[cv,lv,.int .i64 0,.int .i64 0])/\w'.ownsRow w.heap.size 9 1 cv wu.length (DV wu)/\w'.ownsRow w.heap.size 9 1 lv rows.length (DV (rows.map F6))
theorem Jz.below{r}{rows}(h:Jz W r wu rows)(hB:vV W W'):Jz W' r wu rows:=by
 obtain⟨cv,rv,h1,h2,h3⟩:=h;exact⟨cv,rv,xq hB h1,h2.below hB,h3.below hB⟩
def ZQH(d s:vS)(k a:Int)(w:World)(P:Nat->World->Prop)(yU:1<=k)(hk9:k<=9)(hG:13<=w.heap.size)(hT:w.cell? ⟨0,0,none⟩=some (.iface 149 (.agg #[.pointer (some ⟨13,35,none⟩)])))(hO:Calls prog 8 #[.string ⟨d.toArray⟩] w λe w1=>∃Db,e= .returned (.tuple #[vU Db,.nilIface])/\vV w w1/\P Db w1)(hQ:∀w1 Db,vV w w1->P Db w1->Calls prog 10 #[vU Db,.string ⟨s.toArray⟩,.slice none 0 0] w1 (ZhA (.error (k,a)) w1)):
  Calls prog 6 #[.string ⟨d.toArray⟩,.string ⟨s.toArray⟩,.slice none 0 0] w (ZhB (.error (k,a)) w):=by
 have xL:0<w.heap.size:=oU O hG;have HO:=vR hO;have HQ:=vR hQ;clear hO hQ;unfold vU at *;go_enter func6,ntmps6;go_wp2_with fail;refine HO.out.mono ?_;rintro e w1 ⟨Db,rfl,wE,hP⟩;have RD:=vR (HQ.out w1 Db wE hP);clear hP HO HQ;go_wp2_with fail;refine RD.out.mono ?_;rintro e w2 ⟨wK,b,rfl,Bj,yz⟩;have xX:=wE.trans (wK.mono wE.size);have WX:=wT xX xL hT;clear RD;go_wp2_with fail;refine(ZQW b k a _ yU hk9 Bj yz WX).mono ?_;rintro e w3 ⟨rfl,wH⟩;clear Bj yz WX;go_wp2_with fail
 (try simp only[Exit.inBlock,Exit.then]);refine oZ (Zz1 rfl _ _ _) rfl ?_
 exact⟨xX.trans (wH.mono xX.size),rfl⟩
def ZPR{w:World}{wr}{e sz n g:Nat}{v:Value}{xs:List Value}(h:w.ownsRow B e sz v n xs)(xu:Ox [g] w wr)(hg:g<B):wr.ownsRow B e sz v n xs:=by
 refine⟨h.1,?_⟩;rcases h.2 with h0|⟨g1,cap,cur,e1,hb,hh,r⟩
 ·exact jg
 ·exact .inr ⟨g1,cap,cur,e1,hb,(xu.block g1 (wo hh) ah).trans hh,r⟩
def ZQN(W)(r)(wu)(rows)(m:Nat)(h:Jz W r wu rows)(wQ:ZlN rows)(hm:m<=rows.length)(hp:KD W)(hG:13<=W.heap.size):
  Calls prog 12 #[vU r,.int .i64 m] W λe W'=>∃lv,e= .returned (.tuple #[lv,.int .i64 0])/\W'.ownsRow W.heap.size 9 1 lv m (DV ((rows.take m).map F6))/\vV W W':=by
 rcases sV m with h0|h0
 ·subst h0;refine(ZQL r W).mono ?_;rintro e W' ⟨rfl,hB⟩;exact⟨_,rfl,pV _ _ _ _,hB⟩
 ·exact ZpJ W r wu rows m m h wQ (.inr ⟨rfl,h0,hm⟩) hp hG
def Zpy{v:Value}{l}{n:Nat}(h:W.ownsRow B 9 1 v n (DV l))(hn:l.length=n){a:Option Addr}{c:Nat}(hv:v= .slice a n c):∀i (h:i<l.length),∃g,a=some ⟨g,0,none⟩/\W.cell? ⟨g,i,none⟩=some (.string ⟨l[i].toArray⟩):=by
 intro i hi;subst hn;obtain⟨g,o,cap,cu,e,hg,hc⟩:=Zpz h Z;rw[hv]at e;cases e;obtain⟨g',_,e',_⟩:=h.form Z;rw[hv]at e';cases e';exact⟨g,rfl,by simpa using hc i hi⟩
def Z0A{p:Prop}(h:p:=by
 go_wp2_with fail;go_quiet (fail);go_wp2_with fail;go_roundg (rows.length-(k+1)+1);case measure=>omega
 case rel=>exact⟨k+1,Z,rfl,aG,Nq MG _⟩):p:=h
def ZQG(d s:vS)(wu:List vS)(rows:List (List wG))(w:World)(P:Nat->World->Prop)(wQ:Zhy (.ok (wu,rows)))(hG:13<=w.heap.size)(MQ:KD w)(hO:Calls prog 8 #[.string ⟨d.toArray⟩] w λe w1=>∃Db,e= .returned (.tuple #[vU Db,.nilIface])/\vV w w1/\P Db w1)(hQ:∀w1 Db,vV w w1->P Db w1->Calls prog 10 #[vU Db,.string ⟨s.toArray⟩,.slice none 0 0] w1 (ZhA (.ok (wu,rows)) w1)):
  Calls prog 6 #[.string ⟨d.toArray⟩,.string ⟨s.toArray⟩,.slice none 0 0] w (ZhB (.ok (wu,rows)) w):=by
 obtain⟨Ch,yV,zM,JJ⟩:=wQ;have HRO:=vR JJ;have HO:=vR hO;have HQ:=vR hQ;have HPW:=vR MQ;have A9:=JJ.len;clear hO hQ JJ MQ;unfold vU at HO HQ;go_enter func6,ntmps6;go_wp2_with fail;refine HO.out.mono ?_;rintro e w1 ⟨Db,rfl,wE,hP⟩;have RD:=vR (HQ.out w1 Db wE hP);clear hP HO HQ;go_wp2_with fail;refine RD.out.mono ?_;rintro e w2 ⟨wK,r,rfl,hr⟩;have xX:=wE.trans (wK.mono wE.size);have Nf:=vR (ZzT w2 r wu rows hr Ch yV);have HR:=vR hr;unfold vU at Nf;unfold vU;clear RD hr;go_wp2_with fail;refine Nf.out.mono ?_;rintro e w3 ⟨cv,rfl,Gi,wH⟩;have Sr:=xX.trans (wH.mono xX.size);have HT3:=vR (ZpJ w3 r wu rows (-1) rows.length (HR.out.below wH) HRO.out (.inl ⟨rfl,rfl⟩) (HPW.out.below Sr hG) (om hG Sr.size));unfold vU at HT3;have HCO:=vR Gi;obtain⟨ca,cc,rfl⟩:=yN Gi;clear Gi Nf;go_wp2_with fail;refine HT3.out.mono ?_;rintro e w4 ⟨lv,rfl,QU,xw⟩;have HL:=vR QU;obtain⟨la,lc,rfl⟩:=yN QU;clear QU HT3;go_wp2_with fail;obtain⟨gc,zx,ec,hgc,ZKz⟩:=HCO.out.form Ch;cases ec;have Zca:∃cur,w4.heap[gc]? =some (.cells cur 9)/\∀j (h:j<wu.length),cur[j]? =some (.string ⟨wu[j].toArray⟩):=by
  have QQ:=zC HCO.out xw;rcases QQ.2 with⟨e,_⟩|⟨g,c,cur,e,_,hh,_⟩
  ·cases e
  ·cases e;refine⟨cur,hh,λj h=>?_⟩;have:=QQ.cells (g:=gc) rfl j (.string ⟨wu[j].toArray⟩) (by simp[DV,h]);rw[oV]at this;simpa[World.cell?,hh]using this
 obtain⟨Zh2,hh0,Zv4⟩:=Zca;have ZBT:=vR Zv4;have Ry:=vR zM;clear Zv4 zM;have hap:=Zl5;go_loopg [72] (wu.length+1) (λgk iv wr=>∃k:Nat,k<=wu.length/\gk=wu.length-k+1/\iv= .int .i64 k/\Ox [gc] w4 wr/\∃cur:Array Value,wr.heap[gc]? =some (.cells cur 9)/\Hid (∀j,k<=j->(h:j<wu.length)->cur[j]? =some (.string ⟨wu[j].toArray⟩)));case atStart=>exact⟨0,Z,Z,rfl,Ox.refl _ _,Zh2,hh0,λj _ h=>ZBT.out j h⟩
 case round=>
  obtain⟨k,hk,rfl,rfl,xu,cur,MK,Bl⟩:=hrel;by_cases hlt:k<wu.length
  ·have Av:=Bl.out k (nV _) hlt;have c1:wr.cell? ⟨gc,k,none⟩=some (.string ⟨wu[k].toArray⟩):=by simp[World.cell?,MK,Av]
   have z1:wr.frozen? ⟨gc,k,none⟩=false:=by simp[World.frozen?,MK]
   have El:=Ry.out _ (oC hlt);have HE:Hid (∀u,Ox [gc] w4 (wr.setCell ⟨gc,k,none⟩ u)/\∃cur:Array Value,(wr.setCell ⟨gc,k,none⟩ u).heap[gc]? =some (.cells cur 9)/\Hid (∀j,k+1<=j->(h:j<wu.length)->cur[j]? =some (.string ⟨wu[j].toArray⟩))):=λu=>by
    refine⟨xu.trans (JO wr gc k u),_,Ii MK,λj hj h=>?_⟩;rw[qL Z];exact Bl.out j Z h
   generalize wu[k]=ck at *;clear Av Bl MK xu;go_wp2_with fail;go_roundg (wu.length-(k+1)+1);case measure=>omega
   case rel=>exact⟨k+1,Z,rfl,aG,HE.out _⟩
  ·obtain rfl:k=wu.length:=by omega
   have OV:vV w2 wr:=⟨xu.os.trans (xw.os.trans wH.os),xu.tape.trans (xw.tape.trans wH.tape),xu.output.trans (xw.output.trans wH.output),by have:=wH.size;have:=xw.size;have:=xu.size;omega,λg hg=>(xu.block g (by have:=wH.size;have:=xw.size;omega) ah).trans ((xw.block g (by have:=wH.size;omega)).trans (wH.block g hg))⟩;have Zio:=xX.trans (OV.mono xX.size);have HLr:=vR (ZPR HL.out xu ZKz);have HT5:=vR (ZQN wr r wu rows (rows.length/2) (HR.out.below OV) HRO.out Z (HPW.out.below Zio hG) (om hG Zio.size));obtain⟨m,hm⟩:∃m,rows.length/2=m:=⟨_,rfl⟩;have hqi:(rows.length:Int)/2=(m:Int):=Z
   have Hu:m<=rows.length:=Z
   rw[hm]at HT5;unfold vU at HT5;clear Bl MK hm;go_wp2_with fail;refine HT5.out.mono ?_;rintro e w5 ⟨sv,rfl,BF,yl⟩;have Jb:=Zio.trans (yl.mono Zio.size);have ZmU:=OV.trans (yl.mono OV.size);have Qa:=vR BF;obtain⟨sa,sc,rfl⟩:=yN BF;have HT6:=vR (ZpJ w5 r wu rows (-1) rows.length (HR.out.below ZmU) HRO.out (.inl ⟨rfl,rfl⟩) (HPW.out.below Jb hG) (om hG Jb.size));unfold vU at HT6;clear BF HT5;go_wp2_with fail;refine HT6.out.mono ?_;rintro e w6 ⟨av,rfl,DN,FV⟩;have ZbR:=Jb.trans (FV.mono Jb.size);have ZIT:=ZmU.trans (FV.mono ZmU.size);have HA6:=vR DN;obtain⟨aa,ac,rfl⟩:=yN DN;have HC7:=vR (ZzT w6 r wu rows (HR.out.below ZIT) Ch yV);unfold vU at HC7;clear DN HT6;go_wp2_with fail;refine HC7.out.mono ?_;rintro e w7 ⟨cv7,rfl,Dv,JC⟩;have ZuR:=ZbR.trans (JC.mono ZbR.size);have HC8:=vR Dv;obtain⟨da,dc,rfl⟩:=yN Dv;have HX:Hid (∀i (h:i<rows.length),(∃g,aa=some ⟨g,0,none⟩/\w7.cell? ⟨g,i,none⟩=some (.string ⟨(F6 rows[i]).toArray⟩))/\(∃g,la=some ⟨g,0,none⟩/\w7.cell? ⟨g,i,none⟩=some (.string ⟨(F6 rows[i]).toArray⟩))/\(i<m->∃g,sa=some ⟨g,0,none⟩/\w7.cell? ⟨g,i,none⟩=some (.string ⟨(F6 rows[i]).toArray⟩))):=λi hi=>by
    have ZuP:=FV.trans (JC.mono FV.size);have Zm5:=yl.trans (ZuP.mono yl.size);have hA:=HA6.out;have hL:=HLr.out;have hS:=Qa.out;rw[oO (nV _)]at hA hL;have e1:(rows.map F6)[i]' aN=F6 rows[i]:=ae
    refine⟨?_,?_,λhim=>?_⟩
    ·have:=Zpy (zC hA JC) ae rfl i aN;rwa [e1]at this
    ·have:=Zpy (zC hL Zm5) ae rfl i aN;rwa [e1]at this
    ·have:=Zpy (zC hS ZuP) ah rfl i ah;exact nR
   have ES:Hid (w7.ownsRow w.heap.size 9 1 (.slice da wu.length dc) wu.length (DV wu)/\w7.ownsRow w.heap.size 9 1 (.slice la rows.length lc) rows.length (DV (rows.map F6))):=by
    have hL:=HLr.out;rw[oO (nV _)]at hL;have Zm5:=yl.trans ((FV.trans (JC.mono FV.size)).mono yl.size);exact⟨Zax HC8.out ZbR.size,Zax (zC hL Zm5) Sr.size⟩
   clear Dv HC7 xu;go_wp2_with fail;go_loopg [116] (rows.length+1) (λgk iv wz=>∃k:Nat,k<=rows.length/\gk=rows.length-k+1/\iv= .int .i64 k/\vV w7 wz);case atStart=>exact⟨0,Z,Z,rfl,nW _ _⟩
   case round=>
    obtain⟨k,hk,rfl,rfl,MG⟩:=hrel;by_cases hlt:k<rows.length
    ·obtain⟨⟨g1,rfl,q1⟩,⟨g2,rfl,q2⟩,q3⟩:=HX.out k hlt;have q1:=wT MG (oH w7 _ q1) q1;have q2:=wT MG (oH w7 _ q2) q2;by_cases hkm:k<m
     ·obtain⟨g3,rfl,q4⟩:=q3 hkm;have q4:=wT MG (oH w7 _ q4) q4;clear q3;generalize F6 rows[k]=sk at *;have O4:decide ((k:Int)<(m:Int))=true:=by simp;omega
      exact Z0A
     ·clear q3;have O4:decide ((k:Int)<(m:Int))=false:=by simp;omega
      generalize F6 rows[k]=sk at *;exact Z0A
    ·obtain rfl:k=rows.length:=by omega
     go_wp2_with fail
     (try simp only[Exit.inBlock,Exit.then]);refine oZ (Zz1 rfl _ _ _) rfl ?_
     exact⟨ZuR.trans (MG.mono ZuR.size),_,_,rfl,zC ES.out.1 MG,zC ES.out.2 MG⟩
def J4(R:Dr)(w:World)(e:Ending)(w2:World):Prop:=∃b k a,R= .error (k,a)/\e= .panicked (Ky b)/\w2.cell? ⟨b,0,none⟩=some (.int .i64 k)/\w2.cell? ⟨b,1,none⟩=some (.int .i64 a)/\vV w w2
def YK(w w':World):Prop:=∀(g:Nat) (cu:Array Value),w.heap[g]? =some (.cells cu 9)->w'.heap[g]? =some (.cells cu 9)
def Zl3(pd pq pl:Nat)(Db)(M:Nat)(s:vS)(w:World)(R)(wu:List vS)(bg:xk)(TP CP:World->Value->Prop)(hd:w.heap[pd]? =some (.cells #[vU Db] 33))(hm:w.cell? ⟨Db,0,none⟩=some (.map (some M)))(hq:w.heap[pq]? =some (.cells #[.string ⟨s.toArray⟩] 9))(hl:w.heap[pl]? =some (.cells #[.slice none 0 0] 32))(hA:∀w',vV w w'->Calls prog 21 #[.string ⟨s.toArray⟩] w' λe w1=>J4 R w e w1\/∃n y,e= .returned (.iface n y)/\vV w w1/\TP w1 (.iface n y))(hB:∀w1 n y,vV w w1->TP w1 (.iface n y)->Calls prog 20 #[.map (some M),.iface n y] w1 λe w3=>J4 R w e w3\/∃n3 y3 tv,e= .returned (.tuple #[.iface n3 y3,tv])/\vV w w3/\CP w3 (.iface n3 y3)/\w3.ownsRow w.heap.size 9 1 tv wu.length (DV wu))(hTb:∀a c v,TP a v->vV a c->TP c v)(hCb:∀a c v,CP a v->vV a c->CP c v)(hC:∀w3 n3 y3,vV w w3->CP w3 (.iface n3 y3)->Calls prog 23 #[.iface n3 y3] w3 λe w4=>J4 R w e w4\/∃bb,e= .returned (vU bb)/\vV w w4/\YK w3 w4/\CV w4 bb bg/\R= .ok (wu,zw bg)/\bg.rows.length<=2000/\(∀r∈bg.rows,r.length<=1000)/\(zw bg).length<=2000)(Ch:0<wu.length):
  Calls prog 19 #[vU pd,vU pq,vU pl] w λe w2=>J4 R w e w2\/∃r,e= .returned (vU r)/\vV w w2/\R= .ok (wu,zw bg)/\Jz w2 r wu (zw bg):=by
 have cd:=xH hd;have cq:=xH hq;have cl:=xH hl;have HA:=vR hA;have HB:=vR hB;have HC:=vR hC;have HTb:=vR hTb;have HCb:=vR hCb;have LC:=(wo hd);have hql:=(wo hq);have zQ:=(wo hl);have Hu:=oH w _ hm;have Ry:Hid (∀w',vV w w'->w'.cell? ⟨pd,0,none⟩=some (vU Db)/\w'.cell? ⟨Db,0,none⟩=some (.map (some M))/\w'.cell? ⟨pq,0,none⟩=some (.string ⟨s.toArray⟩)/\w'.cell? ⟨pl,0,none⟩=some (.slice none 0 0)):=λw' hB=>⟨wT hB LC cd,wT hB Hu hm,wT hB hql cq,wT hB zQ cl⟩;clear hA hB hC hTb hCb hd hq hl;unfold vU at *;go_enter func19,ntmps19;go_wp2_with fail;refine vH (S:=λw'=>w'.cell? ⟨pd,0,none⟩=some (.pointer (some ⟨Db,0,none⟩))/\w'.cell? ⟨Db,0,none⟩=some (.map (some M))/\w'.cell? ⟨pq,0,none⟩=some (.string ⟨s.toArray⟩)) af ⟨cd,hm,cq⟩ (λwL=>?_);refine tk 0 ?_;refine tk 1 ?_;refine tk 2 ?_;refine tk 3 ?_;refine tk 4 ?_;refine og (rs:= [5]) af ae (nZ rfl (λK hK=>?_) oh);go_simp;go_wp2_with fail;refine(HA.out _ (FR (nW _ w))).mono ?_;rintro e w1 (Iz|⟨n1,y1,rfl,wE,NB⟩)
 ·exact lq
 have YG:=vR NB;obtain⟨d1,d2,d3,d4⟩:=Ry.out w1 wE;clear NB;go_wp2_with fail;refine hK.out _ _ ⟨d1,d2,d3⟩ (λwL=>?_);clear hK K;refine og (rs:= [6]) af ae (nZ rfl (λK hK=>?_) oh);go_simp;go_wp2_with fail;refine(HB.out w1 n1 y1 wE YG.out).mono ?_;rintro e w3 (Iz|⟨n3,y3,tv,rfl,wH,Uy,wD⟩)
 ·exact lq
 have TG:=vR Uy;have HO3:=vR wD;obtain⟨ta,tc,rfl⟩:=yN wD;obtain⟨f1,f2,f3,f4⟩:=Ry.out w3 wH;clear Uy wD d1 d2 d3 d4;go_wp2_with fail;refine hK.out _ _ ⟨f1,f2,f3⟩ (λwL=>?_);clear hK K;refine tk 7 ?_;refine tk 8 ?_;refine tk 9 ?_;refine tk 10 ?_;refine tk 11 ?_;refine oP af ?_ _;go_wp2_with fail;have ZIX:=FR wH;have HRC:=vR (HC.out w3.drew n3 y3 ZIX (HCb.out w3 w3.drew _ TG.out (FR (nW _ _))));clear f1 f2 f3 HC HB HA;refine vH (S:=λw'=>w'.cell? ⟨pl,0,none⟩=some (.slice none 0 0)) af f4 (λwL=>?_);refine tk 0 ?_;refine tk 1 ?_;refine tk 3 ?_;refine og (rs:= [2]) af ae (nZ rfl (λK hK=>?_) oh);go_simp;go_wp2_with fail;refine HRC.out.mono ?_;rintro e w4 (Iz|⟨bb,rfl,xw,QI,Lx,hR,Dm,MN,NR⟩)
 ·exact lq
 have HRK:=vR hR;have HTR:=vR (ZS7 w4 bb bg Lx Dm MN NR);have HKS:=vR QI;obtain⟨_,_,_,g4⟩:=Ry.out w4 xw;unfold vU at *;clear hR QI Lx HRC;go_wp2_with fail;refine hK.out _ _ g4 (λwL=>?_);clear hK K;refine og (rs:= [4]) af ae (nZ rfl (λK hK=>?_) oh);go_simp;go_wp2_with fail;refine HTR.out.mono ?_;rintro e w5 ⟨lv,rfl,Pk,yl⟩;have Mh:=vR Pk;obtain⟨la,lc,rfl,_⟩:=Pk;have Jb:=xw.trans (yl.mono xw.size);obtain⟨_,_,_,g5⟩:=Ry.out w5 Jb;go_wp2_with fail;refine hK.out _ _ g5 (λwL=>?_);clear hK K;refine tk 5 ?_;refine og (rs:= [6]) af ae (nZ rfl (λK hK=>?_) oh);go_simp;have ZbR:=Jb.alloc Jb.size (.cells #[.slice ta wu.length tc,.slice la (zw bg).length lc] 72);obtain⟨_,_,_,g6⟩:=Ry.out _ ZbR;have KA:Hid (Jz (w5.alloc (.cells #[.slice ta wu.length tc,.slice la (zw bg).length lc] 72)) w5.heap.size wu (zw bg)):=by
  have zA:vV w5 (w5.alloc (.cells #[.slice ta wu.length tc,.slice la (zw bg).length lc] 72)):=(nW _ _).alloc (nV _) _;exact⟨_,_,xI w5 _,(((Zpz HO3.out Ch).same (λg cu e=>HKS.out g cu e)).below yl).below zA,Mh.out.below zA⟩
 refine hK.out _ _ g6 (λwL=>?_);clear hK K;refine tk 7 ?_;refine oP af ?_ _;go_wp2_with fail;go_ret;exact .inr ⟨_,rfl,ZbR,HRK.out,KA.out⟩
def ZF0(pe po:Addr)(w:World):
  CallsD prog 40 #[.pointer (some pe),.pointer (some po)] .returning w λe u' w'=>e= .returned (.tuple #[])/\u'= .returning/\w'=w:=by
 refine callsD_of_wpS func40 rfl λc₀ cs hu=>?_;simp only[ntmps40,qf,List.length_cons,List.length_nil,Nat.reduceAdd,Nat.reduceSub,qg,Array.replicate_zero,qh,qj,List.nil_append,List.cons_append];apply wpS_seq;apply wpS_region;simp[wpOpsS,go_sem,recoverD,hu,Exit.thenS];refine wpS_of_wp ?_;go_wp2;cases c₀;simp_all [bodyPostS,results,Tryz.results40]
def ZFZ(pe po:Addr)(b)(MX:Value)(w:World)(hc:w.cell? pe=some MX)(hz:w.frozen? pe=false):
  CallsD prog 40 #[.pointer (some pe),.pointer (some po)] (.panicking (Ky b)) w λe u' w'=>
   e= .returned (.tuple #[])/\u'= .panicking [{v:=.iface 53 (.pointer (some ⟨b,0,none⟩)),recovered:=true}]/\w'=w.setCell pe (.iface 53 (.pointer (some ⟨b,0,none⟩))):=by
 refine callsD_of_wpS func40 rfl λc₀ cs hu=>?_;simp only[ntmps40,qf,List.length_cons,List.length_nil,Nat.reduceAdd,Nat.reduceSub,qg,Array.replicate_zero,qh,qj,List.nil_append,List.cons_append];apply wpS_seq;apply wpS_region;simp[wpOpsS,go_sem,recoverD,hu,Ky,Exit.thenS];refine wpS_of_wp ?_;have hta:∀w,(Instr.typeAssert (.iface 53 (.pointer (some ⟨b,0,none⟩))) 20 53 true).run prog w= .ok (.tuple #[.pointer (some ⟨b,0,none⟩),.bool true]) w:=λ_=>af
 go_wp2;cases c₀;simp_all [bodyPostS,results,Tryz.results40]
def ZFY(pd pq pl:Addr)(other)(w)(G:Addr->World->Prop)(B:Nat->World->Prop)(h:Calls prog 19 #[.pointer (some pd),.pointer (some pq),.pointer (some pl)] (EY w other) λe w2=>Below (w.heap.size+2) (EY w other) w2/\
   ((∃q,e= .returned (.pointer (some q))/\G q w2)\/(∃b,e= .panicked (Ky b)/\B b w2))):
  Calls prog 18 #[.int .i64 other,.func (.func 19) #[] #[.pointer (some pd),.pointer (some pq),.pointer (some pl)]] w λe w'=>∃w2,Below (w.heap.size+2) (EY w other) w2/\
   ((∃q,G q w2/\e= .returned (.tuple #[.pointer (some q),.nilIface])/\w'=w2.setCell ⟨w.heap.size+1,0,none⟩ .nilIface)\/
    (∃b,B b w2/\e= .returned (.tuple #[.pointer none,Qj b])/\w'=w2.setCell ⟨w.heap.size+1,0,none⟩ (Qj b))):=by
 have BD:∀(fn:Fn) (first cap:Array Value) (w:World),(Instr.makeFunc fn first cap).run prog w= .ok (.func fn first cap) w:=λ_ _ _ _=>rfl;have yV:(EY w other).cell? ⟨w.heap.size+1,0,none⟩=some .nilIface:=bM
 have Ci:(EY w other).frozen? ⟨w.heap.size+1,0,none⟩=false:=bM
 have H:=h;have HH:=vR H;clear h H;go_enter_defers func18,ntmps18;go_wp2_with fail;refine HH.out.mono ?_;rintro e w2 ⟨hB,⟨q,rfl,hG⟩|⟨b,rfl,Zm0⟩⟩
 ·have Aa:=wT hB ae yV;have yj:=(hB.frozen (p:=⟨w.heap.size+1,0,none⟩) ae).trans Ci;go_wp2;refine qO (f:=40) (args:=#[.pointer (some ⟨w.heap.size+1,0,none⟩),.pointer (some ⟨w.heap.size,0,none⟩)]) ae aR ?_;refine(ZF0 _ _ _).mono ?_;rintro e u' GU ⟨rfl,rfl,rfl⟩;have FX:(w2.setCell ⟨w.heap.size+1,0,none⟩ .nilIface).cell? ⟨w.heap.size+1,0,none⟩=some .nilIface:=rT _ _ _ dM;exact⟨.tuple #[.pointer (some q),.nilIface],iR,w2,hB,.inl ⟨q,hG,rfl,rfl⟩⟩
 ·have Aa:=wT hB ae yV;have yj:=(hB.frozen (p:=⟨w.heap.size+1,0,none⟩) ae).trans Ci;go_wp2;refine qO (f:=40) (args:=#[.pointer (some ⟨w.heap.size+1,0,none⟩),.pointer (some ⟨w.heap.size,0,none⟩)]) ae aR ?_;refine(ZFZ _ _ b .nilIface _ Aa yj).mono ?_;rintro e u' GU ⟨rfl,rfl,rfl⟩;have FX:(w2.setCell ⟨w.heap.size+1,0,none⟩ (Qj b)).cell? ⟨w.heap.size+1,0,none⟩=some (Qj b):=rT _ _ _ dM;exact⟨.tuple #[.pointer none,Qj b],iR,w2,hB,.inr ⟨b,Zm0,rfl,rfl⟩⟩
def ZEz(Db)(s:vS)(w)(R)(h1:∀w1 pd pq pl,vV w w1->w1.heap[pd]? =some (.cells #[vU Db] 33)->w1.heap[pq]? =some (.cells #[.string ⟨s.toArray⟩] 9)->w1.heap[pl]? =some (.cells #[.slice none 0 0] 32)->Calls prog 19 #[vU pd,vU pq,vU pl] w1 λe w2=>J4 R w1 e w2\/∃r wu rows,e= .returned (vU r)/\vV w1 w2/\R= .ok (wu,rows)/\Jz w2 r wu rows):
  Calls prog 10 #[vU Db,.string ⟨s.toArray⟩,.slice none 0 0] w (ZhA R w):=by
 have BD:∀(fn:Fn) (first cap:Array Value) (w:World),(Instr.makeFunc fn first cap).run prog w= .ok (.func fn first cap) w:=λ_ _ _ _=>rfl;have H1:=vR h1;clear h1;unfold vU at *;go_enter func10,ntmps10;go_wp2_with fail;generalize DR:((w.alloc (.cells #[.pointer (some ⟨Db,0,none⟩)] 33)).alloc (.cells #[.string ⟨s.toArray⟩] 9)).alloc (.cells #[.slice none 0 0] 32)=w2;have wK:vV w w2:=by rw[<-DR];exact(((nW _ w).alloc (nV _) _).alloc ae _).alloc ah _
 have yA:w2.heap.size=w.heap.size+3:=by rw[<-DR];simp
 have p0:w2.heap[w.heap.size]? =some (.cells #[.pointer (some ⟨Db,0,none⟩)] 33):=by rw[<-DR];exact(Sm w.heap _ _ _).1
 have p1:w2.heap[w.heap.size+1]? =some (.cells #[.string ⟨s.toArray⟩] 9):=by rw[<-DR];exact(Sm w.heap _ _ _).2.1
 have p2:w2.heap[w.heap.size+2]? =some (.cells #[.slice none 0 0] 32):=by rw[<-DR];exact(Sm w.heap _ _ _).2.2
 clear DR;have Zir:vV w2 (EY w2 6):=((nW _ w2).alloc (nV _) _).alloc ae _;have Qo:=wK.trans (Zir.mono wK.size);have ZjG:(EY w2 6).heap.size=w2.heap.size+2:=bM
 have HQ2:Hid ((EY w2 6).heap[w2.heap.size+1]? =some (.cells #[.nilIface] 35)):=by
  show _=_;have:=oK (w2.alloc (.cells #[.int .i64 6] 47)) (.cells #[.nilIface] 35);exact ni
 have k0:=(Zir.block w.heap.size Z).trans p0;have k1:=(Zir.block (w.heap.size+1) Z).trans p1;have k2:=(Zir.block (w.heap.size+2) Z).trans p2;refine(ZFY ⟨w.heap.size,0,none⟩ ⟨w.heap.size+1,0,none⟩ ⟨w.heap.size+2,0,none⟩ 6 w2 (λq w3=>∃r wu rows,q=⟨r,0,none⟩/\R= .ok (wu,rows)/\Jz w3 r wu rows) (λb w3=>∃k a,R= .error (k,a)/\w3.cell? ⟨b,0,none⟩=some (.int .i64 k)/\w3.cell? ⟨b,1,none⟩=some (.int .i64 a)) ?_).mono ?_
 ·refine(H1.out (EY w2 6) w.heap.size (w.heap.size+1) (w.heap.size+2) Qo k0 k1 k2).mono ?_;rintro e w3 (⟨b,k,a,hR,rfl,Bj,yz,hB⟩|⟨r,wu,rows,rfl,hB,hR,xz⟩)
  ·exact⟨hB.mono (by rw[ZjG];exact nV _),.inr ⟨b,rfl,k,a,hR,Bj,yz⟩⟩
  ·exact⟨hB.mono (by rw[ZjG];exact nV _),.inl ⟨_,rfl,r,wu,rows,rfl,hR,xz⟩⟩
 ·clear p0 p1 p2 k0 k1 k2;rintro e w' ⟨w3,hB,(⟨q,⟨r,wu,rows,rfl,hR,xz⟩,rfl,rfl⟩|⟨b,⟨k,a,hR,Bj,yz⟩,rfl,rfl⟩)⟩
  ·subst hR;have hE3:=(hB.block (w2.heap.size+1) Z).trans HQ2.out;have HR:Hid (Jz (w3.setCell ⟨w2.heap.size+1,0,none⟩ .nilIface) r wu rows):=by
    obtain⟨cv,rv,g1,g2,g3⟩:=xz;have hk:∀(g:Nat) (cu:Array Value) (ty:TypeId),ty≠35->w3.heap[g]? =some (.cells cu ty)->(w3.setCell ⟨w2.heap.size+1,0,none⟩ .nilIface).heap[g]? =some (.cells cu ty):=λg cu ty ht e=>Bb e (λe2=>by subst e2;rw[hE3]at e;cases e;exact ht rfl);exact⟨cv,rv,hk _ _ _ O g1,g2.same (λg cu e=>hk _ _ _ O e),FN.same (ts:= [78,80]) (λg cu ty ht e=>hk _ _ _ (λe2=>by subst e2;revert ht;decide) e) ae ae g3⟩
   clear xz;go_wp2;go_ret2;refine⟨(Qo.trans (hB.mono Z)).setCell (p:=⟨w.heap.size+3+1,0,none⟩) (show w.heap.size<=w.heap.size+3+1 by omega) _,r,rfl,?_⟩;first|exact HR.out|(rw[yA]at HR;exact HR.out)
  ·subst hR;have wF:b≠w2.heap.size+1:=by
    intro e;have hE3:=(hB.block (w2.heap.size+1) Z).trans HQ2.out;rw[e]at Bj;simp[World.cell?,hE3]at Bj
   go_wp2;go_ret2;refine⟨(Qo.trans (hB.mono Z)).setCell (p:=⟨w.heap.size+3+1,0,none⟩) (show w.heap.size<=w.heap.size+3+1 by omega) _,b,rfl,?_,?_⟩
   ·exact yP (ou w3 ⟨_,0,none⟩ _ b (by show b≠w.heap.size+3+1;omega)) Bj
   ·exact yP (ou w3 ⟨_,0,none⟩ _ b (by show b≠w.heap.size+3+1;omega)) yz
def ZM0:vS:= [110,117,108,108]
def ZMX:vS:= [99,111,108,117,109,110]
def Zya:vS:= [110,101,103]
def Zyb:vS:= [110,111,116]
def ZMW:vS:= [99,111,109,112,97,114,101]
def ZMZ:vS:= [105,115,110,117,108,108]
def kIn:vS:= [105,110]
def kEx:vS:= [101,120,105,115,116,115]
def Zyc:vS:= [115,101,108,101,99,116]
def Co:Tr->Option TX
 | .node f .nil _ _ _ _ _=>if f.kind=Bu then some (.lit (.int f.num))else if f.kind=BH then some (.lit (.text f.text))else if f.kind=ZM0 then some (.lit .null)else if f.kind=ZMX then some (.zO f.wW f.text)else if f.kind= [99,111,117,110,116]then some (.star f.kind)else none
 | .node f (.cons a .nil) _ _ _ _ _=>if f.kind=Zya then(Co a).map .neg else if f.kind∈Qk then(Co a).map (.agg f.kind)else none
 | .node f (.cons a (.cons b .nil)) _ _ _ _ _=>if f.kind∈Tg then(Co a).bind λx=>(Co b).map λy=>.arith f.kind x y else none
 |_=>none
def E5:Tr->Option FC
 | .node f (.cons a .nil) _ _ _ _ _=>if f.kind=Zyb then(E5 a).map .xJ else if f.kind=ZMZ then(Co a).map λx=>.Fy x f.xJ else none
 | .node f (.cons a (.cons b .nil)) _ _ _ _ _=>if f.kind∈Vn then(E5 a).bind λx=>(E5 b).map λy=>.BS f.kind x y else if f.kind=ZMW then(Co a).bind λx=>(Co b).map λy=>.cmp f.sign x y else none
 |_=>none
def Zdj:Tr->Option FC
 | .nil=>some .nil
 |t=>E5 t
def XB:Tr->Option (List (TX×vS))
 | .nil=>some []
 | .cons (.node f (.cons a .nil) _ _ _ _ _) ts=>(Co a).bind λx=>(XB ts).map λr=>(x,f.xZ)::r
 |_=>none
def X6:Tr->Option (List (vS×vS))
 | .nil=>some []
 | .cons (.node f _ _ _ _ _ _) ts=>(X6 ts).map λr=>(f.text,f.xZ)::r
 |_=>none
def WH:Tr->Option (List (vS×vS))
 | .nil=>some []
 | .cons (.node f _ _ _ _ _ _) ts=>(WH ts).map λr=>(f.wW,f.text)::r
 |_=>none
def EG:Tr->Option FQ
 | .node f .nil ti tf tg tw th=>if f.kind=Zyc then(XB ti).bind λvY=>(X6 tf).bind λps=>(WH tg).bind λgs=>(Zdj tw).bind λwh=>(Zdj th).map λhv=>.yO f.BB vY ps wh gs hv else none
 | .node f (.cons a (.cons b .nil)) _ _ _ _ _=>if f.kind∈Kv then(EG a).bind λx=>(EG b).map λy=>.Ai x (f.kind++ZhF f.all) y else none
 |_=>none
def Ik:Tr->Option TC
 | .node f (.cons a .nil) _ _ _ _ _=>if f.kind=Zyb then(Ik a).map .xJ else if f.kind=kEx then(EG a).map .zK else none
 | .node f (.cons a (.cons b .nil)) _ _ _ _ _=>if f.kind=kIn then(Co a).bind λx=>(EG b).map λy=>.zU x f.xJ y else if f.kind∈Ph then(Co a).bind λx=>(EG b).map λy=>.BK x f.sign f.kind y else none
 |_=>none
structure WQ where
 d:Bool
 vY:List (TX×vS)
 ps:List (vS×vS)
 c:TC
 gs:List (vS×vS)
 hv:FC
def IW:Tr->Option WQ
 | .node f .nil ti tf tg tw th=>if f.kind=Zyc then(XB ti).bind λvY=>(X6 tf).bind λps=>(WH tg).bind λgs=>(Ik tw).bind λc=>(Zdj th).map λhv=>⟨f.BB,vY,ps,c,gs,hv⟩else none
 |_=>none
def ZOO{s:vS}(h:s∈Qk):s≠Zya:=by rintro rfl;revert h;decide
theorem Tp:∀t x e,wX Pb n0 W (.v x) t->Co t=some e->x=xV e
 |t,x,e,h,ht=>by
  cases h with
  |Ai hs _ _=>rw[nd,l2,Co]at ht;dsimp only at ht;rw[nU (by revert hs;simp only[Kv,Tg,oQ,ql,pW];rintro(rfl|rfl|rfl)<;>decide)]at ht;cases ht
  |BS hs _ _=>rw[nd,l2,Co]at ht;dsimp only at ht;rw[nU (by revert hs;simp only[Vn,Tg,oQ,ql,pW];rintro(rfl|rfl)<;>decide)]at ht;cases ht
  |arith hs h1 h2=>
   rename_i l r a b s;rw[nd,l2,Co]at ht;dsimp only at ht;rw[nY hs]at ht;cases e1:Co a with
   |none=>rw[e1]at ht;cases ht
   |some u=>
    cases e2:Co b with
    |none=>rw[e1,e2]at ht;cases ht
    |some v=>
     rw[e1,e2]at ht;cases ht;rw[Tp a l u h1 e1,Tp b r v h2 e2];try rfl
  |compare _ _=>rw[nd,l2,Co]at ht;dsimp only at ht;rw[nU O]at ht;cases ht
  |xJ _=>rw[nd,l1,Co]at ht;dsimp only at ht;rw[nU O,nU O]at ht;cases ht
  |neg h1=>
   rename_i l a;rw[nd,l1,Co]at ht;dsimp only at ht;rw[nY O]at ht;cases e1:Co a with
   |none=>rw[e1]at ht;cases ht
   |some u=>rw[e1]at ht;cases ht;rw[Tp a l u h1 e1];try rfl
  |BK hs _ _=>rw[nd,l2,Co]at ht;dsimp only at ht;rw[nU (by revert hs;simp only[Ph,Tg,oQ,ql,pW];rintro(rfl|rfl)<;>decide)]at ht;cases ht
  |zU _ _=>rw[nd,l2,Co]at ht;dsimp only at ht;rw[nU O]at ht;cases ht
  |zK _=>rw[nd,l1,Co]at ht;dsimp only at ht;rw[nU O,nU O]at ht;cases ht
  |isNull _=>rw[nd,l1,Co]at ht;dsimp only at ht;rw[nU O,nU O]at ht;cases ht
  |num=>rw[nd,Co]at ht;dsimp only at ht;rw[nY O]at ht;cases ht;rfl
  |text=>rw[nd,Co]at ht;dsimp only at ht;rw[nU O,nY O]at ht;cases ht;rfl
  |null=>rw[nd,Co]at ht;dsimp only at ht;rw[nU O,nU O,nY O]at ht;cases ht;rfl
  |column=>rw[nd,Co]at ht;dsimp only at ht;rw[nU O,nU O,nU O,nY O]at ht;cases ht;rfl
  |star=>rw[nd,Co]at ht;dsimp only at ht;rw[nU O,nU O,nU O,nU O,nY O]at ht;cases ht;rfl
  |agg hs h1=>
   rename_i l a s;rw[nd,l1,Co]at ht;dsimp only at ht;rw[nU (ZOO hs),nY hs]at ht;cases e1:Co a with
   |none=>rw[e1]at ht;cases ht
   |some u=>rw[e1]at ht;cases ht;rw[Tp a l u h1 e1];try rfl
  |select=>rw[Co]at ht;dsimp only at ht;rw[nU O,nU O,nU O,nU O,nU O]at ht;cases ht
theorem Zh9:∀t x c,wX Pb n0 W (.v x) t->E5 t=some c->x=cV c
 |t,x,c,h,ht=>by
  cases h with
  |Ai hs _ _=>rw[nd,l2,E5]at ht;dsimp only at ht;rw[nU (by revert hs;simp only[Kv,Vn,oQ,ql,pW];rintro(rfl|rfl|rfl)<;>decide),nU iT]at ht;cases ht
  |BS hs h1 h2=>
   rename_i l r a b s;rw[nd,l2,E5]at ht;dsimp only at ht;rw[nY hs]at ht;cases e1:E5 a with
   |none=>rw[e1]at ht;cases ht
   |some u=>
    cases e2:E5 b with
    |none=>rw[e1,e2]at ht;cases ht
    |some v=>
     rw[e1,e2]at ht;cases ht;rw[Zh9 a l u h1 e1,Zh9 b r v h2 e2];try rfl
  |arith hs _ _=>rw[nd,l2,E5]at ht;dsimp only at ht;rw[nU (by revert hs;simp only[Tg,Vn,oQ,ql,pW];rintro(rfl|rfl|rfl|rfl|rfl)<;>decide),nU iU]at ht;cases ht
  |compare h1 h2=>
   rename_i l r a b s;rw[nd,l2,E5]at ht;dsimp only at ht;rw[nU O,nY O]at ht;cases e1:Co a with
   |none=>rw[e1]at ht;cases ht
   |some u=>
    cases e2:Co b with
    |none=>rw[e1,e2]at ht;cases ht
    |some v=>
     rw[e1,e2]at ht;cases ht;rw[Tp a l u h1 e1,Tp b r v h2 e2];try rfl
  |xJ h1=>
   rename_i l a;rw[nd,l1,E5]at ht;dsimp only at ht;rw[nY O]at ht;cases e1:E5 a with
   |none=>rw[e1]at ht;cases ht
   |some u=>rw[e1]at ht;cases ht;rw[Zh9 a l u h1 e1];try rfl
  |neg _=>rw[nd,l1,E5]at ht;dsimp only at ht;rw[nU O,nU O]at ht;cases ht
  |BK hs _ _=>rw[nd,l2,E5]at ht;dsimp only at ht;rw[nU (by revert hs;simp only[Ph,Vn,oQ,ql,pW];rintro(rfl|rfl)<;>decide),nU iV]at ht;cases ht
  |zU _ _=>rw[nd,l2,E5]at ht;dsimp only at ht;rw[nU O,nU O]at ht;cases ht
  |zK _=>rw[nd,l1,E5]at ht;dsimp only at ht;rw[nU O,nU O]at ht;cases ht
  |isNull h1=>
   rename_i l a b;rw[nd,l1,E5]at ht;dsimp only at ht;rw[nU O,nY O]at ht;cases e1:Co a with
   |none=>rw[e1]at ht;cases ht
   |some u=>rw[e1]at ht;cases ht;rw[Tp a l u h1 e1];try rfl
  |agg hs _=>rw[nd,l1,E5]at ht;dsimp only at ht;rw[nU eX,nU eX]at ht;cases ht
  |num=>rw[nd,E5]at ht<;>first|cases ht|simp
  |text=>rw[nd,E5]at ht<;>first|cases ht|simp
  |null=>rw[nd,E5]at ht<;>first|cases ht|simp
  |column=>rw[nd,E5]at ht<;>first|cases ht|simp
  |star=>rw[nd,E5]at ht<;>first|cases ht|simp
  |select=>rw[E5]at ht<;>first|cases ht|simp
def ZqS{t:Tr}{x:Value}{c:FC}(h:x= .nilIface/\t= .nil\/x≠.nilIface/\t.isNode=true)(hr:x≠.nilIface->wX Pb n0 W (.v x) t)(ht:Zdj t=some c):x=cV c:=by
 rcases h with⟨rfl,rfl⟩|⟨h1,h2⟩
 ·rw[Zdj]at ht;cases ht;rfl
 ·refine Zh9 t x c (hr h1) ?_;cases t with
  |nil=>cases h2
  |cons a b=>cases h2
  |node=>rw[Zdj]at ht<;>first|exact ht|simp
theorem Zx5:∀t l vY,wX Pb n0 W (.vY l) t->XB t=some vY->l=vY.map λp=>(xV p.1,xW p.2)
 |t,l,vY,h,ht=>by
  cases h with
  |Xz=>rw[XB]at ht;cases ht;rfl
  |U5 h1 h2=>
   rename_i x s r a ts;rw[nd,l1,XB]at ht;cases e1:Co a with
   |none=>rw[e1]at ht;cases ht
   |some u=>
    cases e2:XB ts with
    |none=>rw[e1,e2]at ht;cases ht
    |some v=>
     rw[e1,e2]at ht;cases ht;rw[Tp a x u h1 e1,Zx5 ts r v h2 e2];try rfl
theorem ZAn:∀t l ps,wX Pb n0 W (.VB l) t->X6 t=some ps->l=ps.map λp=>(xW p.1,xW p.2)
 |t,l,ps,h,ht=>by
  cases h with
  |ZaM=>rw[X6]at ht;cases ht;rfl
  |Vy h2=>
   rename_i n s r ts;rw[nd,X6]at ht;cases e2:X6 ts with
   |none=>rw[e2]at ht;cases ht
   |some v=>rw[e2]at ht;cases ht;rw[ZAn ts r v h2 e2];try rfl
theorem ZtN:∀t l ps,wX Pb n0 W (.cls l) t->WH t=some ps->l=ps.map λp=>(xW p.1,xW p.2)
 |t,l,ps,h,ht=>by
  cases h with
  |WI=>rw[WH]at ht;cases ht;rfl
  |Uo h2=>
   rename_i n s r ts;rw[nd,WH]at ht;cases e2:WH ts with
   |none=>rw[e2]at ht;cases ht
   |some v=>rw[e2]at ht;cases ht;rw[ZtN ts r v h2 e2];try rfl
def Zyu{x}(h:Lay Pb n0 W x (ps.map λp=>(xW p.1,xW p.2))):∃g cap,x= .slice (some ⟨g,0,none⟩) ps.length cap/\J2 W (some ⟨g,0,none⟩) ps:=by
 obtain⟨g,cap,e,_,_,_,hc⟩:=h;refine⟨g,cap,bS,λi hi=>⟨g,rfl,?_⟩⟩;have:=hc i aN;simpa[xW]using this
def ZOf{x}{ps:List (TX×vS)}(h:Lay Pb n0 W x (ps.map λp=>(xV p.1,xW p.2))):∃a cap,x= .slice a ps.length cap/\Nj W (.slice a ps.length cap) ps:=by
 obtain⟨g,cap,e,_,_,_,hc⟩:=h;refine⟨_,cap,bS,_,_,rfl,λi hi=>⟨g,rfl,?_⟩⟩;have:=hc i aN;simpa[xW]using this
def Zz9{i f g:Value}{is fs gs:List (Value×Value)}{ti tf tg}{vY:List (TX×vS)}{qs:List (vS×vS)}{c:Bool}(h1:c=true/\i= .slice none 0 0/\is= []\/c=false/\is≠ []/\Lay Pb n0 W i is)(h2:fs≠ []/\Lay Pb n0 W f fs)(h3:g= .slice none 0 0/\gs= []\/gs≠ []/\Lay Pb n0 W g gs)(r1:wX Pb n0 W (.vY is) ti)(r2:wX Pb n0 W (.VB fs) tf)(r3:wX Pb n0 W (.cls gs) tg)(e1:XB ti=some vY)(e2:X6 tf=some ps)(e3:WH tg=some qs):
  ∃ia ic sg Bg ga zx,i= .slice ia vY.length ic/\f= .slice (some ⟨sg,0,none⟩) ps.length Bg/\g= .slice ga qs.length zx/\Nj W (.slice ia vY.length ic) vY/\J2 W (some ⟨sg,0,none⟩) ps/\J2 W ga qs:=by
 have k1:=Zx5 _ _ _ r1 e1;have k2:=ZAn _ _ _ r2 e2;have k3:=ZtN _ _ _ r3 e3;subst k1;subst k2;subst k3;obtain⟨sg,Bg,rfl,hs⟩:=Zyu h2.2;obtain⟨ia,ic,rfl,hi⟩:∃ia ic,i= .slice ia vY.length ic/\Nj W (.slice ia vY.length ic) vY:=by
  rcases h1 with⟨_,rfl,h⟩|⟨_,_,h⟩
  ·have:vY= []:=by simpa using h
   subst this;exact⟨none,0,rfl,none,0,rfl,λi h=>ax⟩
  ·exact ZOf h
 obtain⟨ga,gc,rfl,hg⟩:∃ga gc,g= .slice ga qs.length gc/\J2 W ga qs:=by
  rcases h3 with⟨rfl,h⟩|⟨_,h⟩
  ·have:qs= []:=by simpa using h
   subst this;exact⟨none,0,rfl,λi h=>ax⟩
  ·obtain⟨g,cap,e,hp⟩:=Zyu h;exact⟨_,cap,e,hp⟩
 exact⟨ia,ic,sg,Bg,ga,gc,rfl,rfl,rfl,hi,hs,hg⟩
theorem ZbH:∀t x q,wX Pb n0 W (.v x) t->EG t=some q->Jy W q x
 |t,x,q,h,ht=>by
  cases h with
  |Ai hs h1 h2=>
   rename_i l r a b s al;rw[nd,l2,EG]at ht;dsimp only at ht;rw[nY hs]at ht;obtain⟨u,e1,ht⟩:=Dh ht;obtain⟨v,e2,rfl⟩:=MU ht;exact⟨_,_,rfl,ZbH a l u h1 e1,ZbH b r v h2 e2⟩
  |BS hs _ _=>rw[nd,l2,EG]at ht;dsimp only at ht;rw[nU (by revert hs;simp only[Vn,Kv,oQ,ql,pW];rintro(rfl|rfl)<;>decide)]at ht;cases ht
  |arith hs _ _=>rw[nd,l2,EG]at ht;dsimp only at ht;rw[nU (by revert hs;simp only[Tg,Kv,oQ,ql,pW];rintro(rfl|rfl|rfl|rfl|rfl)<;>decide)]at ht;cases ht
  |compare _ _=>rw[nd,l2,EG]at ht;dsimp only at ht;rw[nU O]at ht;cases ht
  |BK hs _ _=>rw[nd,l2,EG]at ht;dsimp only at ht;rw[nU (by revert hs;simp only[Ph,Kv,oQ,ql,pW];rintro(rfl|rfl)<;>decide)]at ht;cases ht
  |zU _ _=>rw[nd,l2,EG]at ht;dsimp only at ht;rw[nU O]at ht;cases ht
  |xJ _=>rw[nd,l1,EG]at ht<;>first|cases ht|simp
  |neg _=>rw[nd,l1,EG]at ht<;>first|cases ht|simp
  |zK _=>rw[nd,l1,EG]at ht<;>first|cases ht|simp
  |isNull _=>rw[nd,l1,EG]at ht<;>first|cases ht|simp
  |agg _ _=>rw[nd,l1,EG]at ht<;>first|cases ht|simp
  |num=>rw[nd,EG]at ht;dsimp only at ht;rw[nU O]at ht;cases ht
  |text=>rw[nd,EG]at ht;dsimp only at ht;rw[nU O]at ht;cases ht
  |null=>rw[nd,EG]at ht;dsimp only at ht;rw[nU O]at ht;cases ht
  |column=>rw[nd,EG]at ht;dsimp only at ht;rw[nU O]at ht;cases ht
  |star=>rw[nd,EG]at ht;dsimp only at ht;rw[nU O]at ht;cases ht
  |select h1 h2 h3 r1 r2 r3 hw hh rw_ rh=>
   rename_i i f w g h is fs gs ti tf tw tg th b c;rw[EG]at ht;dsimp only at ht;rw[nY O]at ht;obtain⟨vY,e1,ht⟩:=Dh ht;obtain⟨ps,e2,ht⟩:=Dh ht;obtain⟨qs,e3,ht⟩:=Dh ht;obtain⟨wh,e4,ht⟩:=Dh ht;obtain⟨hv,e5,rfl⟩:=MU ht;obtain⟨ia,ic,sg,Bg,ga,zx,rfl,rfl,rfl,k1,k2,k3⟩:=Zz9 h1 h2 h3 r1 r2 r3 e1 e2 e3;rw[ZqS hw rw_ e4,ZqS hh rh e5];exact⟨ia,ic,sg,Bg,ga,zx,rfl,k1,k2,k3⟩
theorem ZAJ:∀t x c,wX Pb n0 W (.v x) t->Ik t=some c->RO W c x
 |t,x,c,h,ht=>by
  cases h with
  |Ai hs _ _=>rw[nd,l2,Ik]at ht;dsimp only at ht;rw[nU iT,nU (by revert hs;simp only[Kv,Ph,oQ,ql,pW];rintro(rfl|rfl|rfl)<;>decide)]at ht;cases ht
  |BS hs _ _=>rw[nd,l2,Ik]at ht;dsimp only at ht;rw[nU (by revert hs;simp only[Vn,oQ,ql,pW];rintro(rfl|rfl)<;>decide),nU (by revert hs;simp only[Vn,Ph,oQ,ql,pW];rintro(rfl|rfl)<;>decide)]at ht;cases ht
  |arith hs _ _=>rw[nd,l2,Ik]at ht;dsimp only at ht;rw[nU iU,nU (by revert hs;simp only[Tg,Ph,oQ,ql,pW];rintro(rfl|rfl|rfl|rfl|rfl)<;>decide)]at ht;cases ht
  |compare _ _=>rw[nd,l2,Ik]at ht;dsimp only at ht;rw[nU O,nU O]at ht;cases ht
  |xJ h1=>
   rename_i l a;rw[nd,l1,Ik]at ht;dsimp only at ht;rw[nY O]at ht;obtain⟨u,e1,rfl⟩:=MU ht;obtain⟨n,y,rfl⟩:=h1.iface;exact⟨n,y,rfl,ZAJ a _ u h1 e1⟩
  |neg _=>rw[nd,l1,Ik]at ht;dsimp only at ht;rw[nU O,nU O]at ht;cases ht
  |BK hs h1 h2=>
   rename_i l q a b s h;rw[nd,l2,Ik]at ht;dsimp only at ht;rw[nU iV,nY hs]at ht;exact mi
  |zU h1 h2=>
   rename_i l q a b n;rw[nd,l2,Ik]at ht;dsimp only at ht;rw[nY O]at ht;exact mi
  |zK h1=>
   rename_i q a;rw[nd,l1,Ik]at ht;dsimp only at ht;rw[nU O,nY O]at ht;obtain⟨u,e1,rfl⟩:=MU ht;exact⟨q,rfl,ZbH a q u h1 e1⟩
  |isNull _=>rw[nd,l1,Ik]at ht;dsimp only at ht;rw[nU O,nU O]at ht;cases ht
  |agg hs _=>rw[nd,l1,Ik]at ht;dsimp only at ht;rw[nU eX,nU eX]at ht;cases ht
  |num=>rw[nd,Ik]at ht<;>first|cases ht|simp
  |text=>rw[nd,Ik]at ht<;>first|cases ht|simp
  |null=>rw[nd,Ik]at ht<;>first|cases ht|simp
  |column=>rw[nd,Ik]at ht<;>first|cases ht|simp
  |star=>rw[nd,Ik]at ht<;>first|cases ht|simp
  |select=>rw[Ik]at ht<;>first|cases ht|simp
def Zd6(W:World)(q:WQ)(v:Value):Prop:=∃ia ic sg Bg ga zx wv,v= .iface 181 (.agg #[.bool q.d,.slice ia q.vY.length ic,.slice (some ⟨sg,0,none⟩) q.ps.length Bg,wv,.slice ga q.gs.length zx,cV q.hv])/\Nj W (.slice ia q.vY.length ic) q.vY/\J2 W (some ⟨sg,0,none⟩) q.ps/\J2 W ga q.gs/\RO W q.c wv/\∃n y,wv= .iface n y
def ZUX(t)(x)(q)(h:wX Pb n0 W (.v x) t)(ht:IW t=some q):Zd6 W q x:=by
 cases h with
 |Ai _ _ _=>rw[nd,l2,IW]at ht<;>first|cases ht|simp
 |BS hs _ _=>rw[nd,l2,IW]at ht<;>first|cases ht|simp
 |arith hs _ _=>rw[nd,l2,IW]at ht<;>first|cases ht|simp
 |compare _ _=>rw[nd,l2,IW]at ht<;>first|cases ht|simp
 |BK hs _ _=>rw[nd,l2,IW]at ht<;>first|cases ht|simp
 |zU _ _=>rw[nd,l2,IW]at ht<;>first|cases ht|simp
 |xJ _=>rw[nd,l1,IW]at ht<;>first|cases ht|simp
 |neg _=>rw[nd,l1,IW]at ht<;>first|cases ht|simp
 |zK _=>rw[nd,l1,IW]at ht<;>first|cases ht|simp
 |isNull _=>rw[nd,l1,IW]at ht<;>first|cases ht|simp
 |agg _ _=>rw[nd,l1,IW]at ht<;>first|cases ht|simp
 |num=>rw[nd,IW]at ht;dsimp only at ht;rw[nU O]at ht;cases ht
 |text=>rw[nd,IW]at ht;dsimp only at ht;rw[nU O]at ht;cases ht
 |null=>rw[nd,IW]at ht;dsimp only at ht;rw[nU O]at ht;cases ht
 |column=>rw[nd,IW]at ht;dsimp only at ht;rw[nU O]at ht;cases ht
 |star=>rw[nd,IW]at ht;dsimp only at ht;rw[nU O]at ht;cases ht
 |select h1 h2 h3 r1 r2 r3 hw hh rw_ rh=>
  rename_i i f w g h is fs gs ti tf tw tg th b c;rw[IW]at ht;dsimp only at ht;rw[nY O]at ht;obtain⟨vY,e1,ht⟩:=Dh ht;obtain⟨ps,e2,ht⟩:=Dh ht;obtain⟨qs,e3,ht⟩:=Dh ht;obtain⟨cc,e4,ht⟩:=Dh ht;obtain⟨hv,e5,rfl⟩:=MU ht;obtain⟨ia,ic,sg,Bg,ga,zx,rfl,rfl,rfl,k1,k2,k3⟩:=Zz9 h1 h2 h3 r1 r2 r3 e1 e2 e3;rw[ZqS hh rh e5];rcases hw with⟨_,rfl⟩|⟨wF,_⟩
  ·rw[Ik]at e4<;>first|cases e4|simp
  ·have hr:=rw_ wF;exact⟨ia,ic,sg,Bg,ga,zx,w,rfl,k1,k2,k3,ZAJ tw w cc hr e4,hr.iface⟩
section
open NT
theorem Ub.below{T}{tb}(h:Ub W T tb)(hB:vV W W'):Ub W' T tb:=by
 obtain⟨gc,cap,P,rv,h1,h2,h3,h4,h5,h6⟩:=h.obj;refine⟨⟨gc,cap,P,rv,xq hB h1,oU h2 hB.size,oU h3 hB.size,λi hi=>⟨wT hB h2 (h4 i hi).1,wT hB h2 (h4 i hi).2⟩,Il h5 (hB.block P h3),h6.below hB⟩,h.nd,h.le,h.pos⟩
theorem JV.below{M}{db}(h:JV W M db)(hB:vV W W'):JV W' M db:=by
 obtain⟨es,ck,hm⟩:=h.val.obj;exact⟨Il h.val (hB.block M (wo hm)),h.nd,h.ne,λx hx=>(h.VH x hx).below hB⟩
def ZsV{w w'}{k a}{e}(hB:vV w w')(h:Yg w'.heap.size k a w' e w1):J4 (.error (k,a)) w e w1:=by
 obtain⟨b,h1,h2,h3,h4⟩:=h;exact⟨b,k,a,rfl,h1,h2,h3,hB.trans (h4.mono hB.size)⟩
def ZSN(s:vS)(w)(hs:s.length<=90000)(hE:Lh w)(Fg:I5 w)(k a:Int)(h:(∃n,Ic s= .error n/\k=2/\a=n)\/(∃l,Ic s= .ok l/\vW (PK.P query) (l.map wI)≠some []/\k=3/\a=0))(TP:World->Value->Prop):
  ∀w',vV w w'->Calls prog 21 #[.string ⟨s.toArray⟩] w' λe w1=>J4 (.error (k,a)) w e w1\/∃n y,e= .returned (.iface n y)/\vV w w1/\TP w1 (.iface n y):=by
 intro w' hB;refine(Zzk s w' hs (hE.below hB) (Fg.below hB hE.zR)).mono ?_;intro e w1 hq;rcases h with⟨n,h1,rfl,rfl⟩|⟨l,h1,h2,rfl,rfl⟩
 ·rw[h1]at hq;exact .inl (ZsV hB hq)
 ·rw[h1]at hq;have hn:¬vW (PK.P query) (l.map wI)=some []:=h2;rcases hq with⟨_,hb⟩|⟨hG,_⟩|⟨hG,_⟩
  ·exact .inl (ZsV hB hb)
  ·exact absurd hG hn
  ·exact absurd hG hn
def ZAo(s:vS)(w)(hs:s.length<=90000)(hE:Lh w)(Fg:I5 w)(R)(l:List RW)(t:Tr)(n)(h1:Ic s= .ok l)(h2:vW (PK.P query) (l.map wI)=some [])(h3:deep l=false)(h4:wM n (PT.P query) l=some (t, []))(TP:World->Value->Prop)(hT:∀W Pb n0 x,wX Pb n0 W (.v x) t->TP W x):
  ∀w',vV w w'->Calls prog 21 #[.string ⟨s.toArray⟩] w' λe w1=>J4 R w e w1\/∃n y,e= .returned (.iface n y)/\vV w w1/\TP w1 (.iface n y):=by
 intro w' hB;refine(Zzk s w' hs (hE.below hB) (Fg.below hB hE.zR)).mono ?_;intro e w1 hq;rw[h1]at hq;have hG:=h2;rcases hq with⟨hn,_⟩|⟨_,hd,_⟩|⟨_,_,wE,Pb,n',y,t',rfl,hD,hR⟩
 ·exact absurd hG hn
 ·rw[h3]at hd;cases hd
 ·have:=hD.tree h4;subst this;exact .inr ⟨n',y,rfl,hB.trans (wE.mono hB.size),hT _ _ _ _ hR⟩
def ZAL{w}{e}(hB:vV w w1)(h:Gx w1 e w3):J4 (.error (5,0)) w e w3:=by
 obtain⟨b,h1,h2,h3,h4⟩:=h;exact⟨b,5,0,rfl,h1,eY,eY,hB.trans (h4.mono hB.size)⟩
def ZAK{w}{e}(hB:vV w w1)(h:Zr5 w1 e w3):J4 (.error (6,0)) w e w3:=by
 obtain⟨b,h1,h2,h3,h4⟩:=h;exact⟨b,6,0,rfl,h1,eY,eY,hB.trans (h4.mono hB.size)⟩
def TA(wu:List vS)(bg:xk)(met:Nat)(R:Dr):Prop:=
 (met≠0/\R= .error ((met:Int),0))\/(met=0/\R= .ok (wu,zw bg)/\bg.rows.length<=2000/\(∀r∈bg.rows,r.length<=1000)/\(zw bg).length<=2000)
def TA.end_{bg}{met}{R}{w:World}{e:Ending}{w4:World}{Q:Nat->World->Prop}(h:TA wu bg met R)(hQ:∀bb W,Q bb W->vV w W/\YK w3 W/\CV W bb bg)(he:(met=0/\∃bb,e= .returned (vU bb)/\Q bb w4)\/(met≠0/\∃bb W2,Q bb W2/\e= .panicked (ZgK W2.heap.size)/\w4=W2.alloc (.cells #[.int .i64 met,.int .i64 0] 58))):
  J4 R w e w4\/∃bb,e= .returned (vU bb)/\vV w w4/\YK w3 w4/\CV w4 bb bg/\R= .ok (wu,zw bg)/\bg.rows.length<=2000/\(∀r∈bg.rows,r.length<=1000)/\(zw bg).length<=2000:=by
 rcases he with⟨h0,bb,rfl,hq⟩|⟨h0,bb,W2,hq,rfl,rfl⟩
 ·rcases h with⟨h1,_⟩|⟨_,h2,h3,h4,h5⟩
  ·exact absurd h0 h1
  ·obtain⟨q1,q2,q3⟩:=hQ bb w4 hq;exact .inr ⟨bb,rfl,q1,q2,q3,h2,h3,h4,h5⟩
 ·rcases h with⟨_,h2⟩|⟨h1,_⟩
  ·obtain⟨q1,q2,q3⟩:=hQ bb W2 hq;exact .inl ⟨W2.heap.size,(met:Int),0,h2,rfl,ae,ae,q1.alloc q1.size _⟩
  ·exact absurd h1 h0
inductive Zdo (db:List (vS×Nat×Ar)) (q:FQ):Dr->List vS->xk->Prop
 |scope {wu:List vS} {bg:xk} (h:GM db q none false=none):Zdo db q (.error (5,0)) wu bg
 |type {wu:List vS} {bg:xk} (r) (h:GM db q none false=some r) (h2:r.2.2.2=true):Zdo db q (.error (6,0)) wu bg
 |run {R:Dr} {bg:xk} (r) (met:Nat) (h:GM db q none false=some r) (h2:r.2.2.2=false) (he:Tz r.1 [] bg met) (hf:TA (r.2.1.map (·.1)) bg met R):Zdo db q R (r.2.1.map (·.1)) bg
def ZRu{q}{v}(h:AX W q v S):∃n y,v= .iface n y:=by
 cases q with
 |yO s=>obtain⟨b,x,d,e,_⟩:=h;exact⟨_,_,e⟩
 |Ai l s r=>obtain⟨j,lv,rv,S1,S2,e,_⟩:=h;exact⟨_,_,e⟩
def Nj.below{v}{vY}(h:Nj W v vY)(hB:vV W W'):Nj W' v vY:=by
 obtain⟨a,cap,e,hx⟩:=h;refine⟨a,cap,e,λi hi=>?_⟩;obtain⟨g,e,h1,h2⟩:=hx i hi;exact⟨g,e,Ga h1 hB,Ga h2 hB⟩
def J2.below{a}(h:J2 W a ps)(hB:vV W W'):J2 W' a ps:=λi hi=>by
 obtain⟨g,e,h1,h2⟩:=h i hi;exact⟨g,e,Ga h1 hB,Ga h2 hB⟩
theorem Jy.below(hB:vV W W'):∀{q:FQ} {v:Value},Jy W q v->Jy W' q v
 | .yO ..,v,⟨ia,ic,sg,Bg,ga,zx,e,h1,h2,h3⟩=>⟨ia,ic,sg,Bg,ga,zx,e,h1.below hB,h2.below hB,h3.below hB⟩
 | .Ai l s r,v,⟨lv,rv,e,h1,h2⟩=>⟨lv,rv,e,Jy.below hB h1,Jy.below hB h2⟩
theorem RO.below(hB:vV W W'):∀{c:TC} {v:Value},RO W c v->RO W' c v
 | .flat _,v,h=>h
 | .xJ c,v,⟨n,y,e,h⟩=>⟨n,y,e,RO.below hB h⟩
 | .zK q,v,⟨qv,e,h⟩=>⟨qv,e,h.below hB⟩
 | .zU x n q,v,⟨qv,e,h⟩=>⟨qv,e,h.below hB⟩
 | .BK x s h q,v,⟨qv,e,hq⟩=>⟨qv,e,hq.below hB⟩
def ZPZ{w}(wH:vV w w3)(hB:vV w3 W)(xu:Ox S W W')(hS:∀g∈S,w.heap.size<=g)(hs:RJ W S):vV w W'/\YK w3 W':=by
 have xX:=wH.trans (hB.mono wH.size);refine⟨⟨xu.os.trans xX.os,xu.tape.trans xX.tape,xu.output.trans xX.output,om xX.size xu.size,λg hg=>(xu.block g (oU hg xX.size) (λhm=>by have:=hS g hm;omega)).trans (xX.block g hg)⟩,λg cu e=>?_⟩;have h1:=xq hB e;refine(xu.block g (wo h1) (λhm=>?_)).trans h1;obtain⟨BA,h',_⟩:=hs g hm;rw[h1]at h';cases h'
def ZRk(pd pq pl:Nat)(Db)(M:Nat)(s:vS)(w:World)(R)(wu:List vS)(bg)(db)(l:List RW)(t:Tr)(n)(q:FQ)(hd:w.heap[pd]? =some (.cells #[vU Db] 33))(hm:w.cell? ⟨Db,0,none⟩=some (.map (some M)))(hq:w.heap[pq]? =some (.cells #[.string ⟨s.toArray⟩] 9))(hl:w.heap[pl]? =some (.cells #[.slice none 0 0] 32))(hs:s.length<=90000)(hE:Lh w)(Fg:I5 w)(hD:JV w M db)(h1:Ic s= .ok l)(h2:vW (PK.P query) (l.map wI)=some [])(h3:deep l=false)(h4:wM n (PT.P query) l=some (t, []))(h5:EG t=some q)(h6:Px q)(h7:IV q<=400)(Ch:0<wu.length)(AZ:Zdo db q R wu bg):
  Calls prog 19 #[vU pd,vU pq,vU pl] w λe w2=>J4 R w e w2\/∃r,e= .returned (vU r)/\vV w w2/\R= .ok (wu,zw bg)/\Jz w2 r wu (zw bg):=by
 refine Zl3 pd pq pl Db M s w R wu bg (λW v=>Jy W q v) (λW v=>∃r met S,GM db q none false=some r/\Tz r.1 [] bg met/\TA wu bg met R/\AX W r.1 v S/\∀g∈S,w.heap.size<=g) hd hm hq hl
  (ZAo s w hs hE Fg R l t n h1 h2 h3 h4 _ (λW Pb n0 x hR=>ZbH t x q hR h5)) (λw1 n y wE hT=>?_) (λa c v hT hB=>hT.below hB) (λa c v hC hB=>?_) (λw3 n3 y3 wH hC=>?_) Ch
 ·refine(ZFm w1 M db q _ (hD.below wE) hT h6 h7).mono ?_;rintro e w3 (⟨hn,ht⟩|⟨cs,hn,ht⟩|⟨cs,v,tv,hn,rfl,hR,wD,wH⟩)
  ·cases AZ with
   |scope h=>exact .inl (ZAL wE ht)
   |type r h _=>rw[h]at hn;cases hn
   |run r met h _ _ _=>rw[h]at hn;cases hn
  ·cases AZ with
   |scope h=>rw[h]at hn;cases hn
   |type r h _=>exact .inl (ZAK wE ht)
   |run r met h h' _ _=>rw[h]at hn;have e2:=(qJ (oN hn)).2;rw[h']at e2;cases e2
  ·cases AZ with
   |scope h=>rw[h]at hn;cases hn
   |type r h h'=>rw[h]at hn;have e2:=(qJ (oN hn)).2;rw[h']at e2;cases e2
   |run r met h h' he hf=>
    rw[h]at hn;have e1:=(qJ (oN hn)).1;subst e1;obtain⟨S,hS,hl⟩:=hR r h;obtain⟨n3,y3,rfl⟩:=ZRu hS;refine .inr ⟨n3,y3,tv,rfl,wE.trans (wH.mono wE.size),⟨r,met,S,h,he,hf,hS,λg hg=>om wE.size (hl g hg)⟩,?_⟩;rw[pY];exact Zax wD wE.size
 ·obtain⟨r,met,S,h1,h2,h3,h4,h5⟩:=hC;exact⟨r,met,S,h1,h2,h3,h4.below hB,h5⟩
 ·obtain⟨r,met,S,h1,h2,h3,h4,h5⟩:=hC;refine(ZzK w3 _ met (λbb W=>vV w W/\YK w3 W/\CV W bb bg) ⟨_,_,rfl⟩ (λW' rr k hB' hN hr hk=>?_)).mono (λe w4 he=>TA.end_ h3 (λbb W h=>h) he);have hqi:=h4.below hB';refine(Zkl rr r.1 W' _ S [] (.pointer none) bg met hqi rfl h2).mono ?_;rintro e W2 ⟨bb,rfl,Lx,xu,_⟩;obtain⟨p1,p2⟩:=ZPZ wH hB' xu h5 hqi.bs;exact⟨bb,rfl,p1,p2,Lx⟩
end
section
open NT
def XZ(db:List (vS×Nat×Ar))(q:WQ):Option (Aq×List (vS×Nat)×yR×Bool):=Rj db q.d q.vY q.ps q.gs q.hv (λxs=>(GQ db q.c xs false).map λr=>(r.1,⟨xs,none,none⟩,r.2.2.2))
structure ZlV (q:WQ):Prop where
 il:q.vY.length<=400
 iok:∀p∈q.vY,Gp p.1
 pl:q.ps.length<=400
 pok:∀p∈q.ps,p.1.length<=1000/\p.2.length<=1000
 gl:q.gs.length<=400
 gok:∀p∈q.gs,p.2.length<=1000
 hv:Q5 q.hv
 c:okT q.c
 sz:F5 q.hv+La q.vY<=400
 gr:KP q.vY q.gs=false
def Zr6(s:Aq)(q:PQ)(es:List PX)(bg:xk)(met:Nat):Prop:=T9 s.yu/\(zJ s).length<=64/\∃(st:Nat->Cx) (ts:List (Nat×Nat)),st 0={}/\ts.length=(zJ s).length/\(∀i (h:i<(zJ s).length) (h':i<ts.length),Ru q es [(zJ s)[i]] s.Ee (st i) ts[i].1 ts[i].2 (st (i+1)))/\
 ((xG (ts.map (·.2))≠0/\bg={}/\met=xG (ts.map (·.2)))\/(xG (ts.map (·.2))=0/\Nl s [] (DT (zJ s) (ts.map (·.1))) bg met))
inductive Zd5 (db:List (vS×Nat×Ar)) (q:WQ):Dr->List vS->xk->Prop
 |scope {wu:List vS} {bg:xk} (h:XZ db q=none):Zd5 db q (.error (5,0)) wu bg
 |type {wu:List vS} {bg:xk} (r) (h:XZ db q=some r) (h2:r.2.2.2=true):Zd5 db q (.error (6,0)) wu bg
 |run {R:Dr} {bg:xk} (r) (met:Nat) (xs:List SX) (p:PC) (pq:PQ) (es:List PX) (cl':Bool) (h:XZ db q=some r) (h2:r.2.2.2=false) (hx:M6 db q.ps=some xs) (ht:GQ db q.c xs false=some (p,pq,es,cl')) (he:Zr6 r.1 pq es bg met) (hf:TA (r.2.1.map (·.1)) bg met R):Zd5 db q R (r.2.1.map (·.1)) bg
theorem Zd6.below{q}{v}(h:Zd6 W q v)(hB:vV W W'):Zd6 W' q v:=by
 obtain⟨ia,ic,sg,Bg,ga,zx,wv,e,h1,h2,h3,h4,h5⟩:=h;exact⟨ia,ic,sg,Bg,ga,zx,wv,e,h1.below hB,h2.below hB,h3.below hB,h4.below hB,h5⟩
def ZhE(n0:Nat)(W:World)(v:Value)(s:Aq)(pq:PQ)(es:List PX):Prop:=∃sb x wb qv nv S,v= .iface 211 (vU sb)/\Eg W sb x s (some wb) false/\W.heap[wb]? =some (.cells #[qv,nv] 459)/\Gs W nv es/\AX W pq qv S/\sb∉S/\n0<=sb/\∀g∈S,n0<=g
theorem ZhE.below{v}{s}{pq}(h:ZhE n0 W v s pq es)(hB:vV W W'):ZhE n0 W' v s pq es:=by
 obtain⟨sb,x,wb,qv,nv,S,e,q1,q2,q3,q4,q5,q6,q7⟩:=h;exact⟨sb,x,wb,qv,nv,S,e,q1.same (KT.vZ hB) iQ,xq hB q2,q3.same (KT.vZ hB),q4.below hB,q5,q6,q7⟩
def ZUQ{w:World}{v:RQ}{q}{st}{x}{s}(hn:v.n0=w.heap.size)(wH:vV w w3)(hB:vV w3 W)(hb:∃cu,W.heap[v.b]? =some (.cells cu 259))(yE:w.heap.size<=v.b)(h:Zbl (Rp v q es st) W v.b x s (some v.w) W'):vV w W'/\YK w3 W':=by
 obtain⟨W1,W2,h1,h2,h3,_,h5⟩:=h;have h3:Wn v.n0 v.S v.b W1.heap.size W1 W2:=h3;have xX:=wH.trans (hB.mono wH.size);obtain⟨cb,hb⟩:=hb;refine⟨⟨h5.os.trans (h3.os.trans (h1.os.trans xX.os)),h5.tape.trans (h3.tape.trans (h1.tape.trans xX.tape)),h5.output.trans (h3.output.trans (h1.output.trans xX.output)),om xX.size (om h1.size (om h3.size h5.size)),λg hg=>?_⟩,λg cu e=>?_⟩
 ·have hgW:=oU hg xX.size;obtain⟨ob,yX⟩:∃ob,w.heap[g]? =some ob:=⟨_,rz hg⟩;have e1:=(xX.block g hg).trans yX;have e2:=(h1.block g hgW ah).trans e1;have e3:=h3.low g ob (wo e2) Z e2;exact(xq h5 e3).trans yX.symm
 ·have e0:=xq hB e;have e2:=(h1.block g (wo e0) (by simp;intro e4;subst e4;rw[e0]at hb;cases hb)).trans e0;have e3:=h3.cells g cu _ (wo e2) e2 O (λh=>absurd h O);exact xq h5 e3
def ZRo(pd pq pl:Nat)(Db)(M:Nat)(s:vS)(w:World)(R)(wu:List vS)(bg)(db)(l:List RW)(t:Tr)(n)(q:WQ)(hd:w.heap[pd]? =some (.cells #[vU Db] 33))(hm:w.cell? ⟨Db,0,none⟩=some (.map (some M)))(hq:w.heap[pq]? =some (.cells #[.string ⟨s.toArray⟩] 9))(hl:w.heap[pl]? =some (.cells #[.slice none 0 0] 32))(hs:s.length<=90000)(hE:Lh w)(Fg:I5 w)(hD:JV w M db)(h1:Ic s= .ok l)(h2:vW (PK.P query) (l.map wI)=some [])(h3:deep l=false)(h4:wM n (PT.P query) l=some (t, []))(h5:IW t=some q)(h6:ZlV q)(Ch:0<wu.length)(AZ:Zd5 db q R wu bg):
  Calls prog 19 #[vU pd,vU pq,vU pl] w λe w2=>J4 R w e w2\/∃r,e= .returned (vU r)/\vV w w2/\R= .ok (wu,zw bg)/\Jz w2 r wu (zw bg):=by
 refine Zl3 pd pq pl Db M s w R wu bg (λW v=>Zd6 W q v) (λW v=>∃(r:Aq) (met:Nat) (pq:PQ) (es:List PX),Zr6 r pq es bg met/\TA wu bg met R/\ZhE w.heap.size W v r pq es) hd hm hq hl
  (ZAo s w hs hE Fg R l t n h1 h2 h3 h4 _ (λW Pb n0 x hR=>ZUX t x q hR h5)) (λw1 n y wE hT=>?_) (λa c v hT hB=>hT.below hB) (λa c v ⟨r,met,pq,es,k1,k2,k3⟩ hB=>⟨r,met,pq,es,k1,k2,k3.below hB⟩) (λw3 n3 y3 wH ⟨r,met,pq,es,k1,k2,k3⟩=>?_) Ch
 ·obtain⟨ia,ic,sg,Bg,ga,zx,wv,e,t1,t2,t3,t4,t5⟩:=hT;rw[e];refine(ZFn w1 M db q.d q.vY ia ic q.ps sg Bg q.gs ga zx q.c wv q.hv (hD.below wE) t1 h6.il h6.iok t2 h6.pl h6.pok t3 h6.gl h6.gok h6.hv t4 h6.c t5 h6.sz h6.gr).mono ?_;rintro e w3 (⟨hn,ht⟩|⟨cs,hn,ht⟩|⟨cs,v,tv,hn,rfl,hR,wD,wH⟩)
  ·change (XZ db q).map _=none at hn;cases AZ with
   |scope h=>exact .inl (ZAL wE ht)
   |type r h _=>rw[h]at hn;cases hn
   |run r met xs p pq es cl' h _ _ _ _ _=>rw[h]at hn;cases hn
  ·change (XZ db q).map _=some _ at hn;cases AZ with
   |scope h=>rw[h]at hn;cases hn
   |type r h _=>exact .inl (ZAK wE ht)
   |run r met xs p pq es cl' h h' _ _ _ _=>rw[h]at hn;have e2:=(qJ (oN hn)).2;rw[h']at e2;cases e2
  ·change (XZ db q).map _=some _ at hn;cases AZ with
   |scope h=>rw[h]at hn;cases hn
   |type r h h'=>rw[h]at hn;have e2:=(qJ (oN hn)).2;rw[h']at e2;cases e2
   |run r met xs p pq es cl' h h' hx htc he hf=>
    rw[h]at hn;have e1:=(qJ (oN hn)).1;subst e1;obtain⟨sb,x,wb,qv,nv,S,rfl,q1,q2,q3,q4,q5,q6,q7⟩:=hR r h xs p pq es cl' hx htc;refine .inr ⟨_,_,tv,rfl,wE.trans (wH.mono wE.size),⟨r.1,met,pq,es,he,hf,sb,x,wb,qv,nv,S,rfl,q1,q2,q3,q4,q5,om wE.size q6,λg hg=>om wE.size (q7 g hg)⟩,?_⟩;rw[pY];exact Zax wD wE.size
 ·refine(ZzK w3 _ met (λbb W=>vV w W/\YK w3 W/\CV W bb bg) ⟨_,_,rfl⟩ (λW' rr k hB' hN hr hk=>?_)).mono (λe w4 he=>TA.end_ k2 (λbb W h=>h) he);obtain⟨sb,x,wb,qv,nv,S,e,q1,q2,q3,q4,q5,q6,q7⟩:=k3.below hB';cases e;obtain⟨e1,e2,st,ts,e3,e4,e5,e6⟩:=k1;have hbS:∃cu,W'.heap[sb]? =some (.cells cu 259):=by obtain⟨_,qq,ev,hb,_⟩:=q1;exact⟨_,hb⟩
  have xX:=wH.trans (hB'.mono wH.size);refine(ZRp W' ⟨w.heap.size,rr,wb,sb,qv,nv,S⟩ pq es x r false st ts bg met q1 ?_ e1 e2 e4 e5 e6).mono ?_
  ·rw[e3];obtain⟨n1,c,n2⟩:=hN;have C8:=wH.size;exact⟨.inl ⟨k,⟨om C8 hr,om C8 hk⟩,rfl,rfl,n1,c,n2⟩,q2,q3,q4,hbS,q5,xX.size,q7⟩
  ·rintro e W2 ⟨bb,rfl,Lx,ZN⟩;obtain⟨p1,p2⟩:=ZUQ rfl wH hB' hbS q6 ZN;exact⟨bb,rfl,p1,p2,Lx⟩
end
end Go.Proofs.YtncnkiabjhhclaaGreatDoor
