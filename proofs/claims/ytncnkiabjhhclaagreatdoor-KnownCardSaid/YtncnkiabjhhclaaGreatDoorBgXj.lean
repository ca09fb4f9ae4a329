import Derived.Test.YtncnkiabjhhclaaGreatDoorBgJa28
set_option maxRecDepth 100000
set_option maxHeartbeats 8000000
set_option linter.all false
namespace Go.Proofs.YtncnkiabjhhclaaGreatDoor
open Go.Proofs.Tryz
open Go.RowKit
def Tryz.ZMu:(prog.info? 402).map (λi=>(i.zero,i.size,i.bytes))=some (some (.agg #[.string ⟨#[]⟩,.nilFunc]),2,24):=by kernel_rfl
def ZFv(W0 W)(C M b)(e)(cl)(hC:yL W0 C M cl W)(hP:yS W0 W b e):Calls prog 277 #[vU C,.nilIface,vU b] W (Oy W0 W C M b e (some (.lit (.int 1),1,e,cl))):=by
 have HL:Hid (∀w,Calls prog 214 #[xe (.int 1)] w (YO w (.lit (.int 1)))):=λw=>ZpF w _;unfold xe at HL;have HC:=vR hC;have HP:=vR hP;clear hC hP;unfold vU;go_enter func277,ntmps277;go_wp2_with fail;refine(HL.out _).mono ?_;rintro en w1 ⟨f,rfl,hf,hB⟩;obtain⟨K,cap,rfl,_⟩:=hf.func;go_wp2_with fail;go_ret2;exact .inr ⟨_,_,_,_,K,cap,rfl,rfl,hf,HP.out.below hB,HC.out.below hB,CF.vZ hB,λ_=>KT.vZ hB⟩
def Z0m{p:Prop}(h:p:=by
 have xM:=vR wV;obtain⟨b',rfl,_⟩:=wV;clear wO;go_wp2;exact⟨rfl,.inl ⟨yD.out,xM.out⟩⟩):p:=h
def ZFu(x)(hx:Na x)(W0 W)(C M b)(e)(cl)(hC:yL W0 C M cl W)(hP:yS W0 W b e)(hr:room e+CS x<=400)(hk:Gp x):Calls prog 277 #[vU C,xV x,vU b] W (Oy W0 W C M b e (zo x e cl)):=by
 have BC:=hx W0 W C M b e cl hC hP hr hk;obtain⟨xn,xy,hxv⟩:=Gq x;rw[hxv]at BC ⊢;generalize zo x e cl=res at *;unfold vU at *;clear hx hC hP hr hk hxv;go_enter func277,ntmps277;go_wp2_with fail;refine BC.mono ?_;rintro en w1 (⟨wO,wV⟩|⟨p,t,e',cl',K,cap,xz,rfl,hf,wP,zG,yQ,hG1⟩)
 ·have yD:=vR wO;exact Z0m
 have HE:Hid (Oy W0 W C M b e res (.returned (.tuple #[.func (.func K) #[] cap,.int .i64 (t:Nat)])) w1):=.inr ⟨p,t,e',cl',K,cap,xz,rfl,hf,wP,zG,yQ,hG1⟩;clear xz hf wP zG yQ hG1 BC;go_wp2_with fail;go_ret2;exact HE.out
def Ztq(W0 W)(C b)(sv av)(n:vS)(v)(hv:v= .nilIface\/∃n y,v= .iface n y)(x8:vV W0 W)(ho:W.heap[b]? =some (.cells #[sv,av,.pointer none] 244)):Calls prog 220 #[vU C,.agg #[.string ⟨n.toArray⟩,v],vU b] W λe W'=>Gx W0 e W':=by
 have zi:=(wo ho);have c2:=KG ho;unfold vU;rcases hv with rfl|⟨n,y,rfl⟩;all_goals
  go_enter func220,ntmps220;go_wp2_with fail;refine(Ul _).mono ?_;rintro e w' wV;have xM:=vR (wV.from (x8.trans (((nW _ W).alloc (nV _) _).mono x8.size)));obtain⟨b',rfl,_⟩:=wV;go_wp2;exact⟨rfl,xM.out⟩
def ZOG{made:List (vS×PX)}{fs:List Value}(h:fs.length=made.length)(n)(p)(f):Og (made++ [(n,p)]) (fs++ [f])=Og made fs++ [.string ⟨n.toArray⟩,f]:=by
 unfold Og;rw[ug h.symm,rQ];try rfl
def Ztp(n)(v)(hv:v= .nilIface\/∃n y,v= .iface n y)(W0 W)(C M b)(e)(cl)(g:List Nat×List (vS×PX))(hg:e.xB=some g)(hC:yL W0 C M cl W)(hP:yS W0 W b e)(hr:room e<400)(r0)(Xl:∀rb w',vV W w'->yS W0 w' rb {e with xB:=none}->Calls prog 277 #[vU C,v,vU rb] w' (Oy W0 w' C M rb {e with xB:=none} r0))(LM:∀p t e' c,r0=some (p,t,e',c)->e'.xB=none/\e'.xs=e.xs):
  Calls prog 220 #[vU C,.agg #[.string ⟨n.toArray⟩,v],vU b] W (Oy W0 W C M b e (r0.map (Zea n g))):=by
 obtain⟨keys,made⟩:=g;obtain⟨sv,wv,gv,ho,CL,wQ,hout,ZwC⟩:=id hP;rw[hg]at ZwC;obtain⟨G,kv,mv,rb,fs,rfl,hG,LG,zl,U2,hG0,Hu,Jf,wD,Bo⟩:=ZwC;have Fv:made.length<400:=by simp only[room,hg]at hr;omega
 have HGN:=vR hg;have hx:∀w' g ob,vV W w'->W.heap[g]? =some ob->w'.heap[g]? =some ob:=λw' g ob hb e=>xq hb e;have HCT:=vR (λw' (hb:vV W w')=>Xl rb w' hb ⟨sv,wv,.pointer none,hx _ _ _ hb U2,CL.cf (CF.vZ hb),wQ,hout.cf (CF.vZ hb) (KT.vZ hb),rfl⟩);obtain⟨c0,c1,c2⟩:=xh ho;obtain⟨g0,g1,g2⟩:=xh hG;have zi:=(wo ho);have hGl:=(wo hG);unfold vU at *;have hvc:v.cells= #[v]:=by rcases hv with rfl|⟨_,_,rfl⟩<;>rfl
 clear hv;have HR0:=vR LM;have HP:=vR hP;have HC:=vR hC;have HH:Hid (I6 W sv e.xs/\Ni W kv keys/\∀i (h:i<made.length) (h':i<fs.length),zz W made[i].2 fs[i]):=⟨CL,LG,Bo⟩;clear LM Xl hC CL LG Bo hout hP;go_enter func220,ntmps220;go_wp2_with fail;refine(Um _).mono ?_;rintro en w' ⟨rfl,rfl⟩;generalize yn:W.alloc (.cells #[.string ⟨n.toArray⟩,v] 451)=Wp;have xA:vV W Wp:=by rw[<-yn];exact(nW _ W).alloc (nV _) _
 have yX:Wp.heap[W.heap.size]? =some (.cells #[.string ⟨n.toArray⟩,v] 451):=by rw[<-yn];exact xI W _
 clear yn;obtain⟨p0,p1,_,_⟩:=wS yX;have c2p:=wT xA zi c2;have g1p:=wT xA hGl g1;go_wp2_with fail;refine vM (S:=λw'=>w'.cell? ⟨W.heap.size,1,none⟩=some v/\w'.cell? ⟨b,2,none⟩=some (.pointer (some ⟨G,0,none⟩))/\w'.cell? ⟨G,1,none⟩=some (.pointer (some ⟨rb,0,none⟩))) af ⟨by exact p1,by exact c2p,by exact g1p⟩ (λwL=>?_);refine tk 0 ?_;refine tk 1 ?_;refine tk 2 ?_;refine tk 3 ?_;refine tk 4 ?_;refine tk 5 ?_;refine tk 6 ?_;refine tk 7 ?_;refine tk 8 ?_;refine tk 9 ?_;refine og (rs:= [10]) af ae (nZ rfl (λK hK=>?_) oh);go_simp;refine(HCT.out _ (yF xA 1)).mono ?_;rintro en w1 (⟨wO,wV⟩|⟨p,t,e1,Ac,Kf,cp,xz,rfl,hf,wP,zG,yQ,hG1⟩)
 ·have yD:Hid (r0.map (Zea n (keys,made))=none):=by show _=_;rw[wO];try rfl
  exact Z0m
 have HKG:=vR (hG1 rfl);have HR:Hid (r0.map (Zea n (keys,made))=some (.made made.length,Ug n t,{e1 with xB:=some (keys,made++ [(n,p)])},Uf n t Ac)):=by show _=_;rw[xz];try rfl
 have HE1:=vR (HR0.out _ _ _ _ xz);have yG:=yQ.cells dJ O;have yz:=yQ.cells (hx _ _ _ (yF xA 1) ho) O;have Znd:=HKG.out _ _ _ O (hx _ _ _ (yF xA 1) hG);clear xz hG1;refine hK.out _ _ ⟨by exact(wS yG).2.1,by exact(xh yz).2.2,by exact(xh Znd).2.1⟩ (λwL=>?_);clear hK K;refine tk 11 ?_;refine tk 12 ?_;refine tk 13 ?_;refine tk 14 ?_;refine tk 15 ?_;refine oP af ?_ _;have WY:=(CF.vZ (yF xA 1)).trans yQ;have hKW:=(KT.vZ (yF xA 1)).tc HKG.out;have V3:=vR hf;have HP1:=vR wP;have Nf:=vR zG;obtain⟨r0',r1,_,_⟩:=wS yG;clear hf wP zG c2p g1p p0 p1 yQ;go_upto_block 0 with fail
 go_cut [8,9] (λov kv' wz=>ov= .func (.func Kf) #[] cp/\kv'= .int .i64 (Ug n t:Nat)/\Ox [C] w1 wz/\Hid (yL W0 C M (Uf n t Ac) wz));case first=>
  by_cases En:n= [99,111,117,110,116]
  ·have HT:Hid (Ug n t=1):=by show _=_;simp[Ug,En]
   have HU:Hid (Uf n t Ac=Ac):=by show _=_;rw[En];try rfl
   subst En;go_wp2_with fail;go_meet;case rel=>exact⟨rfl,by rw[HT.out];try rfl,Ox.refl _ _,by rw[HU.out];exact Nf.out⟩
  ·have yz:(n== [99,111,117,110,116])=false:=by simpa using En
   by_cases Ay:n= [115,117,109]
   ·have HT:Hid (Ug n t=1):=by show _=_;simp[Ug,Ay]
    have HU:Hid (Uf n t Ac=(Ac||Cz t 1)):=by show _=_;simp[Uf,Ay]
    subst Ay;clear En;go_wp2_with fail;refine(ZhV W0 C M _ t 1 _ Nf.out).mono ?_;rintro en w2 ⟨rfl,wY,Aa⟩;go_wp2_with fail;go_meet;case rel=>exact⟨rfl,by rw[HT.out];try rfl,wY,by rw[HU.out];exact Aa⟩
   ·have Af:(n== [115,117,109])=false:=by simpa using Ay
    have HT:Hid (Ug n t=t):=by show _=_;simp[Ug,En,Ay]
    have HU:Hid (Uf n t Ac=Ac):=by show _=_;simp[Uf,Ay]
    clear En Ay;go_wp2_with fail;go_meet;case rel=>exact⟨rfl,by rw[HT.out],Ox.refl _ _,by rw[HU.out];exact Nf.out⟩
 case rest=>
  obtain⟨rfl,rfl,hXz,hCz⟩:=hcut;obtain⟨wz,WM⟩:∃wz,wz=wc:=⟨_,rfl⟩;subst WM;obtain⟨hFz,Zvc,hKz⟩:=CF.ck hXz Nf.out;have O0:=hFz.cells yz O;have hGz:=hKz _ _ _ O Znd;have hoz:=hFz.cells yG O;have ZfK:=MZ (MZ wD hKW O) hKz O;obtain⟨ma,mc,rfl⟩:=yN ZfK;have Mc:=vR (Ib ZfK hGz O);have HNB:=vR (Ib ZfK O0 O);obtain⟨y0,y1,y2⟩:=xh O0;obtain⟨x0,x1,x2⟩:=xh hGz;obtain⟨p0z,p1z,_,_⟩:=wS hoz;obtain⟨i1,Xo,UO,ZT,hj3⟩:=oM Tryz.ZMu;have ZJf:=(wo hGz);have ZJZ:=(wo O0);have HB:=vR O0;have HG:=vR hGz;have hCs:=hCz.out.low.size;have HFN:=vR (V3.out.same hFz.BV);have HWZ:Hid (CF W wz/\KT Cu W wz):=⟨WY.trans hFz,hKW.tc hKz⟩;have HPZ:Hid (∀M7 wv',wz.heap[rb]? =some (.cells #[M7,wv',.pointer none] 244)->Jv W0 wz wv' e1.out):=λM7 wv' hrz=>by
   obtain⟨s2,w2,g2,k1,k2,k3,k4,k5⟩:=HP1.out.cf hFz Zvc hKz;rw[hrz]at k1;cases k1;exact k4
  have Zxk:=WY.cells U2 O;have HRB:=vR (hFz.cells Zxk O);clear O0 hGz c0 c1 c2 g0 g1 g2 yz Znd yG Zxk Zvc;go_wp2_with fail;go_region_law (refine qz _ rfl _ _ 250 rfl W0.heap.size 402 i1 (.agg #[.string ⟨#[]⟩,.nilFunc]) 2 24 underlying250 Xo UO ZT hj3 rfl O (.slice ma made.length mc) made.length (Og made fs) rfl (by exact ZfK.alloc _) ⟨wz.heap.size,0,none⟩ 1 1 [.string ⟨n.toArray⟩,.func (.func Kf) #[] cp] rfl rfl gF au Z aj Z ah _ rfl ?_;intro g2 yZ w7 Dv zh ZW ZY;have hG7:=(zh.block G ah Mc.out).trans ((ow _ _ _ (by exact ZJf)).trans (by exact HG.out));have GG:=(zh.block b ah HNB.out).trans ((ow _ _ _ (by exact ZJZ)).trans (by exact HB.out));obtain⟨v0,v1,v2⟩:=xh hG7;obtain⟨u0,u1,u2⟩:=xh GG;have vf:w7.frozen? ⟨G,2,none⟩=false:=(by simp[World.frozen?,hG7]));all_goals
   have hbG:b≠G:=λe=>by rw[e,hG7]at GG;cases GG
   have Ki:(wz.alloc (.cells #[.string ⟨n.toArray⟩,.func (.func Kf) #[] cp] 402)).grownBy w7 (Value.slice ma made.length mc).ownBlock:=⟨zh.os,zh.tape,zh.output,zh.size,zh.block⟩;have Gz:=Zih (G:=G) (k:=2) (u:=.slice (some ⟨g2,0,none⟩) (made.length+1) yZ) ZfK Ki;have hG8:=FH (k:=2) (u:=.slice (some ⟨g2,0,none⟩) (made.length+1) yZ) hG7;have NF:=EO (b:=G) (k:=2) (u:=.slice (some ⟨g2,0,none⟩) (made.length+1) yZ) GG hbG;have Ez:=Vv (k:=2) (u:=.slice (some ⟨g2,0,none⟩) (made.length+1) yZ) Dv hG7 O;have QA:=Gz.cf HG.out O O;have ZwR:=Gz.kt (ts:=ZgW) HG.out O O;have ZvV:=Gz.bl hG0 hCs;generalize w7.setCell ⟨G,2,none⟩ (.slice (some ⟨g2,0,none⟩) (made.length+1) yZ)=w8 at *;obtain⟨s0,s1,s2⟩:=xh NF;have t2:=KG hG8;have HC8:Hid (yL W0 C M (Uf n t Ac) w8):=⟨hCz.out.low.trans ZvV,hCz.out.hC,Gz.wJ _ _ hCz.out.obj (λe=>by have h1:=hCz.out.obj;rw[e,HG.out]at h1;cases h1) (λ_ _ e=>ai)⟩;have HP8:Hid (yS W0 w8 b {e1 with xB:=some (keys,made++ [(n,p)])}):=by
    have ZG:=HWZ.out.1.trans QA;have ZLB:=QA.cells HRB.out O;refine⟨sv,wv,vU G,NF,?_,?_,(HPZ.out _ _ HRB.out).cf QA ZwR,G,kv,.slice (some ⟨g2,0,none⟩) (made.length+1) yZ,rb,fs++ [.func (.func Kf) #[] cp],rfl,by unfold vU;simpa using hG8,HH.out.2.1.cf ZG,zl,ZLB,hG0,ah,by simp[Jf],?_,?_⟩
    ·show I6 w8 sv e1.xs;rw[HE1.out.2];exact HH.out.1.cf ZG
    ·show Ml W0 e1.xs;rw[HE1.out.2];exact wQ
    ·rw[ZOG Jf,o6,List.length_singleton];exact Ez
    ·intro i h h';by_cases hi:i<made.length
     ·rw[pJ hi,pJ Z];exact(HH.out.2.2 i hi Z).same ZG.BV
     ·have QF:i=made.length:=by simp at h;omega
      subst QF;have h1:(made++ [(n,p)])[made.length]'h=(n,p):=ae
      have h2:(fs++ [Value.func (.func Kf) #[] cp])[made.length]'h'= .func (.func Kf) #[] cp:=by
       rw[qW Z];simp
      rw[h1,h2];exact HFN.out.same QA.BV
   have ZBP:=vR (HWZ.out.1.trans QA);clear hG8 NF Ez QA ZwR ZvV Gz Ki ZW ZY zh Dv hG7 GG HB HG hg;go_wp2_with fail;refine(ZQu _ made.length Z).mono ?_;rintro en w9 ⟨f,rfl,hf9,Fe⟩;obtain⟨K9,ZFT,rfl,_⟩:=hf9.func;have HF9:=vR hf9;clear hf9;go_wp2_with fail;go_ret2;exact .inr ⟨_,_,_,_,K9,ZFT,HR.out,rfl,HF9.out,HP8.out.below Fe,HC8.out.below Fe,ZBP.out.trans (CF.vZ Fe),λh=>by have hgn:=HGN.out;rw[h]at hgn;cases hgn⟩
end Go.Proofs.YtncnkiabjhhclaaGreatDoor
