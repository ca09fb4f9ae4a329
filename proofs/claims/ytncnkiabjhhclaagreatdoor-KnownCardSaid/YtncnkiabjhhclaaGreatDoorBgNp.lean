import Derived.Test.YtncnkiabjhhclaaGreatDoorBgNo
set_option maxRecDepth 100000
set_option maxHeartbeats 8000000
set_option linter.all false
namespace Go.Proofs.YtncnkiabjhhclaaGreatDoor
open Go.Proofs.Tryz
open Go.RowKit
def ZhC(M:Md)(W:World)(b:Nat)(x:BL)(s:Aq)(wb:Option Nat)(up:List xE)(q:Option Addr)(nt:TypeId)(ny:Value)(sp:Bool)(w2:World):Prop:=
 (∃W1,Ox [b] W W1/\Eg W1 b x s wb true/\M.X W1.heap.size W1 w2/\M.J (zJ s).length w2)/\Eg w2 b x s wb true/\Ao w2 (.iface nt ny) up (.pointer q)/\w2.heap[W.heap.size]? =some (.cells #[.slice none 0 0,.slice none 0 0,.pointer q,.iface nt ny,.bool sp] 218)
def Zbl(M:Md)(W:World)(b:Nat)(x:BL)(s:Aq)(wb:Option Nat)(W':World):Prop:=∃W1 W2,Ox [b] W W1/\Eg W1 b x s wb true/\M.X W1.heap.size W1 W2/\M.J (zJ s).length W2/\vV W2 W'
def ZhC.fin{M}{W}{b}{x}{s}{wb}{up}{q}{nt}{ny}{sp}{w2 w'}(h:ZhC M W b x s wb up q nt ny sp w2)(hB:vV w2 w'):Zbl M W b x s wb w':=by
 obtain⟨⟨W1,h1,h2,h3,h4⟩,_⟩:=h;exact⟨W1,w2,h1,h2,h3,h4,hB⟩
def ZZ9{p:Prop}(h:p:=by
 clear Bt Hy Mh HIt im HEy FW;go_upto_region 8 with fail
 go_cut [8,7] (λrv mv wz=>∃ba bn bc,rv= .slice ba bn bc/\mv= .int .i64 met/\Hid (FN wz (.slice ba bn bc) rvs/\vV wx wz));case first=>
  go_region_with (first|(go_at_call 128;refine Zlr.out.mono ?_;rintro e w3 ⟨Kr,cr,rfl,y0,y1,y2,y3,y4,hH3⟩)|(go_at_call 127;refine(HIE.out w3 Kr cr hH3).mono ?_;rintro e w4 ⟨ba,bn,bc,rfl,Ff⟩));all_goals
   go_wp2_with fail;go_meet;exact⟨ba,bn,bc,rfl,rfl,Ff⟩
 case rest=>
  obtain⟨ba,bn,bc,rfl,rfl,Ff⟩:=hcut;obtain⟨wz,WM⟩:∃wz,wz=wc:=⟨_,rfl⟩;subst WM;have z0:wz.cell? ⟨b,0,none⟩=some (.bool s.distinct):=(Ff.out.2.cell (p:=⟨b,0,none⟩) Ze9).trans (by simp[World.cell?,HSb.out,BL.cells]);by_cases hmt:met=0
  ·have Dm:((met:Int)==0)=true:=by simp[hmt]
   have MN:((met:Int) != 0)=false:=by simp[hmt]
   have Ng:=vR hmt;clear hmt;have HN:=vR (Zeg wz _ rvs Ff.out.1 iok);unfold vU at HN;go_wp2_with fail;refine HN.out.mono ?_;rintro e w5 ⟨b5,x5,bv5,bs5,rv5,tv5,vs5,rfl,CJ⟩;have yl:=CJ.low;have ER:=vR CJ.read;have z5:=wT yl (show b<wz.heap.size by have:=Ff.out.2.size;omega) z0;clear CJ;cases NI:s.distinct with
   |false=>
    rw[NI]at z5;have Yr:=vR NI;clear NI;go_wp2_with fail;go_ret2;refine⟨b5,by rw[Ng.out];rfl,?_,TK.out.fin (Ff.out.2.trans (yl.mono Ff.out.2.size))⟩;rw[Yp.out,nU (by simp[Ng.out]),Yr.out];exact ER.out
   |true=>
    rw[NI]at z5;have Yr:=vR NI;clear NI;have HO:=vR (ZsS w5 b5 _ ER.out Zf6);unfold vU at HO;go_wp2_with fail;refine HO.out.mono ?_;rintro e w6 ⟨b6,rfl,FV,Gf⟩;go_wp2_with fail;go_ret2;refine⟨b6,by rw[Ng.out];rfl,?_,TK.out.fin ((Ff.out.2.trans (yl.mono Ff.out.2.size)).trans (FV.mono (om Ff.out.2.size yl.size)))⟩;rw[Yp.out,nU (by simp[Ng.out]),Yr.out];exact Gf
  ·have Dm:((met:Int)==0)=false:=by rw[pQ];omega
   have MN:((met:Int) != 0)=true:=by simp;omega
   have Ng:=vR hmt;clear hmt;go_wp2_with fail;refine(Zbw _).mono ?_;rintro e w9 ⟨bb,rfl,Ey,Fe⟩;go_wp2_with fail;go_ret2;refine⟨bb,rfl,?_,TK.out.fin (Ff.out.2.trans (Fe.mono Ff.out.2.size))⟩;rw[Yp.out,nY Ng.out];exact Ey):p:=h
def Z0a{p:Prop}(h:p:=by
 intro w3 Kr cr hH;have Zf:=Lm.trans (hH.out.2.mono hyl);refine(Zx4 sp hH.out.1 i64 im (HEy.out.same (KT.vZ hH.out.2)) (HUp.out.same (KT.vZ Zf).BV)).mono ?_;rintro e w4 ⟨rv,rfl,Zaf,xw⟩;rw[Bt]at Zaf;rw[<-Hy];have HR4:=vR Zaf;obtain⟨ba,bc,rfl,_⟩:=Zaf;exact⟨_,_,_,rfl,HR4.out,Zf.trans (xw.mono Zf.size)⟩):p:=h
def Zz7(M:Md)(W)(b)(x)(s)(wb)(d)(up)(q:Option Addr)(nt:TypeId)(ny:Value)(sp:Bool)(ts ms:List Nat)(bg:xk)(met:Nat)(h:Eg W b x s wb d)(ok:T9 s.yu)(zu:Ao W (.iface nt ny) up (.pointer q))(Fa:(zJ s).length<=64)(Hu:ms.length=(zJ s).length)(zW:ts.length=(zJ s).length)(hJ:∀W1,Ox [b] W W1->Eg W1 b x s wb true->M.J 0 W1)(hbk:∀a c,M.X a.heap.size a c->b<a.heap.size->c.heap[b]? =a.heap[b]?)(BC:∀W1 K cap,Ox [b] W W1->Eg W1 b x s wb true->x.wh= .func (.func K) #[] cap->∀(i:Nat) (hi:i<(zJ s).length) (W':World) (fp:Value),M.J i W'->Ao W' (.iface nt ny) ((zJ s)[i]::up) fp->M.X W1.heap.size W1 W'->Calls prog K (#[fp]++cap) W' λe W2=>e= .returned (.tuple #[.int .i64 (ts.getD i 0),.int .i64 (ms.getD i 0)])/\M.X W'.heap.size W' W2/\M.J (i+1) W2)(hr:(xG ms≠0/\bg={}/\met=xG ms)\/(xG ms=0/\Nl s up (DT (zJ s) ts) bg met))(hL:∀t∈ [396,47,218],t∈M.L:=by first|assumption|(intro t h;revert t;decide)):
  Calls prog 80 #[vU b,.agg #[.slice none 0 0,.slice none 0 0,.pointer q,.iface nt ny,.bool sp]] W λe W'=>∃bb,e= .returned (.tuple #[vU bb,.int .i64 met])/\CV W' bb bg/\Zbl M W b x s wb W':=by
 obtain⟨Kw,Zer,hwf,hEw⟩:=h.1.wh.func;have hpe:(zJ s).length=(Ep s.yu).length:=by simp[zJ]
 have Br:(Ep s.yu).length<=1000:=Z
 clear hpe;have zi:b<W.heap.size:=by obtain⟨_,_,_,hb,_⟩:=h;exact(wo hb)
 have UJ:∃cu,W.heap[b]? =some (.cells cu 259):=by obtain⟨_,_,_,hb,_⟩:=h;exact⟨_,hb⟩
 have HEN:=vR (λW0 (hB:vV W W0)=>ZO0 W0 b x s wb d (h.same (KT.vZ hB) (hB.block b zi)) ok Br);have HUP:=vR zu;have HJ:=vR hJ;have HC:=vR BC;have HR:=vR hr;clear zu hJ BC hr ok;unfold vU at *;obtain⟨cub,UJ⟩:=UJ;have zA:vV W (W.alloc (.cells #[.slice none 0 0,.slice none 0 0,.pointer q,.iface nt ny,.bool sp] 218)).drew:=FR ((nW _ _).alloc (nV _) _);have HE2:Hid (Calls prog 125 #[.pointer (some ⟨b,0,none⟩)] (W.alloc (.cells #[.slice none 0 0,.slice none 0 0,.pointer q,.iface nt ny,.bool sp] 218)).drew λe w1=>∃ea en ec,e= .returned (.slice ea en ec)/\w1.cell? ⟨W.heap.size,0,none⟩=some (.slice none 0 0)/\w1.cell? ⟨W.heap.size,1,none⟩=some (.slice none 0 0)/\w1.cell? ⟨W.heap.size,2,none⟩=some (.pointer q)/\w1.cell? ⟨W.heap.size,3,none⟩=some (.iface nt ny)/\w1.cell? ⟨W.heap.size,4,none⟩=some (.bool sp)/\w1.cell? ⟨b,2,none⟩=some (.func (.func Kw) #[] Zer)/\Hid (Cq w1 (.slice ea en ec) (zJ s)/\Eg w1 b x s wb true/\Ox [b] W w1/\w1.heap[W.heap.size]? =some (.cells #[.slice none 0 0,.slice none 0 0,.pointer q,.iface nt ny,.bool sp] 218))):=by
  show Calls _ _ _ _ _;refine(HEN.out _ zA).mono ?_;rintro e w1 ⟨ev,rfl,AZ,JL,xu⟩;have Dl:=(xu.block _ (by show W.heap.size<(W.alloc _).heap.size;simp) ah).trans (xI W _);have HS:=vR JL;have HV:=vR AZ;obtain⟨_,qq,eev,yz,_⟩:=JL;obtain⟨ea,ec,rfl,_⟩:=AZ;refine⟨ea,_,ec,rfl,?_,?_,?_,?_,?_,?_,HV.out,HS.out,(Ox.vZ zA).trans xu,Dl⟩
  ·simp[World.cell?,Dl]
  ·simp[World.cell?,Dl]
  ·simp[World.cell?,Dl]
  ·simp[World.cell?,Dl]
  ·simp[World.cell?,Dl]
  ·simp[World.cell?,yz,BL.cells,hwf]
 have HK:Hid (∀(w1:World) (ea:Option Addr) (en ec:Nat),Hid (Cq w1 (.slice ea en ec) (zJ s)/\Eg w1 b x s wb true/\Ox [b] W w1/\w1.heap[W.heap.size]? =some (.cells #[.slice none 0 0,.slice none 0 0,.pointer q,.iface nt ny,.bool sp] 218))->Calls prog 124 #[.agg #[.slice none 0 0,.slice none 0 0,.pointer q,.iface nt ny,.bool sp],.slice ea en ec,.func (.func Kw) #[] Zer] w1 λe w2=>∃ra rn rc,e= .returned (.tuple #[.slice ra rn rc,.int .i64 (xG ms)])/\Hid (Cq w2 (.slice ra rn rc) (DT (zJ s) ts)/\ZhC M W b x s wb up q nt ny sp w2)):=by
  intro w1 ea en ec hH;obtain⟨he,hs,xu,Dl⟩:=hH.out;have ZxD:=HUP.out.same (Zkb xu UJ).BV;refine(Zt6 M w1 (zJ s) _ q nt ny up sp Kw Zer ts ms Fa Hu zW hEw he ZxD (HJ.out w1 xu hs) (HC.out w1 Kw Zer xu hs hwf)).mono ?_;rintro e w2 ⟨rv,rfl,Bt,hX,GA⟩;have Mg:=vR Bt;obtain⟨ra,rc,rfl,_⟩:=Bt;have ZF:b<w1.heap.size:=by have:=xu.size;omega
  exact⟨_,_,_,rfl,Mg.out,⟨w1,xu,hs,hX,GA⟩,hs.same (M.kt hX) (hbk _ _ hX ZF),ZxD.same (M.kt hX).BV,(M.kt hX) _ _ _ O Dl⟩
 have c2:∀ob,(W.alloc ob).cell? ⟨b,2,none⟩=some (.func (.func Kw) #[] Zer):=λob=>(oD W ob ⟨b,2,none⟩ zi).trans (by obtain⟨_,_,_,hb,_⟩:=h;simp[World.cell?,hb,BL.cells,hwf]);clear HEN HJ HC HUP hbk h UJ;go_enter func80,ntmps80;go_upto_region 1 with fail
 go_cut [6,7] (λlv mv wx=>∃ra rn rc,lv= .slice ra rn rc/\mv= .int .i64 (xG ms)/\Hid (Cq wx (.slice ra rn rc) (DT (zJ s) ts)/\ZhC M W b x s wb up q nt ny sp wx));case first=>
  go_region_with (first|(go_at_call 125;refine HE2.out.mono ?_;rintro e w1 ⟨ea,en,ec,rfl,r0,r1,r2,r3,r4,r5,hH⟩)|(go_at_call 124;refine(HK.out w1 ea en ec hH).mono ?_;rintro e w2 ⟨ra,rn,rc,rfl,hH2⟩));all_goals
   go_wp2_with fail;go_meet;exact⟨ra,rn,rc,rfl,rfl,hH2⟩
 case rest=>
  obtain⟨ra,rn,rc,rfl,rfl,hH2⟩:=hcut;obtain⟨wx,Ll⟩:∃wx,wx=wc:=⟨_,rfl⟩;subst Ll;obtain⟨hEn,Zvh⟩:=hH2.out;have TK:=vR Zvh;obtain⟨_,ZJC,hUp,Sv⟩:=Zvh;clear HE2 HK c2 hH2;obtain⟨Zvq,sq,sev,hSb,_⟩:=ZJC;have Ze9:=(wo hSb);have Znc:=(wo Sv);have HSb:=vR hSb;have HFr:=vR Sv;have HUp:=vR hUp;have YE:=vR Zvq;have v3:wx.cell? ⟨b,3,none⟩=some (.bool s.Nu):=by simp[World.cell?,hSb,BL.cells]
  have r0:=xH Sv;have r1:=zS Sv;have r2:=KG Sv;have r3:=KH Sv;have r4:=Uk Sv;have HEn:=vR hEn;generalize DT (zJ s) ts=L at *;generalize xG ms=m0 at *;clear hSb Sv hUp Zvq hEn;by_cases UU:m0=0
  ·subst UU;cases A7:s.Nu with
   |false=>
    rw[A7]at v3;have xz:RH s up L bg met:=by
     rcases HR.out with⟨h,_⟩|⟨_,h⟩
     ·exact jq
     ·cases h with
      |plain hg h=>exact h
      |ZmP hg=>rw[A7]at hg;cases hg
      |Zn6 hg=>rw[A7]at hg;cases hg
      |full hg=>rw[A7]at hg;cases hg
    have Zls:=vR xz;clear xz A7 HR;have Lm:vV wx wx:=nW _ _;have HEy:=vR HEn.out;obtain⟨rows,i64,im,iok,Zf6,FW,Hy⟩:=Zls.out.eq;rw[<-Hy]at FW;generalize Bt:rows.map (λr=>r.map (·.1))=rvs at iok Zf6 FW;have Yp:=vR FW;have hS:=(Lm.block b Ze9).trans HSb.out;have hF:=(Lm.block W.heap.size Znc).trans HFr.out;have hyl:=Lm.size;have HIt:=vR (YE.out.vY.same (KT.vZ Lm).BV);have Mh:=vR (ZpH wx.drew x.vY s.items (HIt.out.same (KT.vZ (FR (nW _ _))).BV));obtain⟨ita,itc,hit,_⟩:=YE.out.vY;have v7:wx.cell? ⟨b,7,none⟩=some (.slice ita s.items.length itc):=by simp[World.cell?,hS,BL.cells,hit]
    have v0:wx.cell? ⟨b,0,none⟩=some (.bool s.distinct):=by simp[World.cell?,hS,BL.cells]
    have q0:=xH hF;have q1:=zS hF;have q2:=KG hF;have q3:=KH hF;have q4:=Uk hF;rw[hit]at Mh;have Zlr:Hid (Calls prog 128 #[.slice ita s.items.length itc] wx.drew λe w3=>∃Kr cr,e= .returned (.func (.func Kr) #[] cr)/\w3.cell? ⟨W.heap.size,0,none⟩=some (.slice none 0 0)/\w3.cell? ⟨W.heap.size,1,none⟩=some (.slice none 0 0)/\w3.cell? ⟨W.heap.size,2,none⟩=some (.pointer q)/\w3.cell? ⟨W.heap.size,3,none⟩=some (.iface nt ny)/\w3.cell? ⟨W.heap.size,4,none⟩=some (.bool sp)/\Hid (FnR w3 s.items (.func (.func Kr) #[] cr)/\vV wx w3)):=by
     show Calls _ _ _ _ _;refine Mh.out.mono ?_;rintro e w3 ⟨f,rfl,hf,wH⟩;have D6:vV wx w3:=(FR (nW _ _)).trans wH;have JX:=vR hf;obtain⟨rb,rv,rfl,_⟩:=hf;have Jd:W.heap.size<wx.heap.size:=Z
     exact jF
    have HIE:Hid (∀(w3:World) (Kr:FuncId) (cr:Array Value),Hid (FnR w3 s.items (.func (.func Kr) #[] cr)/\vV wx w3)->Calls prog 127 #[.agg #[.slice none 0 0,.slice none 0 0,.pointer q,.iface nt ny,.bool sp],.slice ra rn rc,.func (.func Kr) #[] cr] w3 λe w4=>∃ba bn bc,e= .returned (.tuple #[.slice ba bn bc,.int .i64 met])/\Hid (FN w4 (.slice ba bn bc) rvs/\vV wx w4)):=by
     exact Z0a
    exact ZZ9
   |true=>
    rw[A7]at v3;have xz:Nl s up L bg met:=by
     rcases HR.out with⟨h,_⟩|⟨_,h⟩
     ·exact jq
     ·exact h
    obtain⟨G,m1,hG,hre⟩:=xz.eq A7;have HGR:=vR (ZIF sp HSb.out YE.out HUp.out HEn.out hG);have YF:=vR hre;unfold vU at HGR;clear xz hG hre HR;go_wp2_with fail;refine HGR.out.mono ?_;rintro e w3 ⟨ev3,rfl,Zwm,wH⟩;have ZB1:=vR Zwm;obtain⟨ga,gc,rfl,_⟩:=Zwm;have Xe:=(wH.block b Ze9).trans HSb.out;have Lp:=(wH.block W.heap.size Znc).trans HFr.out;have u3:w3.cell? ⟨b,3,none⟩=some (.bool true):=by simp[World.cell?,Xe,BL.cells,A7]
    by_cases Dm:m1=0
    ·subst Dm;obtain⟨K,m2,hK,Zxl⟩:∃K m2,YL s.Fj up G K m2/\((m2≠0/\bg={}/\met=m2)\/(m2=0/\RH s up K bg met)):=by
      rcases YF.out with⟨h,_⟩|⟨_,h⟩
      ·exact jq
      ·exact h
     obtain⟨Kh,ZtA,hhf,hEh⟩:=YE.out.D8.func;have u6:w3.cell? ⟨b,6,none⟩=some (.func (.func Kh) #[] ZtA):=by simp[World.cell?,Xe,BL.cells,hhf]
     have y0:=xH Lp;have y1:=zS Lp;have y2:=KG Lp;have y3:=KH Lp;have y4:=Uk Lp;have HKH:Hid (Calls prog 124 #[.agg #[.slice none 0 0,.slice none 0 0,.pointer q,.iface nt ny,.bool sp],.slice ga G.length gc,.func (.func Kh) #[] ZtA] w3.drew λe w4=>∃aa an ac,e= .returned (.tuple #[.slice aa an ac,.int .i64 m2])/\Hid (Cq w4 (.slice aa an ac) K/\vV wx w4)):=by
      show Calls _ _ _ _ _;have ME:vV w3 w3.drew:=FR (nW _ _);have Zis:=wH.trans (ME.mono wH.size);have:=ZNa sp (YE.out.D8.same (KT.vZ Zis).BV) hK (ZB1.out.same (KT.vZ ME)) (HUp.out.same (KT.vZ Zis).BV);rw[hhf]at this;refine this.mono ?_;rintro e w4 ⟨rv,rfl,Bt,xw⟩;have HV:=vR Bt;obtain⟨aa,ac,rfl,_⟩:=Bt;exact⟨_,_,_,rfl,HV.out,Zis.trans (xw.mono Zis.size)⟩
     have Zhk:=vR Zxl;clear hK Zxl YF Xe Lp v3 r0 r1 r2 r3 r4;go_upto_region 5 with fail
     go_cut [6,7] (λlv mv w4=>∃aa an ac,lv= .slice aa an ac/\mv= .int .i64 m2/\Hid (Cq w4 (.slice aa an ac) K/\vV wx w4));case first=>
      go_region_with (go_at_call 124;refine HKH.out.mono ?_;rintro e w4 ⟨aa,an,ac,rfl,hH5⟩);all_goals
       go_wp2_with fail;go_meet;exact⟨aa,an,ac,rfl,rfl,hH5⟩
     case rest=>
      obtain⟨aa,an,ac,rfl,rfl,hH5⟩:=hcut;obtain⟨wy,ewy⟩:∃wy,wy=wc:=⟨_,rfl⟩;subst ewy;have Lm:=hH5.out.2;have HEy:=vR hH5.out.1;clear u3 u6 y0 y1 y2 y3 y4 HKH;by_cases MN:m2=0
      ·subst MN;have Zls:Hid (RH s up K bg met):=by
        rcases Zhk.out with⟨h,_⟩|⟨_,h⟩
        ·exact jq
        ·exact h
       clear Zhk;obtain⟨rows,i64,im,iok,Zf6,FW,Hy⟩:=Zls.out.eq;rw[<-Hy]at FW;generalize Bt:rows.map (λr=>r.map (·.1))=rvs at iok Zf6 FW;have Yp:=vR FW;have hS:=(Lm.block b Ze9).trans HSb.out;have hF:=(Lm.block W.heap.size Znc).trans HFr.out;have hyl:=Lm.size;have HIt:=vR (YE.out.vY.same (KT.vZ Lm).BV);have Mh:=vR (ZpH wy.drew x.vY s.items (HIt.out.same (KT.vZ (FR (nW _ _))).BV));obtain⟨ita,itc,hit,_⟩:=YE.out.vY;have v7:wy.cell? ⟨b,7,none⟩=some (.slice ita s.items.length itc):=by simp[World.cell?,hS,BL.cells,hit]
       have v0:wy.cell? ⟨b,0,none⟩=some (.bool s.distinct):=by simp[World.cell?,hS,BL.cells]
       have q0:=xH hF;have q1:=zS hF;have q2:=KG hF;have q3:=KH hF;have q4:=Uk hF;rw[hit]at Mh;have Zlr:Hid (Calls prog 128 #[.slice ita s.items.length itc] wy.drew λe w3=>∃Kr cr,e= .returned (.func (.func Kr) #[] cr)/\w3.cell? ⟨W.heap.size,0,none⟩=some (.slice none 0 0)/\w3.cell? ⟨W.heap.size,1,none⟩=some (.slice none 0 0)/\w3.cell? ⟨W.heap.size,2,none⟩=some (.pointer q)/\w3.cell? ⟨W.heap.size,3,none⟩=some (.iface nt ny)/\w3.cell? ⟨W.heap.size,4,none⟩=some (.bool sp)/\Hid (FnR w3 s.items (.func (.func Kr) #[] cr)/\vV wy w3)):=by
        show Calls _ _ _ _ _;refine Mh.out.mono ?_;rintro e w3 ⟨f,rfl,hf,wH⟩;have D6:vV wy w3:=(FR (nW _ _)).trans wH;have JX:=vR hf;obtain⟨rb,rv,rfl,_⟩:=hf;have Jd:W.heap.size<wy.heap.size:=Z
        exact jF
       have HIE:Hid (∀(w3:World) (Kr:FuncId) (cr:Array Value),Hid (FnR w3 s.items (.func (.func Kr) #[] cr)/\vV wy w3)->Calls prog 127 #[.agg #[.slice none 0 0,.slice none 0 0,.pointer q,.iface nt ny,.bool sp],.slice aa an ac,.func (.func Kr) #[] cr] w3 λe w4=>∃ba bn bc,e= .returned (.tuple #[.slice ba bn bc,.int .i64 met])/\Hid (FN w4 (.slice ba bn bc) rvs/\vV wx w4)):=by
        exact Z0a
       exact ZZ9
      ·have Gh:((m2:Int)==0)=false:=by rw[pQ];omega
       have JI:((m2:Int) != 0)=true:=by simp;omega
       have hre:bg={}/\met=m2:=by
        rcases Zhk.out with⟨_,h⟩|⟨h,_⟩
        ·exact h
        ·exact absurd h MN
       obtain⟨FW,NU⟩:=hre;have PY:=vR (oG FW NU);clear MN Zhk FW NU;go_wp2_with fail;refine(Zbw _).mono ?_;rintro e w9 ⟨bb,rfl,Ey,Fe⟩;go_wp2_with fail;go_ret2;exact⟨bb,by rw[PY.out.2];rfl,by rw[PY.out.1];exact Ey,TK.out.fin (Lm.trans (Fe.mono Lm.size))⟩
    ·have Gh:((m1:Int)==0)=false:=by rw[pQ];omega
     have JI:((m1:Int) != 0)=true:=by simp;omega
     have hre:bg={}/\met=m1:=by
      rcases YF.out with⟨_,h⟩|⟨h,_⟩
      ·exact h
      ·exact absurd h Dm
     obtain⟨FW,NU⟩:=hre;have PY:=vR (oG FW NU);clear Dm YF FW NU A7;go_wp2_with fail;refine(Zbw _).mono ?_;rintro e w9 ⟨bb,rfl,Ey,Fe⟩;go_wp2_with fail;go_ret2;exact⟨bb,by rw[PY.out.2];rfl,by rw[PY.out.1];exact Ey,TK.out.fin (wH.trans (Fe.mono wH.size))⟩
  ·have Dm:((m0:Int)==0)=false:=by rw[pQ];omega
   have MN:((m0:Int) != 0)=true:=by simp;omega
   have xz:bg={}/\met=m0:=by
    rcases HR.out with⟨_,h⟩|⟨h,_⟩
    ·exact h
    ·exact absurd h UU
   obtain⟨rfl,rfl⟩:=xz;clear UU HR;go_wp2_with fail;refine(Zbw _).mono ?_;rintro e w9 ⟨bb,rfl,Ey,Fe⟩;go_wp2_with fail;go_ret2;exact⟨bb,rfl,Ey,TK.out.fin Fe⟩
end Go.Proofs.YtncnkiabjhhclaaGreatDoor
