import Derived.Test.YthmlacabmlghbaaGreatDoorBgJa24
set_option maxRecDepth 100000
set_option maxHeartbeats 8000000
set_option linter.unusedSimpArgs false
set_option linter.unusedVariables false
namespace Go.Proofs.YthmlacabmlghbaaGreatDoor
open Go.RowKit
theorem ZKS{s:Sc}{ph:Za}{gs:List Za}(h1:s.phase=ph)(h2:s.groups=gs):{s with phase:=ph,groups:=gs}=s:=by
 cases s;simp only at h1 h2;rw[<-h1,<-h2]
theorem ZzP(Zd text:Za)(s:Sc)(ph:Za)(gs:List Za)(up:List Sc):Ye Zd text ({s with phase:=ph,groups:=gs}::up)=Ye Zd text (s::up):=by rw[Ye,Ye]
theorem ZwI{J b:Nat}{W:World}{B:Nat}{v:Value}{l:List Za}(h:W.ownsRow B 9 1 v l.length (l.map Zp))(hJ:J<B)(hb:b<B):XF (b:: [J]) W v l:=
 ZfS h (fun x hx=>by
  rcases ZW3.1 hx with rfl|hx
  ·exact hb
  ·rw[ZXh.1 hx];exact hJ)
theorem ZCW{fl:Fl}{k i f g w h:Tr}{r:List Tr}{ss:List Sc}{gs:List Za}{lo:Bool}(e:Ye fl.Zd fl.text ss=none):YO (.node fl k i f g w h::r) ss gs lo=YO r ss gs true:=by rw[YO,e]
theorem ZCY{fl:Fl}{k i f g w h:Tr}{r:List Tr}{ss:List Sc}{gs:List Za}{lo:Bool}{a c:Nat}(e:Ye fl.Zd fl.text ss=some (0,a,c)):YO (.node fl k i f g w h::r) ss gs lo=YO r ss (gs++ [QP a c]) lo:=by rw[YO,e];rfl
theorem ZCX{fl:Fl}{k i f g w h:Tr}{r:List Tr}{ss:List Sc}{gs:List Za}{lo:Bool}{l a c:Nat}(e:Ye fl.Zd fl.text ss=some (l+1,a,c)):YO (.node fl k i f g w h::r) ss gs lo=YO r ss gs true:=by rw[YO,e];rfl
theorem Same.trans{X:List Nat}{a b c:World}(h:Same X a b)(k:Same X b c)(hs:a.heap.size<=b.heap.size):Same X a c:=fun g hg hl=>(k g hg (ZXi hl hs)).trans (h g hg hl)
theorem Zvb(ry:Jr)(lo:Bool):(ry.or {lost:=lo}).or {lost:=true}=ry.or {lost:=true}:=by cases ry;cases lo<;>simp[Jr.or]
theorem ZkD{J b o:Nat}{W w:World}{v:Value}(h:Zb J W w)(hb:W.heap.size<=b):Zb J W (w.setCell ⟨b,o,none⟩ v):=by
 exact ZU9
theorem ZLu(X:List Nat)(W:World):XF X W (.slice none 0 0) []:=⟨none,0,rfl,fun i hi=>ZPX⟩
theorem ZIr{X:List Nat}{W W':World}{B e sz n:Nat}{v:Value}{xs:List Value}(h:W.ownsRow B e sz v n xs)(hX:∀g∈X,g<B)(hs:Same X W W'):W'.ownsRow B e sz v n xs:=by
 refine⟨h.1,?_⟩;rcases h.2 with h0|⟨g,cap,cu,rfl,hb,hh,r⟩
 ·exact ZS4
 ·exact .inr ⟨g,cap,cu,rfl,hb,hs.obj (fun hx=>by have:=hX g hx;omega) hh,r⟩
theorem Zur(ss:List Sc)(x:Tr):∀l:List Tr,ZY (l++ [x]) ss=((ZY l ss).1++ [(Qo x.kids ss).1],(ZY l ss).2.or (Qo x.kids ss).2)
 | []=>by simp[ZY,Jr.or_none,Jr.none_or]
 |y::l=>by rw[List.cons_append,ZY,Zur ss x l,ZY];simp[Jr.or_assoc]
theorem Zus(ss:List Sc):∀l:List Tr,(ZY l ss).1.length=l.length
 | []=>by simp[ZY]
 |y::l=>by rw[ZY];simp[Zus ss l]
theorem Zwt(r a b c:Jr)(ok lo st:Bool):(((((r.or {lost:= !ok}).or a).or {lost:=lo}).or b).or c).or {lost:=st}=r.or ((a.or b).or ((Jr.or {lost:= !ok||lo} c).or {lost:=st})):=by
 cases r;cases a;cases b;cases c;simp[Jr.or,ZXx,Bool.or_comm,Bool.or_left_comm]
theorem ZeS(db:List Tb):∀(l:List Tr) (s:Sc) (ok:Bool),(∀t∈s.tabs,t∈db)->∀t∈(XC db l s ok).1.tabs,t∈db
 | [],s,ok,h=>by rw[XC];exact h
 | .node f _ _ _ _ _ _::r,s,ok,h=>by
  rw[XC];cases hq:JP db f.text with
  |none=>exact ZeS db r s false h
  |some t=>
   simp only[];generalize (if f.Zx= []then f.text else f.Zx)=n;split
   ·exact ZeS db r s false h
   ·refine ZeS db r _ ok fun y hy=>?_;rcases ZXt.1 hy with hy|hy
    ·exact h y hy
    ·rw[ZXh.1 hy];exact List.mem_of_find?_eq_some hq
 | .nil::r,s,ok,h=>by rw[XC];exact ZeS db r s false h;simp
 | .cons _ _::r,s,ok,h=>by rw[XC];exact ZeS db r s false h;simp
theorem ZCC(l:List Tb)(h:∀t∈l,t.types.length<=6):∀k,((l.take k).flatMap (·.types)).length<=6*k:=by
 induction l with
 |nil=>intro k;simp
 |cons a l ih=>
  intro k;cases k with
  |zero=>simp
  |succ k=>
   have h1:=h a ZXn;have h2:=ih (fun t ht=>h t (ZXe _ ht)) k;simp only[List.take_succ_cons,List.flatMap_cons,ZW9];omega
theorem ZCD(l:List Tb)(k:Nat)(h:k<l.length):(l.take (k+1)).flatMap (·.types)=(l.take k).flatMap (·.types)++l[k].types:=by
 rw[ZXA h,ZYw];simp
theorem Zk0(f:Fl)(i fr g w h:Tr)(hf:f.kind=QE)(hw:w= .nil\/UO w)(hh:h= .nil\/UO h)(hit:∀x∈elems i,∃fi e,x=nd fi (l1 e)):Zbk (.node f .nil i fr g w h):=by
 intro J b0 Zj db r up uv W tv hj hI hl hp hg;have hp0:=hp;rw[X7]at hp;obtain⟨q,vk,vi,vf,vg,vw,vh,rfl,XT,hqb,Zn,s1,s2,s3,s4,p1,p2⟩:=hp;obtain⟨ow,rfl⟩:=EN p1;obtain⟨oh,rfl⟩:=EN p2;have hg0:=hg;rw[Good]at hg;obtain⟨hn,gk,gi,gf,gg,gw,gh,gw2,gh2⟩:=hg;have hJl:J<W.heap.size:=(ZWU.1 hj).1;have Zt4:=ZKv J b0 q f fr vk vi vf vg (.pointer ow) (.pointer oh) Zj uv db up W hI.tabs hI.db hI.sc hJl Zn s3 gf hn.lf;obtain⟨z0,z1,z2,z3,z4,z5,z6,z7,z8,z9,Jk,Qv,z12,Qw,Qx,Qy⟩:=QB Zn;rw[hf]at z0;unfold QE at z0;have hsu:=hI.sc;have Zn0:=hI.ok;have ZfB:=hI.db;have htab:=hI.tabs;have hul:up.length+1+sz w<=1000000/\up.length+1+sz h<=1000000:=by simp only[sz]at hl;omega
 have hP:=hp0.fresh (N':=W.heap.size) (ZWS _);have HP:Hid (∀w',Zb J W w'->Zr J W.heap.size w' (.node f .nil i fr g w h) (.pointer (some ⟨q,0,none⟩))):=fun w' hK=>hP.keep hK;have HOB:Hid (∀w',Zb J W w'->w'.heap[q]? =some (.cells (YF f vk vi vf vg (.pointer ow) (.pointer oh)) XY (0,0))):=fun w' hK=>hK.obj XT Zn;have pw:=p1.fresh (N':=W.heap.size) (ZWS _);have ph:=p2.fresh (N':=W.heap.size) (ZWS _);have sg:=s4.fresh (N':=W.heap.size) (ZWS _);have si:=s2.fresh (N':=W.heap.size) (ZWS _);have HPW:Hid (∀w',Zb J W w'->Zr J W.heap.size w' w (.pointer ow)):=fun w' hK=>pw.keep hK;have Jl:Hid (∀w',Zb J W w'->Zr J W.heap.size w' h (.pointer oh)):=fun w' hK=>ph.keep hK;have KH:Hid (∀w',Zb J W w'->Z8 J W.heap.size w' g vg):=fun w' hK=>sg.keep hK;have HSI:Hid (∀w',Zb J W w'->Z8 J W.heap.size w' i vi):=fun w' hK=>si.keep hK;have Zkk:(w= .nil/\ow=none)\/(UO w/\Good w/\∃bw,ow=some ⟨bw,0,none⟩):=by
  rcases hw with rfl|hw
  ·exact .inl ⟨rfl,by simpa[Zr]using p1⟩
  ·rcases gw2 with rfl|h1
   ·exact .inl ⟨rfl,by simpa[Zr]using p1⟩
   ·cases w with
    |nil=>simp[Tr.isNode]at h1
    |cons _ _=>simp[Tr.isNode]at h1
    |node=>rw[X7]at p1;obtain⟨bw,_,_,_,_,_,_,e,_⟩:=p1;exact .inr ⟨hw,gw rfl,bw,by cases e;rfl⟩
 have ZsR:(h= .nil/\oh=none)\/(UO h/\Good h/\∃bw,oh=some ⟨bw,0,none⟩):=by
  rcases hh with rfl|hh
  ·exact .inl ⟨rfl,by simpa[Zr]using p2⟩
  ·rcases gh2 with rfl|h1
   ·exact .inl ⟨rfl,by simpa[Zr]using p2⟩
   ·cases h with
    |nil=>simp[Tr.isNode]at h1
    |cons _ _=>simp[Tr.isNode]at h1
    |node=>rw[X7]at p2;obtain⟨bw,_,_,_,_,_,_,e,_⟩:=p2;exact .inr ⟨hh,gh rfl,bw,by cases e;rfl⟩
 have HW:=(show Hid _ from Zkk);have HH:=(show Hid _ from ZsR);have HJQ:Hid (jq db (.node f .nil i fr g w h) up=(ZiC db f i fr g up,((jc db w ((XJ db fr).1::up)).or (jc db h (Vs db i fr g up::up))).or (Zpc db f i fr g up))):=by
  show _=_;rw[jq,ZWR hf]
 generalize jq db (.node f .nil i fr g w h) up=R at *;have HJ:=(show Hid _ from hj);have jd:=hj.cells.1;have HG0:=(show Hid _ from hg0);have hlg:=hn.lg;have hli:=hn.li;clear hp0 hg0 hf hw hh hj hI hl Zn s1 s2 s3 s4 p1 p2 hn gk gf gw gh gw2 gh2 hP pw ph sg si Zkk ZsR z1 z2 z3 z4 z5 z7 z8 z9 Jk Qv z12 Qw Qx Qy;go_enter Tryz.func21,Tryz.ntmps21;go_wp2_with fail;refine Zt4.mono ?_;rintro e W1 ⟨o,nv,tv,ts,rfl,rfl,hB1,hS,hle⟩;have hok0:=hS.ok hle;have hbase:=hS.base hJl hB1 hsu;have ZtS:=hS.obj;have ZEe:=hS.phase;have ZDO:=hS.YB;have hK1:Zb J W W1:=Zb.of_below hB1;have hj1:=ZeF HJ.out hB1 hJl;obtain⟨j0,j1,j2⟩:=hj1.cells;have hjf:=hj1.frozen 1;have HJ1:=(show Hid _ from hj1);clear Zt4 hS hj1 hle hsu jd;generalize hs0:(XJ db fr).1=s0 at *;generalize hk0:(XJ db fr).2=ok0 at *;go_upto_if 105 with fail
 go_cut [13] (fun sv wx=>sv= .pointer (some ⟨W.heap.size,0,none⟩)/\Zb J W1 wx/\Hid (Jg J Zj (r.or {lost:= !ok0}) wx));case first=>
  cases ok0 with
  |true=>
   go_wp2_with fail;go_meet;case rel=>exact⟨rfl,Zb.refl _ _,Jg.eq HJ1.out (by rw[Bool.not_true,Jr.or_none])⟩
  |false=>
   go_wp2_with fail;go_meet;case rel=>exact⟨rfl,Zb.set _ _ _ _,Jg.lost HJ1.out⟩
 case rest=>
  obtain⟨rfl,hKx,hJx⟩:=hcut;obtain⟨wx,ewx⟩:∃wx,wx=wc:=⟨_,rfl⟩;subst ewx;clear j0 j1 j2 hjf HJ1;have hKW:=hK1.trans hKx;have hwx:=(QB (HOB.out wx hKW)).2.2.2.2.2.2.2.2.2.2.2.2.2.2.1;have hbx:=hbase.same ((Same.X6 hKx).mono ZPm);have ZnO:=hKx.obj U ZtS;have Zt5:YJ (s0::up) [J] wx (.pointer (some ⟨W.heap.size,0,none⟩)):=by
   have:=hbx.sc ZcR [] ZnO (ZLu _ _);rwa [ZKS ZEe ZDO]at this
  have hIx:JIn J Zj db (s0::up) (.pointer (some ⟨W.heap.size,0,none⟩)) wx:=⟨htab.same (Same.X6 hKW) (fun _ h=>h),ZfB,Zt5,fun y hy=>by
   rcases ZW3.1 hy with rfl|hy
   ·exact hok0
   ·exact Zn0 y hy⟩
  go_upto_if 113 with fail
  go_cut [13] (fun sv wy=>sv= .pointer (some ⟨W.heap.size,0,none⟩)/\Zb J wx wy/\Hid (Jg J Zj ((r.or {lost:= !ok0}).or (jc db w (s0::up))) wy));case first=>
   rcases HW.out with⟨e1,e2⟩|⟨hcw,hgw,bw,e2⟩
   ·subst e2;go_wp2_with fail;go_meet;case rel=>exact⟨rfl,Zb.refl _ _,Jg.eq hJx.out (by rw[e1,jc,Jr.or_none])⟩
   ·have hcall:=hcw J W.heap.size Zj db _ (s0::up) wx _ hJx.out hIx ZPo (HPW.out wx hKW) hgw;subst e2;go_wp2_with fail;refine hcall.mono ?_;rintro e w2 ⟨rfl,hK2,hj2⟩;go_wp2_with fail;go_meet;case rel=>exact⟨rfl,hK2,hj2⟩
  case rest=>
   as_aux_lemma=>
    obtain⟨rfl,hKy,hJy⟩:=hcut;obtain⟨wy,ewy⟩:∃wy,wy=wc:=⟨_,rfl⟩;subst ewy;clear hwx hIx Zt5;have hbW:=hbx.same ((Same.X6 hKy).mono ZPm);have ZnN:=hKy.obj U ZnO;have ZDe:=hKW.trans hKy;clear hbx ZnO hJx;obtain⟨i0,hi,hz0,hz1,hz2⟩:=ZXd Tryz.ZeE;have hbl:W.heap.size<wy.heap.size:=(ZWU.1 ZnN).1;have Zfs:J<wy.heap.size:=U
    have hel:=Ey g;generalize hGR:YO (elems g) (s0::up) [] false=GR at *;generalize hry:(r.or {lost:= !ok0}).or (jc db w (s0::up))=ry at *;have HGR:=(show Hid _ from hGR);have HRY:=(show Hid _ from hry);clear hGR hry;obtain⟨ag,cg,rfl⟩:∃a c,vg= .slice a g.len c:=by obtain⟨a,c,e,_⟩:=KH.out W (Zb.refl _ _);exact⟨a,c,e⟩
    have HGC:Hid (∀w',Zb J W w'->∀j (hj:j<(elems g).length),∃gg p fl k i f' g' w h,ag=some ⟨gg,0,none⟩/\w'.cell? ⟨gg,j,none⟩=some (.pointer (some ⟨p,0,none⟩))/\(elems g)[j]= .node fl k i f' g' w h/\w'.cell? ⟨p,2,none⟩=some (.string ⟨fl.text.toArray⟩)/\w'.cell? ⟨p,3,none⟩=some (.string ⟨fl.Zd.toArray⟩)):=fun w' hK j hj=>by
     obtain⟨a3,c3,e3,Zet⟩:=ZcW (KH.out w' hK);cases e3;obtain⟨gg',u,e,hc,hp⟩:=Zet j hj;have hgd:=Zdo g gg _ (ZWX hj);generalize (elems g)[j]=x at hp hgd ⊢;cases x with
     |nil=>exact ZWg
     |cons _ _=>exact ZWg
     |node fl k i f' g' w h=>
      rw[X7]at hp;obtain⟨p,_,_,_,_,_,_,rfl,_,_,hop,_⟩:=hp;have hz:=QB hop;exact⟨gg',p,fl,k,i,f',g',w,h,e,hc,rfl,hz.2.2.1,hz.2.2.2.1⟩
    have Zqt:Hid (∀w',Zb J W w'->w'.cell? ⟨q,13,none⟩=some (.slice ag g.len cg)):=fun w' hK=>(QB (HOB.out w' hK)).2.2.2.2.2.2.2.2.2.2.2.2.2.1;generalize g.len=ng at *;go_wp2_with fail;go_loopg [15] (ng+1) (fun gk iv wr=>∃(j:Nat) (gs:List Za) (lo:Bool) (gv:Value),j<=ng/\gs.length<=j/\gk=ng-j+1/\iv= .int .i64 j/\Zb J W wr/\Same [W.heap.size,J] wy wr/\wy.heap.size<=wr.heap.size/\wr.heap[W.heap.size]? =some (.cells #[nv,tv,.pointer o,.string ⟨ZcR.toArray⟩,gv] 129 (0,0))/\wr.ownsRow wy.heap.size 9 1 gv gs.length (gs.map Zp)/\Hid (Jg J Zj (ry.or {lost:=lo}) wr)/\Hid (YO ((elems g).drop j) (s0::up) gs lo=GR));case atStart=>exact⟨0, [],false,.slice none 0 0,U,ZPm,U,rfl,ZDe,fun _ _ _=>rfl,ZWS _,ZnN,ZXp _ _ _ _,Jg.eq hJy.out (by rw[Jr.or_none]),HGR⟩
    case round=>
     obtain⟨j,gs,lo,gv,hj,hgl,rfl,rfl,hK,hSm,hsz,ho,hown,hJ,hr⟩:=hrel;by_cases hlt:j<ng
     ·as_aux_lemma=>
       obtain⟨gg',p,fl,k',i',f',g',w',h',rfl,hc1,hx,t2,t3⟩:=HGC.out wr hK j U;have HDR:Hid ((elems g).drop j= .node fl k' i' f' g' w' h'::(elems g).drop (j+1)):=by
        show _=_;rw[ZXl (by omega:j<(elems g).length),hx]
       clear hx;have c13:=Zqt.out wr hK;have hsc:=(hbW.same hSm).sc ZcR gs ho (ZwI hown Zfs hbl);have hat:=Zv8 p fl.Zd fl.text _ [J] _ wr hsc (fun y hy=>by
        rcases ZW3.1 hy with rfl|hy
        ·exact ZTU
        ·exact Zn0 y hy) ZPo t2 t3
       rw[ZzP]at hat;obtain⟨jj0,jj1,jj2⟩:=Jg.cells hJ.out;have jjf:=Jg.frozen hJ.out 1;obtain⟨x0,x1,x2,x3,x4⟩:=cells5 ho;have xf:=Vh ho 4;clear hsc;obtain⟨av,JE,rfl⟩:=U6 hown;go_wp2_with fail;refine hat.mono ?_;rintro e w1 ⟨rfl,n1,rfl⟩;clear hat;cases hq:Ye fl.Zd fl.text (s0::up)with
       |none=>
        have KG:Hid (YO ((elems g).drop (j+1)) (s0::up) gs true=GR):=by show _=_;rw[<-hr.out,HDR.out,ZCW hq]
        clear hq hr HDR;unfold KQ;go_wp2_with fail;go_roundg (ng-(j+1)+1);case measure=>omega
        case rel=>
         exact ZU5
       |some pp=>
        obtain⟨l,ia,ca⟩:=pp;cases l with
        |succ l=>
         have KG:Hid (YO ((elems g).drop (j+1)) (s0::up) gs true=GR):=by show _=_;rw[<-hr.out,HDR.out,ZCX hq]
         clear hq hr HDR;unfold KQ;have hl0:(((l+1:Nat):Int)==0)=false:=by simp;omega
         go_wp2_with fail;go_roundg (ng-(j+1)+1);case measure=>omega
         case rel=>
          exact ZU5
        |zero=>
         have KG:Hid (YO ((elems g).drop (j+1)) (s0::up) (gs++ [QP ia ca]) lo=GR):=by show _=_;rw[<-hr.out,HDR.out,ZCY hq]
         clear hr HDR;have hbd:ia<=90000/\ca<=90000:=by
          obtain⟨s',t',e1,e2,e3⟩:=Zfj hq;cases e1;have h1:=(ZXq.1 e2).1;have h2:=(hok0.tab t' (ZXW e2)).1;have h3:=hok0.len;have h4:=hok0.le;omega
         clear hq;unfold KQ;have KE:Hid (some W.heap.size≠(Value.slice av gs.length JE).ownBlock):=own_ne hown ho ZPl;have Zko:(wr.drewN n1).ownsRow wy.heap.size 9 1 (.slice av gs.length JE) gs.length (gs.map Zp):=hown;have hbr:W.heap.size<wr.heap.size:=U
         go_wp2_with fail;refine(Zwd ia ca _ hbd.1 hbd.2).mono ?_;rintro e w2 ⟨rfl,rfl⟩;generalize QP ia ca=ks at *;go_wp2_with (at_builtin;go_must (refine ZXg _ rfl _ _ 22 rfl wy.heap.size 9 i0 (.string ⟨#[]⟩) 1 16 Tryz.underlying22 hi hz0 hz1 hz2 rfl ZPl _ _ _ rfl (Zko.alloc _) ⟨wr.heap.size,0,none⟩ 1 1 [Zp ks] rfl rfl (ZXm _ _ _) ZPJ ZPq U ZPo ?_);intro v' w5 hown' hgrow _;obtain⟨av2,Zmz,rfl⟩:=U6 hown';have hb5:=(hgrow.block W.heap.size ZPo KE.out).trans ((ZXa _ _ _ hbr).trans ho);obtain⟨v0,v1,v2,v3,v4⟩:=cells5 hb5;have vf:=Vh hb5 4);go_roundg (ng-(j+1)+1);case measure=>omega
         case rel=>
          have X4:Below wy.heap.size wr w5:=XM (show Below wy.heap.size wr (wr.drewN n1) from ⟨rfl,rfl,rfl,ZWS _,fun _ _=>rfl⟩) (by simpa using hsz) Zko hgrow;have Yg:Zb J W w5:=ZfJ hK X4 U;have hs5:=Zb.set W.heap.size w5 4 (.slice av2 (gs.length+1) Zmz);refine⟨j+1,gs++ [ks],lo,.slice av2 (gs.length+1) Zmz,U,ZPo,rfl,ZPp,by exact ZkD Yg (ZWS _),?_,by exact ZW0 hsz (ZW0 X4.size hs5.size),?_,?_,?_,KG⟩
          ·intro g1 hg1 hl1;have hne:g1≠W.heap.size:=fun e=>hg1 ZQI;exact(hs5.block g1 hne (ZXi hl1 (ZW0 hsz X4.size))).trans ((X4.block g1 hl1).trans (hSm g1 hg1 hl1))
          ·have:=Xn (k:=4) (u:=.slice av2 (gs.length+1) Zmz) hb5;exact this
          ·rw[ZW9,ZWY];exact ZaF hown' hb5 ZPl
          ·exact Jg.setOther (ZeF hJ.out X4 Zfs) U
     ·obtain rfl:j=ng:=by omega
      have HGS:Hid ((gs,lo)=GR):=by show _=_;rw[<-hr.out,ZYB U,YO]
      clear hr;have c13:=Zqt.out wr hK;go_wp2_with fail;refine(ZKo J W.heap.size f .nil i fr g w h wr q (HP.out wr hK) HG0.out).mono ?_;rintro e w2 ⟨rfl,hB2⟩;generalize hgr:KZ i g=gr at *;have Zp2:=(show Hid _ from hgr);clear hgr;have hK2:Zb J W w2:=ZfJ hK hB2 hK.size;have ho2:=(hB2.block W.heap.size U).trans ho;have hown2:=EC hown hB2;have hj2:=ZeF hJ.out hB2 U;have hS2:Same [W.heap.size,J] wy w2:=hSm.trans (Same.of_below hB2) hsz;obtain⟨av,JE,rfl⟩:=U6 hown;obtain⟨x0,x1,x2,x3,x4⟩:=cells5 ho2;have xf:=Vh ho2 3;go_upto_if 166 with fail
      go_cut [13,20] (fun sv gv wx=>sv= .pointer (some ⟨W.heap.size,0,none⟩)/\gv= .bool gr/\Zb J W wx/\Same [W.heap.size,J] w2 wx/\w2.heap.size<=wx.heap.size/\wx.heap[W.heap.size]? =some (.cells #[nv,tv,.pointer o,.string ⟨(if gr then YV else ZdJ).toArray⟩,.slice av gs.length JE] 129 (0,0))/\Hid (Jg J Zj (ry.or {lost:=lo}) wx));case first=>
       cases gr with
       |true=>
        go_wp2_with fail;go_meet;case rel=>
         have k1:=Zb.set W.heap.size w2 3 (.string ⟨ZdJ.toArray⟩);have k2:=Zb.set W.heap.size (w2.setCell ⟨W.heap.size,3,none⟩ (.string ⟨ZdJ.toArray⟩)) 3 (.string ⟨YV.toArray⟩);exact⟨rfl,rfl,ZkD (ZkD hK2 (ZWS _)) (ZWS _),((Same.X6 k1).mono ZPm).trans ((Same.X6 k2).mono ZPm) k1.size,ZW0 k1.size k2.size,Xn (Xn ho2),Jg.setOther (Jg.setOther hj2 U) U⟩
       |false=>
        go_wp2_with fail;go_meet;case rel=>
         have k1:=Zb.set W.heap.size w2 3 (.string ⟨ZdJ.toArray⟩);exact⟨rfl,rfl,ZkD hK2 (ZWS _),(Same.X6 k1).mono ZPm,k1.size,Xn ho2,Jg.setOther hj2 U⟩
      case rest=>
       as_aux_lemma=>
        obtain⟨rfl,rfl,hKz,hSz,hsz2,hoz,hJz⟩:=hcut;obtain⟨wz,ewz⟩:∃wz,wz=wc:=⟨_,rfl⟩;subst ewz;have hX2:∀x∈ [W.heap.size,J],x<wy.heap.size:=fun x hx=>by
         rcases ZW3.1 hx with rfl|hx
         ·exact hbl
         ·rw[ZXh.1 hx];exact Zfs
        have Vl:=ZIr hown2 hX2 hSz;have hbz:=hbW.same (hS2.trans hSz (ZW0 hsz hB2.size));obtain⟨hGs,hLo⟩:gs=GR.1/\lo=GR.2:=by have:=HGS.out;rw[<-this];exact⟨rfl,rfl⟩
        have EZ:Hid ({s0 with phase:=if gr then YV else ZdJ,groups:=gs}=Vs db i fr g up):=by
         show _=_;unfold Vs;rw[hs0,HGR.out,Zp2.out,hGs]
        have HR:Hid (R=((ZY (elems i) (Vs db i fr g up::up)).1++(if f.star then s0.tabs.flatMap (·.types)else[]),((jc db w (s0::up)).or (jc db h (Vs db i fr g up::up))).or ((Jr.or {lost:= !ok0||lo} (ZY (elems i) (Vs db i fr g up::up)).2).or {lost:=f.star&&gr}))):=by
         show _=_;rw[HJQ.out];unfold ZiC Zpc;rw[hs0,hk0,HGR.out,Zp2.out,hLo]
        have ZnZ:YJ (Vs db i fr g up::up) [J] wz (.pointer (some ⟨W.heap.size,0,none⟩)):=by
         rw[<-EZ.out];exact hbz.sc _ gs hoz (ZwI Vl Zfs hbl)
        have ZtT:∀y∈Vs db i fr g up::up,Ep y:=fun y hy=>by
         rcases ZW3.1 hy with rfl|hy
         ·rw[<-EZ.out];exact ZTU
         ·exact Zn0 y hy
        have hmem:∀t∈s0.tabs,t∈db:=by
         rw[<-hs0];exact ZeS db (elems fr) {} _ ZPm
        generalize Vs db i fr g up=sG at *;have hIz:JIn J Zj db (sG::up) (.pointer (some ⟨W.heap.size,0,none⟩)) wz:=⟨htab.same (Same.X6 hKz) (fun _ h=>h),ZfB,ZnZ,ZtT⟩;have ZD9:=(QB (HOB.out wz hKz)).2.2.2.2.2.2.2.2.2.2.2.2.2.2.2;have hl2:(sG::up).length+sz h<=1000000:=by simp;omega
        clear x0 x1 x2 x3 x4 xf c13 hj2 hS2 hown hown2 hJ hSm ho ho2 HJQ EZ HGS Vl hSz;go_upto_if 174 with fail
        go_cut [13,20] (fun sv gv wx=>sv= .pointer (some ⟨W.heap.size,0,none⟩)/\gv= .bool gr/\Zb J wz wx/\Hid (Jg J Zj ((ry.or {lost:=lo}).or (jc db h (sG::up))) wx));case first=>
         rcases HH.out with⟨e1,e2⟩|⟨hcw,hgw,bw,e2⟩
         ·subst e2;go_wp2_with fail;go_meet;case rel=>exact⟨rfl,rfl,Zb.refl _ _,Jg.eq hJz.out (by rw[e1,jc,Jr.or_none])⟩
         ·have hcall:=hcw J W.heap.size Zj db _ (sG::up) wz _ hJz.out hIz hl2 (Jl.out wz hKz) hgw;subst e2;go_wp2_with fail;refine hcall.mono ?_;rintro e w2 ⟨rfl,hK2,hj2⟩;go_wp2_with fail;go_meet;case rel=>exact⟨rfl,rfl,hK2,hj2⟩
        case rest=>
         as_aux_lemma=>
          obtain⟨rfl,rfl,hKv,hJv⟩:=hcut;obtain⟨wv,ewv⟩:∃wv,wv=wc:=⟨_,rfl⟩;subst ewv;clear ZD9 hIz;have Znj:=hKz.trans hKv;have ZEm:=YJ.same (Same.X6 hKv) _ _ _ (fun _ h=>h) ZnZ;have Zfr:J<wv.heap.size:=by have:=Znj.size;omega
          have ZEw:(sG::up).length<=1000000:=U
          have Ztr:=Ey i;obtain⟨ai,ci,rfl⟩:∃a c,vi= .slice a i.len c:=by obtain⟨a,c,e,_⟩:=HSI.out W (Zb.refl _ _);exact⟨a,c,e⟩
          have HIC:Hid (∀w',Zb J W w'->∀j (hj:j<(elems i).length),∃ii p gk ck u x,ai=some ⟨ii,0,none⟩/\w'.cell? ⟨ii,j,none⟩=some (.pointer (some ⟨p,0,none⟩))/\w'.cell? ⟨p,10,none⟩=some (.slice (some ⟨gk,0,none⟩) 1 ck)/\w'.cell? ⟨gk,0,none⟩=some (.pointer u)/\Zr J W.heap.size w' x (.pointer u)/\Good x/\(elems i)[j].kids=l1 x):=fun w' hK j hj=>by
           obtain⟨a3,c3,e3,Zet⟩:=ZcW (HSI.out w' hK);cases e3;obtain⟨gg',u,e,hc,hp⟩:=Zet j hj;have hgd:=Zdo i gi _ (ZWX hj);obtain⟨fi,x,ex⟩:=hit _ (ZWX hj);rw[ex]at hp hgd;unfold nd l1 at hp hgd;rw[X7]at hp;rw[Good]at hgd;obtain⟨p,_,_,_,_,_,_,rfl,_,_,hop,t1,_⟩:=hp;obtain⟨gk,ck,u,rfl,_,_,hc0,hpx⟩:=Zk7 t1;obtain⟨ou,rfl⟩:=EN hpx;have hz:=QB hop;have hgx:=hgd.2.1;rw[Yp]at hgx;exact⟨gg',p,gk,ck,ou,x,e,hc,hz.2.2.2.2.2.2.2.2.2.2.1,hc0,hpx,hgx.1,by rw[ex];rfl⟩
          have Zqs:Hid (∀w',Zb J W w'->w'.cell? ⟨q,11,none⟩=some (.slice ai i.len ci)):=fun w' hK=>(QB (HOB.out w' hK)).2.2.2.2.2.2.2.2.2.2.2.1;have HZ6:Hid (∀w',Zb J W w'->w'.cell? ⟨q,6,none⟩=some (.bool f.star)):=fun w' hK=>(QB (HOB.out w' hK)).2.2.2.2.2.2.1;generalize f.star=st at HZ6 HR;generalize i.len=ni at *;generalize K6:(ry.or {lost:=lo}).or (jc db h (sG::up))=rv at hJv;have HRV:=(show Hid _ from K6);clear K6 z6 ZnZ;go_wp2_with fail;go_loopg [21,22] (ni+1) (fun gk ov iv wr=>∃j:Nat,j<=ni/\gk=ni-j+1/\iv= .int .i64 j/\wr.ownsRow wv.heap.size 9 1 ov j ((ZY ((elems i).take j) (sG::up)).1.map Zp)/\Zb J wv wr/\Hid (Jg J Zj (rv.or (ZY ((elems i).take j) (sG::up)).2) wr));case atStart=>exact⟨0,U,U,rfl,by simpa[ZY]using World.ownsRow_nil _ _ _ _,Zb.refl _ _,Jg.eq hJv.out (by simp[ZY,Jr.or_none])⟩
          case round=>
           obtain⟨j,hj,rfl,rfl,hown,hK,hJ⟩:=hrel;have Zhy:=Znj.trans hK;by_cases hlt:j<ni
           ·as_aux_lemma=>
             obtain⟨ii,p,gk',ck,u,x,rfl,y1,y2,y3,hpx,hgx,hxk⟩:=HIC.out wr Zhy j U;have y11:=Zqs.out wr Zhy;have hex:=ZiA x J W.heap.size Zj _ (sG::up) wr _ hJ.out (YJ.same (Same.X6 hK) _ _ _ (fun _ h=>h) ZEm) ZtT ZEw hpx hgx;have HT:Hid (ZY ((elems i).take (j+1)) (sG::up)=((ZY ((elems i).take j) (sG::up)).1++ [(jx x (sG::up)).1],(ZY ((elems i).take j) (sG::up)).2.or (jx x (sG::up)).2)):=by
              show _=_;rw[ZXA U,Zur,hxk];simp[l1,Qo]
             clear hxk hpx hgx;generalize jx x (sG::up)=RX at hex HT;obtain⟨tx,rx⟩:=RX;generalize ZY ((elems i).take j) (sG::up)=RJ at hJ hown HT hex;go_wp2_with fail;refine hex.mono ?_;rintro e w5 ⟨rfl,Yg,hj5⟩;have hown5:=Zis hown Zfr Yg;have Zfu:=hK.trans Yg;have hsz5:=Zfu.size;clear hex hJ y1 y2 y3 y11;go_wp2_with (at_builtin;go_must (refine ZXg _ rfl _ _ 22 rfl wv.heap.size 9 i0 (.string ⟨#[]⟩) 1 16 Tryz.underlying22 hi hz0 hz1 hz2 rfl ZPl _ _ _ rfl (hown5.alloc _) ⟨w5.heap.size,0,none⟩ 1 1 [Zp tx] rfl rfl (ZXm _ _ _) ZPJ ZPq U ZPo ?_);intro v' w6 hown' hgrow _);go_roundg (ni-(j+1)+1);case measure=>omega
             case rel=>
              have hb6:=XM (ZWT wv.heap.size w5) hsz5 hown5 hgrow;exact⟨j+1,U,rfl,ZPp,by rw[HT.out,ZWY];exact hown',ZfJ Zfu hb6 (ZWS _),Jg.eq (ZeF hj5 hb6 Zfr) (by rw[HT.out,Jr.or_assoc])⟩
           ·obtain rfl:j=ni:=by omega
            have hjl:=Zus (sG::up) (elems i);rw[ZXB U]at hown hJ;generalize ZY (elems i) (sG::up)=RJ at hown hJ HR hjl;obtain⟨tl,rj⟩:=RJ;have y6:=HZ6.out wr Zhy;have y11:=Zqs.out wr Zhy;have ZDS:tl.length=j:=by rw[<-Ztr];exact hjl
            subst ZDS;clear hjl Ztr;cases st with
            |false=>
             go_wp2_with fail;go_ret;refine⟨_,rfl,Zhy,?_,?_,?_⟩
             ·rw[HR.out];refine Jg.eq hJ.out ?_;rw[<-HRV.out,<-HRY.out,<-Zwt,Bool.false_and,Jr.or_none]
             ·rw[HR.out];simpa using ZfS hown (fun x hx=>ZSf)
             ·rw[HR.out];simp;omega
            |true=>
             as_aux_lemma=>
              obtain⟨j0,j1,j2⟩:=Jg.cells hJ.out;have hjf:=Jg.frozen hJ.out 1;go_upto_if 214 with fail
              go_cut [13,21] (fun sv ov wx=>sv= .pointer (some ⟨W.heap.size,0,none⟩)/\ov=u21/\Zb J wr wx/\Hid (Jg J Zj ((rv.or rj).or {lost:=gr}) wx));case first=>
               cases gr with
               |true=>
                go_wp2_with fail;go_meet;case rel=>exact⟨rfl,rfl,Zb.set _ _ _ _,Jg.lost hJ.out⟩
               |false=>
                go_wp2_with fail;go_meet;case rel=>exact⟨rfl,rfl,Zb.refl _ _,Jg.eq hJ.out (by rw[Jr.or_none])⟩
              case rest=>
               obtain⟨rfl,rfl,hKt,hJt⟩:=hcut;obtain⟨wt,ewt⟩:∃wt,wt=wc:=⟨_,rfl⟩;subst ewt;have ZEc:=Zis hown Zfr hKt;obtain⟨ta,tc,e⟩:∃a c,tv= .slice a s0.tabs.length c:=by obtain⟨a,c,e,_⟩:=hbz.tabs;exact⟨a,c,e⟩
               subst e;have JK:Hid (∀w',Zb J wz w'->w'.cell? ⟨W.heap.size,1,none⟩=some (.slice ta s0.tabs.length tc)/\∀k (hk:k<s0.tabs.length),∃g2 g4 c4,ta=some ⟨g2,0,none⟩/\w'.cell? ⟨g2,k*4+2,none⟩=some (.slice (some ⟨g4,0,none⟩) s0.tabs[k].types.length c4)/\∀c u,(s0.tabs[k].types.map Zp)[c]? =some u->w'.cell? ⟨g4,c,none⟩=some u):=fun w' VR=>by
                have hb':=hbz.same ((Same.X6 VR).mono ZPm);have ho':=VR.obj U hoz;refine⟨(cells5 ho').2.1,fun k hk=>?_⟩;obtain⟨a,c,e,ht⟩:=hb'.tabs;cases e;obtain⟨g2,cv,tyv,e2,YU⟩:=ht k hk;have hm:=hmem _ (ZWX hk);have hp:=ZfB.pos _ hm;have hq:=(ZfB.tab _ hm).2;obtain⟨sa,sc,e3,hst⟩:=YU.types;obtain⟨g4,e4,_,_⟩:=hst 0 U;subst e4;refine⟨g2,g4,sc,e2,by rw[<-e3];exact YU.ty,fun c u hu=>?_⟩;rw[ZXU]at hu;obtain⟨y,hy,rfl⟩:=Option.map_eq_some_iff.1 hu;obtain⟨hc,e5⟩:=ZXq.1 hy;obtain⟨g5,e6,_,h6⟩:=hst c hc;cases e6;rw[<-e5];exact h6
               have HFL:Hid (∀k,((s0.tabs.take k).flatMap (·.types)).length<=6*k):=ZCC _ (fun t ht=>by have:=ZfB.tab t (hmem t ht);omega);have V8:Hid (∀k (hk:k<s0.tabs.length),s0.tabs[k].types.length<=6):=fun k hk=>by have:=ZfB.tab _ (hmem _ (ZWX hk));omega
               have HFT:Hid (∀k (hk:k<s0.tabs.length),(s0.tabs.take (k+1)).flatMap (·.types)=(s0.tabs.take k).flatMap (·.types)++s0.tabs[k].types):=fun k hk=>ZCD _ k hk;have Ze3:Hid ((s0.tabs.take s0.tabs.length).flatMap (·.types)=s0.tabs.flatMap (·.types)):=by show _=_;rw[ZYv]
               have hnt:=hok0.le;have ZOs:=hok0.len;have ZOD:wv.heap.size<=wt.heap.size:=ZW0 hK.size hKt.size;clear j0 j1 j2 hjf hown hJ hbz hoz hmem y6 y11 hbW ZnN hbase ZtS;go_wp2_with fail;go_loopg [21,24] (s0.tabs.length+1) (fun gk ov iv w3=>∃k:Nat,k<=s0.tabs.length/\gk=s0.tabs.length-k+1/\iv= .int .i64 k/\w3.ownsRow wv.heap.size 9 1 ov (tl++(s0.tabs.take k).flatMap (·.types)).length ((tl++(s0.tabs.take k).flatMap (·.types)).map Zp)/\Zb J wv w3/\Hid (Jg J Zj ((rv.or rj).or {lost:=gr}) w3));case atStart=>exact⟨0,U,U,rfl,by simpa using ZEc,hK.trans hKt,hJt⟩
               case round=>
                obtain⟨k,hk,rfl,rfl,hown3,hK3,hJ3⟩:=hrel;obtain⟨y1,htb⟩:=JK.out wr (hKv.trans hK3);have Zn1:=hK3.size;by_cases hlt:k<s0.tabs.length
                ·obtain⟨g2,g4,c4,rfl,y2,y4⟩:=htb k hlt;have HF1:=(show Hid _ from HFT.out k hlt);have hfl:=HFL.out k;have hty:=V8.out k hlt;clear htb;generalize s0.tabs[k].types=T at *;generalize (s0.tabs.take k).flatMap (·.types)=FL at *;have ZNX:(tl++FL).length<=3000:=by simp;omega
                 generalize hTF:tl++FL=TF at *;have HTF:=(show Hid _ from hTF);clear hTF hfl;go_wp2_with (at_builtin;go_must (refine ZXg _ rfl _ _ 22 rfl wv.heap.size 9 i0 (.string ⟨#[]⟩) 1 16 Tryz.underlying22 hi hz0 hz1 hz2 rfl ZPl _ _ _ rfl hown3 ⟨g4,0,none⟩ T.length c4 (T.map Zp) rfl ZPm (fun j u hu=>by rw[ZXE,ZX5];exact y4 j u hu) ZPJ ZPq U U ?_);intro v' w6 hown' hgrow _);go_roundg (s0.tabs.length-(k+1)+1);case measure=>omega
                 case rel=>
                  have hb6:Below wv.heap.size wr w6:=(ZWT wv.heap.size wr).grown hgrow U (fun k e=>(hown3.lt k e).1);exact⟨k+1,U,rfl,ZPp,by rw[HF1.out,<-ZW7,HTF.out,ZW9,ZWY];exact hown',ZfJ hK3 hb6 (ZWS _),ZeF hJ3.out hb6 Zfr⟩
                ·obtain rfl:k=s0.tabs.length:=by omega
                 have hll:=HFL.out s0.tabs.length;rw[Ze3.out]at hown3 hll;go_wp2_with fail;go_ret;refine⟨_,rfl,Znj.trans hK3,?_,?_,?_⟩
                 ·rw[HR.out];refine Jg.eq hJ3.out ?_;rw[<-HRV.out,<-HRY.out,<-Zwt,ZYi]
                 ·rw[HR.out];simpa using ZfS hown3 (fun x hx=>ZSf)
                 ·rw[HR.out];simp only[ZXR,ZW9];omega
end Go.Proofs.YthmlacabmlghbaaGreatDoor
