import Derived.Maps.AppendAt
import Derived.Maps.OwnSet
import Derived.Test.YthmlacabmlghbaaGreatDoorBgJa11
import Derived.Test.YthmlacabmlghbaaGreatDoorBgShelf
set_option maxRecDepth 100000
set_option maxHeartbeats 8000000
set_option linter.unusedSimpArgs false
set_option linter.unusedVariables false
namespace Go.Proofs.YthmlacabmlghbaaGreatDoor
open Go.Proofs.Tryz
theorem ZXa:type_of% @Go.RowKit.Below.heap_alloc:=@Go.RowKit.Below.heap_alloc
theorem ZX9:type_of% @Go.step_append_lies:=@Go.step_append_lies
theorem ZUL{p:Prop}(h:p:=by go_wp2_with fail;go_ret;exact⟨_,rfl,hKW.trans hK,HF.out,Zgs.out⟩):p:=h
theorem ZWP{p:Prop}(h:p:=by go_wp2;go_ret;exact⟨rfl,rfl⟩):p:=h
open Go.RowKit
theorem ZaF{w:World}{B e sz n:Nat}{v:Value}{xs:List Value}(h:w.ownsRow B e sz v n xs){b k:Nat}{u:Value}{cur:Array Value}{e':TypeId}{fr:Nat×Nat}(hb:w.heap[b]? =some (.cells cur e' fr))(hne:e≠e'):
  (w.setCell ⟨b,k,none⟩ u).ownsRow B e sz v n xs:=by
 refine⟨h.1,?_⟩;rcases h.2 with h0|⟨g,cap,cu,rfl,hg,hh,r⟩
 ·exact ZS4
 ·have hgb:g≠b:=by
   intro e1;subst e1;rw[hb]at hh;exact hne ZRk
  exact ZTd
theorem Zfn{w w':World}{B e sz n:Nat}{v:Value}{xs:List Value}(h:w.ownsRow B e sz v n xs){row:Option Nat}(hg:w.grownBy w' row)(hne:∀g,v.ownBlock=some g->some g≠row):w'.ownsRow B e sz v n xs:=by
 refine⟨h.1,?_⟩;rcases h.2 with h0|⟨g,cap,cu,rfl,hb,hh,r⟩
 ·exact ZS4
 ·exact ZTc
theorem ZjP{w:World}{B B' e e' sz sz' n n':Nat}{v v':Value}{xs xs':List Value}(h:w.ownsRow B e sz v n xs)(h':w.ownsRow B' e' sz' v' n' xs')(hne:e≠e'):∀g,v.ownBlock=some g->some g≠v'.ownBlock:=by
 intro g hg e1;rcases h.2 with⟨rfl,_⟩|⟨g1,cap,cu,rfl,hb,hh,r⟩
 ·cases hg
 ·cases hg;exact own_ne h' hh (fun e=>hne e.symm) e1
theorem ZAr(n:Nat):Value.bool (decide ((n:Int)<=3))= .bool (decide (n<=3)):=by congr 1;simp only[decide_eq_decide];omega
theorem U6{W:World}{B e sz n:Nat}{v:Value}{xs:List Value}(h:W.ownsRow B e sz v n xs):∃a cap,v= .slice a n cap:=by
 rcases h.2 with⟨rfl,rfl⟩|⟨g,cap,cur,rfl,_⟩
 ·exact⟨none,0,rfl⟩
 ·exact ZTI
theorem Zuk:(prog.info? 52).map (fun i=>(i.zero,i.size,i.bytes))=some (some (.agg #[.string ⟨#[]⟩,.slice none 0 0,.slice none 0 0,.slice none 0 0]),4,88):=by kernel_rfl
theorem Zst(w:World)(a b c d:Value)(ty:TypeId):∀j u, [a,b,c,d][j]? =some u->(w.alloc (.cells #[a,b,c,d] ty)).cell? ((⟨w.heap.size,0,none⟩:Addr).add j)=some u:=by
 intro j u h;obtain⟨q0,q1,q2,q3,_⟩:=ZaD (ZWV w (.cells #[a,b,c,d] ty));rw[ZXE];rcases j with _|_|_|_|j
 ·cases h;exact q0
 ·cases h;exact q1
 ·cases h;exact q2
 ·cases h;exact q3
 ·simp at h
def ES(ts:List (Tb×Value×Value×Value)):List Value:=ts.flatMap fun t=> [.string ⟨t.1.name.toArray⟩,t.2.1,t.2.2.1,t.2.2.2]
theorem ZwQ(a b:List (Tb×Value×Value×Value)):ES (a++b)=ES a++ES b:=by unfold ES;rw[ZYw]
theorem ZwR:∀(ts:List (Tb×Value×Value×Value)) (i:Nat) (h:i<ts.length) (j:Nat),j<4->(ES ts)[i*4+j]? = [.string ⟨ts[i].1.name.toArray⟩,ts[i].2.1,ts[i].2.2.1,ts[i].2.2.2][j]?
 |t::ts,0,_,j,hj=>by
  have e:ES (t::ts)= [.string ⟨t.1.name.toArray⟩,t.2.1,t.2.2.1,t.2.2.2]++ES ts:=rfl;rw[e,Nat.zero_mul,ZX5,List.getElem?_append_left ZQH];rfl
 |t::ts,i+1,h,j,hj=>by
  have ih:=ZwR ts i ZPv j hj;have e:ES (t::ts)= [.string ⟨t.1.name.toArray⟩,t.2.1,t.2.2.1,t.2.2.2]++ES ts:=rfl;rw[e,ZYC ZPo,show(i+1)*4+j- [Value.string ⟨t.1.name.toArray⟩,t.2.1,t.2.2.1,t.2.2.2].length=i*4+j from ZPo];exact ih
structure SIn (J b:Nat) (o:Option Addr) (s:Sc) (W0 W:World) (nv tv:Value) (ts:List (Tb×Value×Value×Value)):Prop where
 obj:W.heap[b]? =some (.cells #[nv,tv,.pointer o,.string ⟨ZcR.toArray⟩,.slice none 0 0] 129 (0,0))
 ZaV:W.ownsRow W0.heap.size 9 1 nv s.names.length (s.names.map Zp)
 UE:W.ownsRow W0.heap.size 52 4 tv s.tabs.length (ES ts)
 tabs:ts.map (·.1)=s.tabs
 strs:∀r∈ts,XF [J] W0 r.2.1 r.1.Ze/\XF [J] W0 r.2.2.1 r.1.types/\r.1.Ze.length<=6/\r.1.types.length=r.1.Ze.length
 rows:∀r∈ts,∃a n c,r.2.2.2= .slice a n c
 len:s.names.length=s.tabs.length
 phase:s.phase=ZcR
 YB:s.groups= []
theorem SIn.drew{J b:Nat}{o:Option Addr}{s:Sc}{W0 W:World}{nv tv:Value}{ts:List (Tb×Value×Value×Value)}(h:SIn J b o s W0 W nv tv ts)(n:Nat):SIn J b o s W0 (W.drewN n) nv tv ts:=
 ⟨h.obj,h.ZaV,h.UE,h.tabs,h.strs,h.rows,h.len,h.phase,h.YB⟩
theorem ZKv(J b0 q:Nat)(f:Fl)(fr:Tr)(vk vi vf vg vw vh Zj uv:Value)(db:List Tb)(up:List Sc)(W:World)(hdb:Vz [J] W Zj db)(hdk:Zc2 db)(hu:YJ up [J] W uv)(hJ:J<W.heap.size)
  (Zn:W.heap[q]? =some (.cells (YF f vk vi vf vg vw vh) XY (0,0)))(hsl:Z8 J b0 W fr vf)(hg:Yp fr)(hlf:fr.len<=400):
  Calls prog 43 #[Zj,.pointer (some ⟨q,0,none⟩),uv] W fun e W'=>∃o nv tv ts,uv= .pointer o/\e= .returned (.tuple #[.pointer (some ⟨W.heap.size,0,none⟩),.bool (XJ db fr).2])/\Below W.heap.size W W'/\SIn J W.heap.size o (XJ db fr).1 W W' nv tv ts/\(XJ db fr).1.names.length<=400:=by
 obtain⟨z0,z1,z2,z3,z4,z5,z6,z7,z8,z9,Jk,Qv,z12,Qw,Qx,Qy⟩:=QB Zn;obtain⟨o,rfl⟩:∃o,uv= .pointer o:=by
  cases up with
  |nil=>exact⟨_,hu⟩
  |cons s up=>obtain⟨b,_,_,_,_,rfl,_⟩:=hu;exact⟨_,rfl⟩
 have HDB:Hid (Vz [J] W Zj db):=hdb;obtain⟨da,dc,rfl,hdc⟩:=hdb;have HDC:=(show Hid _ from hdc);obtain⟨af,cf,rfl,hcell⟩:=ZcW hsl;have hel:=Ey fr;have Zlu:Hid (∀w',Below W.heap.size W w'->∀j (hj:j<(elems fr).length),∃g p fl k i f' g' w h,af=some ⟨g,0,none⟩/\w'.cell? ⟨g,j,none⟩=some (.pointer (some ⟨p,0,none⟩))/\(elems fr)[j]= .node fl k i f' g' w h/\w'.cell? ⟨p,2,none⟩=some (.string ⟨fl.text.toArray⟩)/\w'.cell? ⟨p,4,none⟩=some (.string ⟨fl.Zx.toArray⟩)):=fun w' hB j hj=>by
  obtain⟨g,u,e,hc,hp⟩:=hcell j hj;have hgd:=Zdo fr hg _ (ZWX hj);generalize (elems fr)[j]=x at hp hgd ⊢;cases x with
  |nil=>exact ZWg
  |cons _ _=>exact ZWg
  |node fl k i f' g' w h=>
   rw[X7]at hp;obtain⟨p,_,_,_,_,_,_,rfl,_,_,hop,_⟩:=hp;have hz:=QB hop;exact⟨g,p,fl,k,i,f',g',w,h,e,(hB.cell (p:=⟨g,j,none⟩) (ZWW _ _ hc)).trans hc,rfl,(hB.cell (p:=⟨p,2,none⟩) (show p<W.heap.size from ZWW _ _ hz.1)).trans hz.2.2.1,(hB.cell (p:=⟨p,4,none⟩) (show p<W.heap.size from ZWW _ _ hz.1)).trans hz.2.2.2.2.1⟩
 have hq:q<W.heap.size:=ZWW _ _ z0;have Zb6:Hid (∀w',Below W.heap.size W w'->w'.cell? ⟨q,12,none⟩=some (.slice af fr.len cf)):=fun w' hB=>(hB.cell (p:=⟨q,12,none⟩) hq).trans z12;have HDK:=(show Hid _ from hdk);have hdl:=hdk.le;generalize hR:XJ db fr=R;have HR:Hid (XC db (elems fr) {} (decide (fr.len<=3))=R):=hR;clear hR hcell hdc hsl hg hdk hu Zn;generalize fr.len=nf at *;obtain⟨i0,hi,hz0,hz1,hz2⟩:=ZXd Tryz.ZeE;go_enter func43,ntmps43;go_wp2_with fail;go_loopg [9,10] (nf+1) (fun gk ov iv wr=>∃(j:Nat) (s:Sc) (ok:Bool) (nv tv:Value) (ts:List (Tb×Value×Value×Value)),j<=nf/\s.names.length<=j/\gk=nf-j+1/\iv= .int .i64 j/\ov= .bool ok/\Below W.heap.size W wr/\Hid (SIn J W.heap.size o s W wr nv tv ts)/\Hid (XC db ((elems fr).drop j) s ok=R));case atStart=>exact⟨0,{},_,.slice none 0 0,.slice none 0 0, [],U,ZPm,U,rfl,ZAr _,(ZWT _ _).alloc (ZWS _) _,⟨ZWV _ _,ZXp _ _ _ _,ZXp _ _ _ _,rfl,(fun r h=>ZPs),(fun r h=>ZPs),rfl,rfl,rfl⟩,HR⟩
 case round=>
  obtain⟨j,s,ok,nv,tv,ts,hj,hsj,rfl,rfl,rfl,hB,hS,hr⟩:=hrel;clear z0 z1 z2 z3 z4 z5 z6 z7 z8 z9 Jk Qv z12 Qw Qx Qy;have y12:=Zb6.out wr hB;by_cases hlt:j<nf
  ·obtain⟨g,p,fl,k,i,f',g',w,h,rfl,hc1,hx,t2,t4⟩:=Zlu.out wr hB j U;have KG:Hid ((match JP db fl.text with
     |none=>XC db ((elems fr).drop (j+1)) s false
     |some t=>if s.names.contains (if fl.Zx= []then fl.text else fl.Zx)then XC db ((elems fr).drop (j+1)) s false else XC db ((elems fr).drop (j+1)) {s with names:=s.names++ [if fl.Zx= []then fl.text else fl.Zx],tabs:=s.tabs++ [t]} ok)=R):=by
    show _=_;rw[<-hr.out,ZXl (by omega:j<(elems fr).length),hx,XC];rfl
   clear hr hx;have ZhY:=hS.out.obj;obtain⟨y0,y1,y2,y3,y4⟩:=cells5 ZhY;have hfind:=ZKm [J] _ db fl.text wr U (HDB.out.same (Same.of_below (X:= []) hB) ZPm);obtain⟨an,cn,rfl⟩:=U6 hS.out.ZaV;obtain⟨at_,ct,rfl⟩:=U6 hS.out.UE;have Zuf:QS wr (.slice an s.names.length cn) s.names:=Zox hS.out.ZaV;have hhas:=fun n m=>ZoU (.slice an s.names.length cn) s.names n (wr.drewN m) U (Zuf.drew m);have ZiW:=(show Hid _ from hhas);clear hhas Zuf;have hnm:∃nm,(if fl.Zx= []then fl.text else fl.Zx)=nm/\(((fl.Zx== [])=true/\nm=fl.text)\/((fl.Zx== [])=false/\nm=fl.Zx)):=by
    by_cases h0:fl.Zx= []
    ·exact⟨_,rfl,.inl ⟨by simp[h0],ZWR h0⟩⟩
    ·exact⟨_,rfl,.inr ⟨by simp[h0],ZWQ h0⟩⟩
   obtain⟨nm,hnm,hnc⟩:=hnm;rw[hnm]at KG;clear hnm;have hnw:W.heap.size<wr.heap.size:=(ZWU.1 ZhY).1;rcases Zsg fl.text db 0 with⟨e1,e2⟩|⟨i',t,e1,e2,e3⟩
   ·rw[e1]at KG;rw[e2]at hfind;clear e1 e2;rcases hnc with⟨b0,rfl⟩|⟨b0,rfl⟩;all_goals
     go_wp2_with fail;refine hfind.mono ?_;rintro e w1 ⟨rfl,n1,rfl⟩;go_wp2_with fail;refine(ZiW.out _ _).mono ?_;rintro e w2 ⟨rfl,n2,rfl⟩;go_wp2_with fail;go_roundg (nf-(j+1)+1);case measure=>omega
     case rel=>exact⟨j+1,s,false,_,_,ts,U,U,rfl,ZPp,rfl,hB.trans ⟨rfl,rfl,rfl,ZWS _,fun _ _=>rfl⟩,hS.out.drew _,KG⟩
   ·rw[e2]at KG;rw[e3,ZX5]at hfind;clear e2 e3;cases hct:s.names.contains nm with
    |true=>
     have ZiZ:Hid (XC db ((elems fr).drop (j+1)) s false=R):=by show _=_;have h:=KG.out;rw[hct]at h;exact h
     have HCT:=(show Hid _ from hct);clear KG hct;rcases hnc with⟨b0,rfl⟩|⟨b0,rfl⟩;all_goals
      go_wp2_with fail;refine hfind.mono ?_;rintro e w1 ⟨rfl,n1,rfl⟩;go_wp2_with fail;refine(ZiW.out _ _).mono ?_;rintro e w2 ⟨rfl,n2,rfl⟩;rw[HCT.out];go_wp2_with fail;go_roundg (nf-(j+1)+1);case measure=>omega
      case rel=>exact⟨j+1,s,false,_,_,ts,U,U,rfl,ZPp,rfl,hB.trans ⟨rfl,rfl,rfl,ZWS _,fun _ _=>rfl⟩,hS.out.drew _,ZiZ⟩
    |false=>
     have ZiZ:Hid (XC db ((elems fr).drop (j+1)) {s with names:=s.names++ [nm],tabs:=s.tabs++ [t]} ok=R):=by show _=_;have h:=KG.out;rw[hct]at h;exact h
     have HCT:=(show Hid _ from hct);clear KG hct;have hown1:=hS.out.ZaV;have hown2:=hS.out.UE;have hil:i'<db.length:=(ZXq.1 e1).1;have Zkn:∀m,(wr.drewN m).ownsRow W.heap.size 9 1 (.slice an s.names.length cn) s.names.length (s.names.map Zp):=fun m=>hown1;have ZtV:∀m,(wr.drewN m).ownsRow W.heap.size 52 4 (.slice at_ s.tabs.length ct) s.tabs.length (ES ts):=fun m=>hown2;have KE:Hid (some W.heap.size≠(Value.slice an s.names.length cn).ownBlock):=own_ne hown1 ZhY ZPl;rcases hnc with⟨b0,rfl⟩|⟨b0,rfl⟩
     ·go_wp2_with fail;refine hfind.mono ?_;rintro e w1 ⟨rfl,n1,rfl⟩;go_wp2_with fail;refine(ZiW.out _ _).mono ?_;rintro e w2 ⟨rfl,n2,rfl⟩;rw[HCT.out];go_upto_region 14 with(at_builtin;go_must (refine ZXg _ rfl _ _ 22 rfl W.heap.size 9 i0 (.string ⟨#[]⟩) 1 16 underlying22 hi hz0 hz1 hz2 rfl ZPl _ _ _ rfl ((Zkn _).alloc _) ⟨wr.heap.size,0,none⟩ 1 1 [Zp fl.text] rfl rfl (ZXm _ _ _) ZPJ ZPq U ZPo ?_);intro v' w5 hown' hgrow _;obtain⟨av,JE,rfl⟩:=U6 hown';have hb5:=(hgrow.block W.heap.size ZPo KE.out).trans ((ZXa _ _ _ hnw).trans ZhY);obtain⟨x0,x1,x2,x3,x4⟩:=cells5 hb5;have xf:=Vh hb5 0;have xf1:=Vh hb5 1)
      have hb6:=Xn (k:=0) (u:=.slice av (s.names.length+1) JE) hb5;have ZcD:=ZaF (k:=0) (u:=.slice av (s.names.length+1) JE) (Zfn ((ZtV _).alloc _) hgrow (ZjP hown2 hown1 ZPl)) hb5 ZPl;have ZhZ:=ZaF (k:=0) (u:=.slice av (s.names.length+1) JE) hown' hb5 ZPl;have hB6:=(XM (hB.trans (show Below W.heap.size wr (wr.drewN (n1+n2)) from ⟨rfl,rfl,rfl,ZWS _,fun _ _=>rfl⟩)) (ZYg hnw) (Zkn _) hgrow).setCell (p:=⟨W.heap.size,0,none⟩) (ZWS _) (.slice av (s.names.length+1) JE);clear x0 x1 x2 x3 x4 xf xf1 hb5 hown' hgrow;generalize w5.setCell ⟨W.heap.size,0,none⟩ (.slice av (s.names.length+1) JE)=w6 at *;obtain⟨gd,cv,tyv,rfl,YU⟩:=HDC.out i' hil;rw[(ZXq.1 e1).2]at YU;have Zcz:gd<W.heap.size:=ZWW _ _ YU.nm;have KI:Hid (XF [J] W cv t.Ze/\XF [J] W tyv t.types):=⟨YU.Ze,YU.types⟩;obtain⟨ca,cc,rfl,_⟩:=YU.Ze;obtain⟨ya,yc,rfl,_⟩:=YU.types;obtain⟨ra,rn,rc,hr3⟩:=YU.r;have d0:=(hB6.cell (p:=⟨gd,i'*4,none⟩) Zcz).trans YU.nm;have d1:=(hB6.cell (p:=⟨gd,i'*4+1,none⟩) Zcz).trans YU.c;have d2:=(hB6.cell (p:=⟨gd,i'*4+2,none⟩) Zcz).trans YU.ty;have d3:=(hB6.cell (p:=⟨gd,i'*4+3,none⟩) Zcz).trans hr3;obtain⟨x0,x1,x2,x3,x4⟩:=cells5 hb6;have ZhW:W.heap.size<w6.heap.size:=(ZWU.1 hb6).1;have ZlK:Hid (some W.heap.size≠(Value.slice at_ s.tabs.length ct).ownBlock):=own_ne ZcD hb6 ZPl;have hsl2:=hS.out.len;obtain⟨i1,hj0,hj1,hj2,XH⟩:=ZXd Zuk;clear YU hr3;go_region_law (refine ZX9 _ rfl _ _ 25 rfl W.heap.size 52 i1 (.agg #[.string ⟨#[]⟩,.slice none 0 0,.slice none 0 0,.slice none 0 0]) 4 88 underlying25 hj0 hj1 hj2 XH rfl ZPl (.slice at_ s.tabs.length ct) s.tabs.length (ES ts) rfl (by exact ZcD.alloc _) ⟨w6.heap.size,0,none⟩ 1 1 [.string ⟨t.name.toArray⟩,.slice ca t.Ze.length cc,.slice ya t.types.length yc,.slice ra rn rc] rfl rfl (by exact Zst _ _ _ _ _ _) ZPA U ZPq U ZPo _ rfl ?_;intro g2 cap2 w7 EH Xq hlies Zdz;have Jq:=(Xq.block W.heap.size ZPo ZlK.out).trans ((ZXa _ _ _ (by exact ZhW)).trans (by exact hb6));obtain⟨v0,v1,v2,v3,v4⟩:=cells5 Jq;have vf:=Vh Jq 1);all_goals
       go_wp2_with fail;go_roundg (nf-(j+1)+1);case measure=>omega
       case rel=>
        have Ut:(w6.alloc (.cells #[.string ⟨t.name.toArray⟩,.slice ca t.Ze.length cc,.slice ya t.types.length yc,.slice ra rn rc] 52)).grownBy w7 (Value.slice at_ s.tabs.length ct).ownBlock:=⟨Xq.os,Xq.tape,Xq.output,Xq.size,Xq.block⟩;have o1:=ZaF (k:=1) (u:=.slice (some ⟨g2,0,none⟩) (s.tabs.length+1) cap2) (Zfn (ZhZ.alloc _) Ut (ZjP ZhZ ZcD ZPl)) Jq ZPl;have o2:=ZaF (k:=1) (u:=.slice (some ⟨g2,0,none⟩) (s.tabs.length+1) cap2) EH Jq ZPl;have ob:=Xn (k:=1) (u:=.slice (some ⟨g2,0,none⟩) (s.tabs.length+1) cap2) Jq;have hBz:=(XM hB6 (ZYg ZhW) ZcD Ut).setCell (p:=⟨W.heap.size,1,none⟩) (ZWS _) (.slice (some ⟨g2,0,none⟩) (s.tabs.length+1) cap2);refine⟨j+1,{s with names:=s.names++ [fl.text],tabs:=s.tabs++ [t]},ok,.slice av (s.names.length+1) JE,.slice (some ⟨g2,0,none⟩) (s.tabs.length+1) cap2,ts++ [(t,.slice ca t.Ze.length cc,.slice ya t.types.length yc,.slice ra rn rc)],U,ZPo,rfl,ZPp,rfl,by exact hBz,?_,ZiZ⟩;refine⟨by exact ob,?_,?_,by simp[hS.out.tabs],fun r hr=>?_,fun r hr=>?_,by simp;exact hsl2,hS.out.phase,hS.out.YB⟩
        ·rw[ZW9,ZWY];exact o1
        ·rw[ZW9,ZwQ];exact o2
        ·rcases ZXt.1 hr with hr|hr
         ·exact hS.out.strs r hr
         ·exact ZVF
        ·rcases ZXt.1 hr with hr|hr
         ·exact hS.out.rows r hr
         ·exact ZVG
     ·go_wp2_with fail;refine hfind.mono ?_;rintro e w1 ⟨rfl,n1,rfl⟩;go_wp2_with fail;refine(ZiW.out _ _).mono ?_;rintro e w2 ⟨rfl,n2,rfl⟩;rw[HCT.out];go_upto_region 14 with(at_builtin;go_must (refine ZXg _ rfl _ _ 22 rfl W.heap.size 9 i0 (.string ⟨#[]⟩) 1 16 underlying22 hi hz0 hz1 hz2 rfl ZPl _ _ _ rfl ((Zkn _).alloc _) ⟨wr.heap.size,0,none⟩ 1 1 [Zp fl.Zx] rfl rfl (ZXm _ _ _) ZPJ ZPq U ZPo ?_);intro v' w5 hown' hgrow _;obtain⟨av,JE,rfl⟩:=U6 hown';have hb5:=(hgrow.block W.heap.size ZPo KE.out).trans ((ZXa _ _ _ hnw).trans ZhY);obtain⟨x0,x1,x2,x3,x4⟩:=cells5 hb5;have xf:=Vh hb5 0;have xf1:=Vh hb5 1)
      have hb6:=Xn (k:=0) (u:=.slice av (s.names.length+1) JE) hb5;have ZcD:=ZaF (k:=0) (u:=.slice av (s.names.length+1) JE) (Zfn ((ZtV _).alloc _) hgrow (ZjP hown2 hown1 ZPl)) hb5 ZPl;have ZhZ:=ZaF (k:=0) (u:=.slice av (s.names.length+1) JE) hown' hb5 ZPl;have hB6:=(XM (hB.trans (show Below W.heap.size wr (wr.drewN (n1+n2)) from ⟨rfl,rfl,rfl,ZWS _,fun _ _=>rfl⟩)) (ZYg hnw) (Zkn _) hgrow).setCell (p:=⟨W.heap.size,0,none⟩) (ZWS _) (.slice av (s.names.length+1) JE);clear x0 x1 x2 x3 x4 xf xf1 hb5 hown' hgrow;generalize w5.setCell ⟨W.heap.size,0,none⟩ (.slice av (s.names.length+1) JE)=w6 at *;obtain⟨gd,cv,tyv,rfl,YU⟩:=HDC.out i' hil;rw[(ZXq.1 e1).2]at YU;have Zcz:gd<W.heap.size:=ZWW _ _ YU.nm;have KI:Hid (XF [J] W cv t.Ze/\XF [J] W tyv t.types):=⟨YU.Ze,YU.types⟩;obtain⟨ca,cc,rfl,_⟩:=YU.Ze;obtain⟨ya,yc,rfl,_⟩:=YU.types;obtain⟨ra,rn,rc,hr3⟩:=YU.r;have d0:=(hB6.cell (p:=⟨gd,i'*4,none⟩) Zcz).trans YU.nm;have d1:=(hB6.cell (p:=⟨gd,i'*4+1,none⟩) Zcz).trans YU.c;have d2:=(hB6.cell (p:=⟨gd,i'*4+2,none⟩) Zcz).trans YU.ty;have d3:=(hB6.cell (p:=⟨gd,i'*4+3,none⟩) Zcz).trans hr3;obtain⟨x0,x1,x2,x3,x4⟩:=cells5 hb6;have ZhW:W.heap.size<w6.heap.size:=(ZWU.1 hb6).1;have ZlK:Hid (some W.heap.size≠(Value.slice at_ s.tabs.length ct).ownBlock):=own_ne ZcD hb6 ZPl;have hsl2:=hS.out.len;obtain⟨i1,hj0,hj1,hj2,XH⟩:=ZXd Zuk;clear YU hr3;go_region_law (refine ZX9 _ rfl _ _ 25 rfl W.heap.size 52 i1 (.agg #[.string ⟨#[]⟩,.slice none 0 0,.slice none 0 0,.slice none 0 0]) 4 88 underlying25 hj0 hj1 hj2 XH rfl ZPl (.slice at_ s.tabs.length ct) s.tabs.length (ES ts) rfl (by exact ZcD.alloc _) ⟨w6.heap.size,0,none⟩ 1 1 [.string ⟨t.name.toArray⟩,.slice ca t.Ze.length cc,.slice ya t.types.length yc,.slice ra rn rc] rfl rfl (by exact Zst _ _ _ _ _ _) ZPA U ZPq U ZPo _ rfl ?_;intro g2 cap2 w7 EH Xq hlies Zdz;have Jq:=(Xq.block W.heap.size ZPo ZlK.out).trans ((ZXa _ _ _ (by exact ZhW)).trans (by exact hb6));obtain⟨v0,v1,v2,v3,v4⟩:=cells5 Jq;have vf:=Vh Jq 1);all_goals
       go_wp2_with fail;go_roundg (nf-(j+1)+1);case measure=>omega
       case rel=>
        have Ut:(w6.alloc (.cells #[.string ⟨t.name.toArray⟩,.slice ca t.Ze.length cc,.slice ya t.types.length yc,.slice ra rn rc] 52)).grownBy w7 (Value.slice at_ s.tabs.length ct).ownBlock:=⟨Xq.os,Xq.tape,Xq.output,Xq.size,Xq.block⟩;have o1:=ZaF (k:=1) (u:=.slice (some ⟨g2,0,none⟩) (s.tabs.length+1) cap2) (Zfn (ZhZ.alloc _) Ut (ZjP ZhZ ZcD ZPl)) Jq ZPl;have o2:=ZaF (k:=1) (u:=.slice (some ⟨g2,0,none⟩) (s.tabs.length+1) cap2) EH Jq ZPl;have ob:=Xn (k:=1) (u:=.slice (some ⟨g2,0,none⟩) (s.tabs.length+1) cap2) Jq;have hBz:=(XM hB6 (ZYg ZhW) ZcD Ut).setCell (p:=⟨W.heap.size,1,none⟩) (ZWS _) (.slice (some ⟨g2,0,none⟩) (s.tabs.length+1) cap2);refine⟨j+1,{s with names:=s.names++ [fl.Zx],tabs:=s.tabs++ [t]},ok,.slice av (s.names.length+1) JE,.slice (some ⟨g2,0,none⟩) (s.tabs.length+1) cap2,ts++ [(t,.slice ca t.Ze.length cc,.slice ya t.types.length yc,.slice ra rn rc)],U,ZPo,rfl,ZPp,rfl,by exact hBz,?_,ZiZ⟩;refine⟨by exact ob,?_,?_,by simp[hS.out.tabs],fun r hr=>?_,fun r hr=>?_,by simp;exact hsl2,hS.out.phase,hS.out.YB⟩
        ·rw[ZW9,ZWY];exact o1
        ·rw[ZW9,ZwQ];exact o2
        ·rcases ZXt.1 hr with hr|hr
         ·exact hS.out.strs r hr
         ·exact ZVF
        ·rcases ZXt.1 hr with hr|hr
         ·exact hS.out.rows r hr
         ·exact ZVG
  ·obtain rfl:j=nf:=by omega
   have e:(elems fr).drop j= []:=ZYB U;have HRE:Hid ((s,ok)=R):=by show _=_;rw[<-hr.out,e,XC]
   clear hr e;go_wp2_with fail;go_ret2;have e2:=HRE.out;subst e2;exact⟨o,nv,tv,ts,rfl,rfl,hB,hS.out,by show s.names.length<=400;omega⟩
theorem ZfS{W:World}{B:Nat}{v:Value}{l:List Za}{X:List Nat}(h:W.ownsRow B 9 1 v l.length (l.map Zp))(hX:∀x∈X,x<B):XF X W v l:=by
 have hc:=fun g=>h.cells (g:=g);rcases h.2 with⟨rfl,h0⟩|⟨g,cap,cur,rfl,hb,_⟩
 ·have:l= []:=ZX7.1 h0;subst this;exact ZT3
 ·refine⟨some ⟨g,0,none⟩,cap,rfl,fun i hi=>⟨g,rfl,fun hx=>?_,?_⟩⟩
  ·have:=hX g hx;omega
  ·have:=hc g rfl i (Zp l[i]) ZRj;exact ZWc
theorem Zis{J:Nat}{W W':World}{B e sz n:Nat}{v:Value}{xs:List Value}(h:W.ownsRow B e sz v n xs)(hJ:J<B)(hk:Zb J W W'):W'.ownsRow B e sz v n xs:=by
 refine⟨h.1,?_⟩;rcases h.2 with h0|⟨g,cap,cu,rfl,hb,hh,r⟩
 ·exact ZS4
 ·exact .inr ⟨g,cap,cu,rfl,hb,hk.obj U hh,r⟩
theorem ZfJ{J n:Nat}{W w w':World}(h:Zb J W w)(hB:Below n w w')(hn:W.heap.size<=n):Zb J W w':=
 ⟨hB.os.trans h.os,hB.tape.trans h.tape,hB.output.trans h.output,ZW0 h.size hB.size,fun g hg hl=>(hB.block g (ZXi hl hn)).trans (h.block g hg hl)⟩
theorem ZeF{J n:Nat}{Zj:Value}{r:Jr}{w w':World}(h:Jg J Zj r w)(hB:Below n w w')(hn:J<n):Jg J Zj r w':=(hB.block J hn).trans h
theorem ZKn(a b:Za)(W:World):Calls prog 42 #[.string ⟨a.toArray⟩,.string ⟨b.toArray⟩] W fun e W'=>e= .returned (.bool (Xx a b))/\∃n,W'=W.drewN n:=
 (Zf2 a b W).mono fun e W' h=>⟨h.1,0,h.2.symm⟩
def JI(a b:Za):Za:=if a=Jd then b else a
theorem Zry:∀a b:List Za,X3 a b=(List.zipWith JI a b,(List.zipWith Xx a b).all id&&decide (a.length=b.length))
 | [], []=>rfl
 |a::r,b::q=>by
  rw[X3,Zry r q];simp[JI,Bool.and_assoc]
 | [],_::_=>by simp[X3]
 |_::_, []=>by simp[X3]
theorem Zv0(f:Fl)(x y:Tr)(hf:(f.kind== [115,101,108,101,99,116])=false)(hx:Zbk x)(hy:Zbk y):Zbk (nd f (l2 x y)):=by
 intro J b Zj db r up uv W tv hj hI hl hp hg;unfold nd l2 at *;rw[X7]at hp;obtain⟨q,vk,vi,vf,vg,vw,vh,rfl,XT,hqb,Zn,s1,s2,s3,s4,p1,p2⟩:=hp;rw[Good]at hg;obtain⟨hn,gk,_⟩:=hg;rw[Yp,Yp]at gk;rw[jq,ZWQ (by simpa[QE]using hf),K8,jq2,K8,Zry];obtain⟨g,c,u1,u2,rfl,hgJ,hgb,hc0,hc1,hpx,hpy⟩:=Zpk s1;obtain⟨o,rfl⟩:∃o,uv= .pointer o:=by
  have hs:=hI.sc;cases up with
  |nil=>exact⟨_,hs⟩
  |cons s up=>obtain⟨b,_,_,_,_,rfl,_⟩:=hs;exact⟨_,rfl⟩
 have hcall:=hx J b Zj db r up _ W _ hj hI ZQR hpx gk.1;have ZfA:Hid (∀w',Zb J W w'->∀r1,Jg J Zj r1 w'->Calls prog 21 #[.pointer (some ⟨J,0,none⟩),.pointer u2,.pointer o] w' fun e W'=>∃v,e= .returned v/\Zb J w' W'/\Jg J Zj (r1.or (jq db y up).2) W'/\XF [J] W' v (jq db y up).1/\(jq db y up).1.length<=10000):=
  fun w' hK r1 hj1=>hy J b Zj db r1 up _ w' _ hj1 (hI.keep hK) ZQR (hpy.keep hK) gk.2.1
 obtain⟨z0,z1,z2,z3,z4,z5,z6,z7,z8,z9,Jk,Qv,z12,Qw,Qx,Qy⟩:=QB Zn;have HZ:Hid (∀w',Zb J W w'->w'.cell? ⟨q,10,none⟩=some (.slice (some ⟨g,0,none⟩) (Tr.nil.len+2) c)/\w'.cell? ⟨g,1,none⟩=some (.pointer u2)):=fun w' h=>⟨h.cell XT Jk,h.cell hgJ hc1⟩;have hJl:J<W.heap.size:=(ZWU.1 hj).1;clear hj hI hpx hpy s1 s2 s3 s4 p1 p2 gk Zn hn hl hx hy Qv z12 Qw Qx Qy;generalize jq db x up=R at *;obtain⟨TA,RA⟩:=R;generalize jq db y up=R at *;obtain⟨TB,RB⟩:=R;obtain⟨i0,hi,hz0,hz1,hz2⟩:=ZXd Tryz.ZeE;go_enter func21,ntmps21;go_wp2_with fail;refine hcall.mono ?_;rintro e w1 ⟨v1,rfl,hK1,hj1,hv1,hl1⟩;obtain⟨y1,y2⟩:=HZ.out w1 hK1;obtain⟨a1,c1,rfl⟩:∃a c,v1= .slice a TA.length c:=by obtain⟨a,c,e,_⟩:=hv1;exact⟨a,c,e⟩
 go_wp2_with fail;refine(ZfA.out w1 hK1 _ hj1).mono ?_;rintro e w2 ⟨v2,rfl,hK2,hj2,hv2,hl2⟩;obtain⟨a2,c2,rfl⟩:∃a c,v2= .slice a TB.length c:=by obtain⟨a,c,e,_⟩:=hv2;exact⟨a,c,e⟩
 have Zud:=hv1.same (Same.X6 hK2) (fun _ h=>h);clear hv1 y1 y2;go_wp2_with fail;refine(Eh J Zj _ _ _ hj2).mono ?_;rintro e w3 ⟨rfl,hK3,XH⟩;have hEQ:((TA.length:Int)==(TB.length:Int))=decide (TA.length=TB.length):=by rw[ZXG];simp;omega
 rw[hEQ]at XH;have HV1:Hid (∀w',Zb J w3 w'->XF [J] w' (.slice a1 TA.length c1) TA):=fun w' h=>Zud.same (Same.X6 (hK3.trans h)) (fun _ h=>h);have HV2:Hid (∀w',Zb J w3 w'->XF [J] w' (.slice a2 TB.length c2) TB):=fun w' h=>hv2.same (Same.X6 (hK3.trans h)) (fun _ h=>h);have hKW:Zb J W w3:=(hK1.trans hK2).trans hK3;have hJ3:J<w3.heap.size:=ZXi hJl hKW.size;clear hEQ Zud hv2 hj1 hj2 hcall ZfA HZ;generalize hr3:((r.or RA).or RB).or {ZG:= !decide (TA.length=TB.length)}=r3 at XH;have HR3:=(show Hid _ from hr3);clear hr3;go_wp2_with fail;go_loopg [9,10] (TA.length+1) (fun gk ov iv wr=>∃i:Nat,i<=TA.length/\i<=TB.length/\gk=TA.length-i+1/\iv= .int .i64 i/\wr.ownsRow w3.heap.size 9 1 ov i (((List.zipWith JI TA TB).take i).map Zp)/\Zb J w3 wr/\Hid (Jg J Zj (r3.or {ZG:= !((List.zipWith Xx TA TB).take i).all id}) wr));case atStart=>exact⟨0,U,U,U,rfl,ZXp _ _ _ _,Zb.refl _ _,Jg.eq XH (by simp[Jr.or_none])⟩
 case round=>
  obtain⟨i,hia,hib,rfl,rfl,hown,hK,hJ⟩:=hrel;by_cases hlt:i<TA.length/\i<TB.length
  ·obtain⟨hla,hlb⟩:=hlt;obtain⟨sa,sc,e,JR⟩:=HV1.out wr hK;cases e;obtain⟨ga,rfl,_,ca⟩:=JR i hla;obtain⟨sb,sd,e,hcb⟩:=HV2.out wr hK;cases e;obtain⟨gb,rfl,_,cb⟩:=hcb i hlb;have HZ1:Hid ((List.zipWith JI TA TB).take (i+1)=(List.zipWith JI TA TB).take i++ [JI TA[i] TB[i]]):=by
    show _=_;rw[ZXA ZPo];simp
   have HZ2:Hid ((List.zipWith Xx TA TB).take (i+1)=(List.zipWith Xx TA TB).take i++ [Xx TA[i] TB[i]]):=by
    show _=_;rw[ZXA ZPo];simp
   clear JR hcb;have HG:Hid (∀w',Zb J wr w'->w'.cell? ⟨ga,i,none⟩=some (.string ⟨TA[i].toArray⟩)/\w'.cell? ⟨gb,i,none⟩=some (.string ⟨TB[i].toArray⟩)):=fun w' h=>by
    obtain⟨sa,sc,e,JR⟩:=HV1.out w' (hK.trans h);obtain⟨ga',e',_,ca'⟩:=JR i hla;obtain⟨sb,sd,e2,hcb⟩:=HV2.out w' (hK.trans h);obtain⟨gb',e3,_,cb'⟩:=hcb i hlb;cases e;cases e2;cases e';cases e3;exact⟨ca',cb'⟩
   generalize TA[i]=A at *;generalize TB[i]=B at *;have ZOh:(i:Int)<(TA.length:Int):=U
   have ZOi:(i:Int)<(TB.length:Int):=U
   go_wp2_with fail;go_quiet ((go_at_call 42;exact Calls.quiet_of (ZKn A B _)));go_wp2_with fail;refine(Eh J Zj _ _ _ (hJ.out.drew _)).mono ?_;rintro e w5 ⟨rfl,Yg,hj5⟩;replace Yg:Zb J wr w5:=(Zb.drew _ _ _).trans Yg;obtain⟨ca5,cb5⟩:=HG.out w5 Yg;have hown5:=Zis hown hJ3 Yg;have Zfu:=hK.trans Yg;have hsz5:=Zfu.size;by_cases ZfE:A=Jd
   ·have b0:(A== [110,117,108,108])=true:=by rw[ZfE];rfl
    have HP:Hid (JI A B=B):=by show _=_;rw[JI,ZWR ZfE]
    clear ZfE;go_wp2_with (at_builtin;go_must (refine ZXg _ rfl _ _ 22 rfl w3.heap.size 9 i0 (.string ⟨#[]⟩) 1 16 underlying22 hi hz0 hz1 hz2 rfl ZPl _ _ _ rfl (hown5.alloc _) ⟨w5.heap.size,0,none⟩ 1 1 [Zp B] rfl rfl (ZXm _ _ _) ZPJ ZPq U ZPo ?_);intro v' w6 hown' hgrow _);go_roundg (TA.length-(i+1)+1);case measure=>omega
    case rel=>
     exact ZU7
   ·have b0:(A== [110,117,108,108])=false:=by simpa[Jd]using ZfE
    have HP:Hid (JI A B=A):=by show _=_;rw[JI,ZWQ ZfE]
    clear ZfE;go_wp2_with (at_builtin;go_must (refine ZXg _ rfl _ _ 22 rfl w3.heap.size 9 i0 (.string ⟨#[]⟩) 1 16 underlying22 hi hz0 hz1 hz2 rfl ZPl _ _ _ rfl (hown5.alloc _) ⟨w5.heap.size,0,none⟩ 1 1 [Zp A] rfl rfl (ZXm _ _ _) ZPJ ZPq U ZPo ?_);intro v' w6 hown' hgrow _);go_roundg (TA.length-(i+1)+1);case measure=>omega
    case rel=>
     exact ZU7
  ·have hz:(List.zipWith JI TA TB).length=i:=by simp;omega
   have hz':(List.zipWith Xx TA TB).length=i:=by simp;omega
   have hfin:wr.ownsRow w3.heap.size 9 1 u9 (List.zipWith JI TA TB).length ((List.zipWith JI TA TB).map Zp):=by
    rw[ZXB U]at hown;rw[hz];exact hown
   have hsx:XF [J] wr u9 (List.zipWith JI TA TB):=ZfS hfin (by simpa using hJ3);have HF:Hid (Jg J Zj (r.or ((RA.or RB).or {ZG:= !((List.zipWith Xx TA TB).all id&&decide (TA.length=TB.length))})) wr):=Jg.eq hJ.out (by
    rw[ZXB U,<-HR3.out];simp[Jr.or,ZXx,Bool.or_comm (!decide (TA.length=TB.length))])
   have hll:(List.zipWith JI TA TB).length<=10000:=U
   have Zgs:Hid (XF [J] wr u9 (List.zipWith JI TA TB)/\(List.zipWith JI TA TB).length<=10000):=⟨hsx,hll⟩;clear hfin hsx hll hown hz hz';rcases Nat.lt_or_ge i TA.length with h1|h1
   ·have h2:i=TB.length:=by omega
    subst h2;have h1':(TB.length:Int)<(TA.length:Int):=U
    exact ZUL
   ·have h2:i=TA.length:=by omega
    subst h2;exact ZUL
def U3(c:UInt8):Bool:=Zi.contains c
def KT(c:UInt8):Bool:=(Ya++Zi).contains c
def KR(c:UInt8):Bool:=c != 10
theorem Zji{p:UInt8->Bool}(h:(List.range 256).all (fun n=>p (UInt8.ofNat n))=true)(c:UInt8):p c=true:=by
 have h1:=ZXQ.1 h c.toNat (by simp;exact c.toNat_lt);rwa [UInt8.ofNat_toNat]at h1
theorem Zrj(c:UInt8):U3 c=decide (48<=(c.toNat:Int)/\(c.toNat:Int)<=57):=by
 have:=Zji (p:=fun c=>U3 c==decide (48<=(c.toNat:Int)/\(c.toNat:Int)<=57)) ZP5 c;exact ZWN
theorem Zz8(c:UInt8):KT c=decide ((48<=(c.toNat:Int)/\(c.toNat:Int)<=57)\/(97<=(c.toNat:Int)/\(c.toNat:Int)<=122)\/(65<=(c.toNat:Int)/\(c.toNat:Int)<=90)\/(c.toNat:Int)=95):=by
 have:=Zji (p:=fun c=>KT c==decide ((48<=(c.toNat:Int)/\(c.toNat:Int)<=57)\/(97<=(c.toNat:Int)/\(c.toNat:Int)<=122)\/(65<=(c.toNat:Int)/\(c.toNat:Int)<=90)\/(c.toNat:Int)=95)) ZP5 c;exact ZWN
theorem Zz1(c:UInt8):KR c=((c.toNat:Int) != 10):=by
 have:=Zji (p:=fun c=>KR c==((c.toNat:Int) != 10)) ZP5 c;exact ZWN
theorem Zjo(p:UInt8->Bool):∀(s:Za),(∀j,(h:j<s.length)->p s[j]=true)->(s.takeWhile p).length=s.length
 | [],_=>rfl
 |c::s,h=>by
  have h0:=h 0 ZPm;simp only[List.getElem_cons_zero]at h0;rw[ZXs,h0,ZWR rfl,List.length_cons,Zjo p s (fun j hj=>ZRO),List.length_cons]
theorem Zjp(p:UInt8->Bool):∀(s:Za) (k:Nat) (hk:k<s.length),(∀j,j<k->(h':j<s.length)->p s[j]=true)->p s[k]=false->(s.takeWhile p).length=k
 |c::s,0,_,_,h0=>by
  simp only[List.getElem_cons_zero]at h0;rw[ZXs,h0];rfl
 |c::s,k+1,hk,h,h0=>by
  have h1:=h 0 U ZPm;simp only[List.getElem_cons_zero]at h1;simp only[List.getElem_cons_succ]at h0;rw[ZXs,h1,ZWR rfl,List.length_cons,Zjp p s k ZQD (fun j hj hl=>ZRP) h0]
theorem ZpJ(c:UInt8)(w:World):
  Calls prog 132 #[.int .u8 c.toNat] w fun e w'=>e= .returned (.bool (U3 c))/\w=w':=by
 have H:Hid _:=Zrj c;go_enter func132,ntmps132;go_wp2;all_goals
  go_ret;refine⟨Xw ?_,rfl⟩;rw[H.out];exact ZWf
theorem Zxh(c:UInt8)(w:World):
  Calls prog 131 #[.int .u8 c.toNat] w fun e w'=>e= .returned (.bool (KR c))/\w=w':=by
 go_enter func131,ntmps131;go_wp2;go_ret;exact⟨Xw (Zz1 c).symm,rfl⟩
theorem Zxi(c:UInt8)(w:World):
  Calls prog 134 #[.int .u8 c.toNat] w fun e w'=>e= .returned (.bool (KT c))/\w=w':=by
 have H:Hid _:=Zz8 c;have H2:Hid _:=Zrj c;go_enter func134,ntmps134;go_wp2_with fail;refine(ZpJ c _).mono ?_;rintro e w' ⟨rfl,rfl⟩;cases hd:U3 c;all_goals
  have HD:Hid _:=hd;clear hd;go_wp2
 all_goals
  go_ret;refine⟨Xw ?_,rfl⟩;have hd:=HD.out;rw[H2.out]at hd;rw[H.out];first|(rw[ZYl]at hd)|(rw[ZXw]at hd)
  exact ZWf
theorem ZM3(s:Za)(w:World)(hs:s.length<=90000):
  Calls prog 130 #[.string ⟨s.toArray⟩,.func (.func 132) #[] #[]] w fun e w'=>e= .returned (.int .i64 (s.takeWhile U3).length)/\w=w':=by
 go_enter func130,ntmps130;go_wp2;go_loop [5] (fun n=>∃k:Nat,k<=s.length/\n= .int .i64 k/\Hid (∀j,j<k->(h:j<s.length)->U3 s[j]=true)) (fun n=>s.length-(intOf n).toNat);case atStart=>exact⟨0,ZW8 _,rfl,ZPZ⟩
 case round=>
  obtain⟨k,hk,rfl,hn⟩:=hrel;by_cases hlt:k<s.length
  ·have hsz:k<(ByteArray.mk s.toArray).size:=hlt;go_wp2_with fail;refine(ZpJ ((ByteArray.mk s.toArray)[k]'hsz) _).mono ?_;rintro e w' ⟨rfl,rfl⟩;cases hc:U3 ((ByteArray.mk s.toArray)[k]'hsz)
   ·go_wp2;go_ret;exact⟨ZcV (by rw[Zjp U3 s k hlt hn.out hc]),rfl⟩
   ·go_wp2;refine⟨⟨k+1,U,ZPx,?_⟩,ZPB⟩;intro j hj hl;by_cases hjk:j=k
    ·subst hjk;exact hc
    ·exact ZTs
  ·go_wp2;go_ret;exact⟨ZcV (by rw[Zjo U3 s (fun j h=>hn.out j U h)];omega),rfl⟩
theorem ZM5(s:Za)(w:World)(hs:s.length<=90000):
  Calls prog 130 #[.string ⟨s.toArray⟩,.func (.func 134) #[] #[]] w fun e w'=>e= .returned (.int .i64 (s.takeWhile KT).length)/\w=w':=by
 go_enter func130,ntmps130;go_wp2;go_loop [5] (fun n=>∃k:Nat,k<=s.length/\n= .int .i64 k/\Hid (∀j,j<k->(h:j<s.length)->KT s[j]=true)) (fun n=>s.length-(intOf n).toNat);case atStart=>exact⟨0,ZW8 _,rfl,ZPZ⟩
 case round=>
  obtain⟨k,hk,rfl,hn⟩:=hrel;by_cases hlt:k<s.length
  ·have hsz:k<(ByteArray.mk s.toArray).size:=hlt;go_wp2_with fail;refine(Zxi ((ByteArray.mk s.toArray)[k]'hsz) _).mono ?_;rintro e w' ⟨rfl,rfl⟩;cases hc:KT ((ByteArray.mk s.toArray)[k]'hsz)
   ·go_wp2;go_ret;exact⟨ZcV (by rw[Zjp KT s k hlt hn.out hc]),rfl⟩
   ·go_wp2;refine⟨⟨k+1,U,ZPx,?_⟩,ZPB⟩;intro j hj hl;by_cases hjk:j=k
    ·subst hjk;exact hc
    ·exact ZTs
  ·go_wp2;go_ret;exact⟨ZcV (by rw[Zjo KT s (fun j h=>hn.out j U h)];omega),rfl⟩
theorem ZM4(s:Za)(w:World)(hs:s.length<=90000):
  Calls prog 130 #[.string ⟨s.toArray⟩,.func (.func 131) #[] #[]] w fun e w'=>e= .returned (.int .i64 (s.takeWhile KR).length)/\w=w':=by
 go_enter func130,ntmps130;go_wp2;go_loop [5] (fun n=>∃k:Nat,k<=s.length/\n= .int .i64 k/\Hid (∀j,j<k->(h:j<s.length)->KR s[j]=true)) (fun n=>s.length-(intOf n).toNat);case atStart=>exact⟨0,ZW8 _,rfl,ZPZ⟩
 case round=>
  obtain⟨k,hk,rfl,hn⟩:=hrel;by_cases hlt:k<s.length
  ·have hsz:k<(ByteArray.mk s.toArray).size:=hlt;go_wp2_with fail;refine(Zxh ((ByteArray.mk s.toArray)[k]'hsz) _).mono ?_;rintro e w' ⟨rfl,rfl⟩;cases hc:KR ((ByteArray.mk s.toArray)[k]'hsz)
   ·go_wp2;go_ret;exact⟨ZcV (by rw[Zjp KR s k hlt hn.out hc]),rfl⟩
   ·go_wp2;refine⟨⟨k+1,U,ZPx,?_⟩,ZPB⟩;intro j hj hl;by_cases hjk:j=k
    ·subst hjk;exact hc
    ·exact ZTs
  ·go_wp2;go_ret;exact⟨ZcV (by rw[Zjo KR s (fun j h=>hn.out j U h)];omega),rfl⟩
theorem ZAl(s:Za):(s.takeWhile U3).length=Zk Zi s:=rfl
theorem ZAm(s:Za):(s.takeWhile KT).length=Zk (Ya++Zi) s:=rfl
theorem Zlm(s:Za)(w:World)(hs:s.length<=90000):
  Calls prog 178 #[.string ⟨s.toArray⟩] w fun e w'=>e= .returned (.int .i64 (Zk Zi s))/\w=w':=by
 go_enter func178,ntmps178;go_wp2_with fail;refine(ZM3 s _ hs).mono ?_;rintro e w' ⟨rfl,rfl⟩;rw[ZAl];exact ZWP
theorem Zxg(s:Za)(w:World)(hs:s.length<=90000):
  Calls prog 157 #[.string ⟨s.toArray⟩] w fun e w'=>e= .returned (.int .i64 (if 0<Zk Zi s then 0 else Zk (Ya++Zi) s:Nat))/\w=w':=by
 by_cases h:0<Zk Zi s
 ·rw[ZWR h];go_enter func157,ntmps157;go_wp2_with fail;refine(Zlm s _ hs).mono ?_;exact ZV6
 ·rw[ZWQ h];go_enter func157,ntmps157;go_wp2_with fail;refine(Zlm s _ hs).mono ?_;rintro e w' ⟨rfl,rfl⟩;go_wp2_with fail;refine(ZM5 s _ hs).mono ?_;rintro e w' ⟨rfl,rfl⟩;rw[ZAm];exact ZWP
theorem Tryz.infoByte:(prog.info? 5).map (fun i=>(i.zero,i.size,i.bytes))=some (some (.int .u8 0),1,1):=by kernel_rfl
def ZaC(c:UInt8):Value:=.int .u8 c.toNat
theorem ZIt{wr:World}{base:Nat}{v:Value}{l:Za}(h:wr.ownsRow base 5 1 v l.length (l.map ZaC)):
  (convert 226 9 v).run prog wr= .ok (.string ⟨l.toArray⟩) wr:=by
 rcases h.2 with⟨rfl,h0⟩|⟨g,cap,cur,rfl,_⟩
 ·obtain rfl:l= []:=ZX7.1 h0;rw[run_convert_bytes_string wr 226 9 5 none 0 0 underlying226 underlying5 underlying9];simp[Conv.bytesToString];rfl
 ·refine run_convert_bytes_back wr 226 9 5 ⟨g,0,none⟩ cap l underlying226 underlying5 underlying9 fun j hj=>?_;exact h.cells (g:=g) rfl j _ (by simp[ZW1 hj,ZaC])
theorem ZpH(s:Za)(w:World)(hs:s.length<=90000):
  Calls prog 136 #[.string ⟨s.toArray⟩] w fun e w'=>e= .returned (.tuple #[.string ⟨(Yn s).1.toArray⟩,.int .i64 (Yn s).2])/\Below w.heap.size w w':=by
 have hex:=QY;obtain⟨i0,hi,hz0,hz1,hz2⟩:=ZXd Tryz.infoByte;go_enter func136,ntmps136;go_wp2;go_loopw [4,5] (fun v i wr=>∃(k:Nat) (acc:Za),1<=k/\k<=s.length+1/\acc.length<=k/\i= .int .i64 k/\wr.ownsRow w.heap.size 5 1 v acc.length (acc.map ZaC)/\Below w.heap.size w wr/\Hid (Qk acc k (s.drop k)=Yn s)) (fun _ i _=>s.length+1-(intOf i).toNat);case atStart=>exact⟨1, [],U,U,ZPm,rfl,ZXp _ _ _ _,ZWT _ _,rfl⟩
 case round=>
  obtain⟨k,acc,hk1,hk,hacc,rfl,hown,hB,hq⟩:=hrel;by_cases hlt:k<s.length
  ·have hsz:k<(ByteArray.mk s.toArray).size:=hlt;have HD:Hid (s.drop k=s[k]::s.drop (k+1)):=VH s k hlt;go_wp2_with fail;refine(Zxh ((ByteArray.mk s.toArray)[k]'hsz) _).mono ?_;rintro e w' ⟨rfl,rfl⟩;cases hc:KR ((ByteArray.mk s.toArray)[k]'hsz)
   ·go_wp2;go_ret2;have hc':KR s[k]=false:=hc;have e1:s[k]=10:=by simpa[KR]using hc'
    have hr:Yn s=([],0):=by rw[<-hq.out,HD.out,e1,Zg1]
    exact⟨ZP2,hB⟩
   ·have hc':KR s[k]=true:=hc;have n1:s[k]≠10:=by simpa[KR]using hc'
    clear hc';have HN:Hid (s[k]≠10):=n1;clear n1;go_wp2_with (at_builtin;refine ZXg _ rfl _ _ 226 rfl w.heap.size 5 i0 (.int .u8 0) 1 1 underlying226 hi hz0 hz1 hz2 rfl ZPl _ _ _ rfl (hown.alloc _) ⟨wr.heap.size,0,none⟩ 1 1 [ZaC ((ByteArray.mk s.toArray)[k]'hsz)] rfl rfl (ZXm _ _ _) (by simp[Value.oneCell',ZaC]) ZPq U ZPV ?_;intro v' w1 hown' hgrow _)
    ·have h2:(((ByteArray.mk s.toArray)[k].toNat:Int)==39)=true:=by assumption
     have e39:s[k]=39:=Zd2 39 h2 rfl;rw[ZXB ZPm];refine(Tryz.strings_HasPrefix _ _ _).mono ?_;rintro e w' ⟨rfl,hw⟩;obtain rfl:=hw.symm;have hpx:Lib.hasPrefix (s.drop k) [39,39]=((s.drop (k+1)).head? ==some 39):=by
      rw[HD.out,e39];cases s.drop (k+1)with
      |nil=>rfl
      |cons d r=>simp[Lib.hasPrefix,List.isPrefixOf,Bool.beq_comm (a:=d)]
     rw[show(ByteArray.mk (s.drop k).toArray).data.toList=s.drop k from rfl,show(ByteArray.mk #[39,39]).data.toList= [39,39] from rfl,hpx];cases hr':((s.drop (k+1)).head? ==some 39);rotate_left
     ·have hr2:∃r',s.drop (k+1)=39::r':=by
       cases hd:s.drop (k+1)with
       |nil=>rw[hd]at hr';cases hr'
       |cons d r=>rw[hd]at hr';simp at hr';exact⟨r,by rw[hr']⟩
      clear hr' hpx;obtain⟨r',hr3⟩:=hr2;have HR:Hid (s.drop (k+1)=39::r'):=hr3;have hl2:k+1<s.length:=by
       have:=congrArg List.length hr3;exact ZWH
      clear hr3;have hsz2:k+1<(ByteArray.mk s.toArray).size:=hl2;go_wp2_with (at_builtin;refine ZXg _ rfl _ _ 226 rfl w.heap.size 5 i0 (.int .u8 0) 1 1 underlying226 hi hz0 hz1 hz2 rfl ZPl _ _ _ rfl (hown.alloc _) ⟨wr.heap.size,0,none⟩ 1 1 [ZaC ((ByteArray.mk s.toArray)[k+1]'hsz2)] rfl rfl (ZXm _ _ _) (by simp[Value.oneCell',ZaC]) ZPq U ZPV ?_;intro v' w1 hown' hgrow _);have hown2:w1.ownsRow w.heap.size 5 1 v' (acc.length+1) (acc.map ZaC++ [ZaC s[k+1]]):=hown';have e2:s[k+1]=39:=by
       have:=HR.out;rw[VH s (k+1) hl2]at this;exact(ZXk this).1
      rw[e2]at hown2;refine⟨⟨k+2,acc++ [39],U,U,ZPo,ZPx,by simpa using hown2,XM hB hB.size hown hgrow,?_⟩,ZPB⟩;show Qk (acc++ [39]) (k+2) (s.drop (k+2))=Yn s;rw[<-hq.out,HD.out,VH s (k+1) hl2,e39,e2,Zg3]
     ·have ZN3:=ZIt hown;clear hpx;have HR:Hid (Yn s=(acc,k+1)):=by
       show Yn s=(acc,k+1);rw[<-hq.out,HD.out,e39,Zdh _ _ _ (fun r' e=>by rw[e]at hr';cases hr')]
      clear hr';go_wp2;go_ret2;exact⟨ZQP,hB⟩
    ·have h2:(((ByteArray.mk s.toArray)[k].toNat:Int)==39)=false:=by assumption
     have n39:s[k]≠39:=Zch 39 h2 rfl;have hown2:w1.ownsRow w.heap.size 5 1 v' (acc.length+1) (acc.map ZaC++ [ZaC s[k]]):=hown';refine⟨⟨k+1,acc++ [s[k]],U,U,ZPo,ZPx,by simpa using hown2,XM hB hB.size hown hgrow,?_⟩,ZPB⟩;show Qk (acc++ [s[k]]) (k+1) (s.drop (k+1))=Yn s;rw[<-hq.out,HD.out,Zg2 _ _ _ _ HN.out n39]
  ·go_wp2;go_ret2;have hr:Yn s=([],0):=by
    rw[<-hq.out,ZXH U,Zci]
   exact⟨ZP2,hB⟩
def ZgU(_:Value):Option (DataW Unit×List MemPlace):=some (.agg [], [])
def YD(s:Za):Lit:=.string s
def Kl(ks:List Za):DataW Unit:=Maps.setOf (.agg []) (ks.map YD)
def Xv(w:World)(b n:Nat)(ks:List Za):Prop:=w.ownsMap prog 9 ZgU b n (Kl ks)
theorem KA:Maps.Keyed prog 9:=Maps.string_keyed underlying9
theorem Kz(s:Za)(h:s.length<=100000):keyOf prog 9 (.string ⟨s.toArray⟩)=some (YD s):=
 WideMaps.keyOf_string_mk underlying9 (by rw[Zd4];unfold maxLen;omega)
theorem ZuN(ks:List Za):∀x∈ks.map YD,WideAt.IsKeyLit x:=by
 intro x hx;obtain⟨s,_,rfl⟩:=ZXj.1 hx;trivial
theorem Znw(ks:List Za)(s:Za):Maps.has (Kl ks) (YD s)=ks.contains s:=by
 unfold Kl;rw[Maps.has_setOf _ _ _ (ZuN ks),List.any_map,List.contains_eq_any_beq];congr 1;funext x;show(x==s)=(s==x);exact ZWe
theorem ZkZ(ks:List Za)(s:Za):(Kl ks).put (YD s) (.agg [])=Kl (ks++ [s]):=by
 unfold Kl;rw[ZWY,ZWZ,ZW2,Maps.setOf_snoc]
def Zax(acc:List Za)(x:Za):List Za:=if acc.contains x then acc else acc++ [x]
def Zdm(ks:List Za):List Za:=ks.foldl Zax []
theorem ZyT(acc:List Za)(x:Za):Maps.addKey (acc.map YD) (YD x)=(Zax acc x).map YD:=by
 unfold Maps.addKey Zax;have:(acc.map YD).any (fun y=>y.sameKey (YD x))=acc.contains x:=by
  rw[List.any_map,List.contains_eq_any_beq];congr 1;funext y;show(y==x)=(x==y);exact ZWe
 rw[this];split<;>simp
theorem fold_map(ks:List Za):∀acc:List Za,(ks.map YD).foldl Maps.addKey (acc.map YD)=(ks.foldl Zax acc).map YD:=by
 induction ks with
 |nil=>intro acc;rfl
 |cons k r ih=>intro acc;rw[ZWZ,List.foldl_cons,List.foldl_cons,ZyT,ih]
theorem Zpf(ks:List Za):Maps.size (Kl ks)=(Zdm ks).length:=by
 unfold Kl Zdm;rw[Maps.size_setOf _ _ (ZuN ks)];have:=fold_map ks [];rw[ZW2]at this;rw[this,ZW5]
theorem Zr7(ks:List Za):∀acc:List Za,(ks.foldl Zax acc).length<=acc.length+ks.length/\((ks.foldl Zax acc).length=acc.length+ks.length↔(∀k∈ks,acc.contains k=false)/\ks.Nodup):=by
 induction ks with
 |nil=>intro acc;simp
 |cons k r ih=>
  intro acc;rw[List.foldl_cons];have h:=ih (Zax acc k);by_cases hk:acc.contains k=true
  ·have e:Zax acc k=acc:=by unfold Zax;rw[ZWR hk]
   rw[e]at h ⊢;refine⟨ZPo,⟨fun hl=>ZQT,fun⟨h1,_⟩=>?_⟩⟩;have:=h1 k ZPm;rw[hk]at this;cases this
  ·have e:Zax acc k=acc++ [k]:=by unfold Zax;rw[ZWQ hk]
   rw[e]at h ⊢;simp only[ZW9,List.length_cons,List.length_nil]at h ⊢;refine⟨U,?_⟩;rw[show acc.length+(r.length+1)=acc.length+(0+1)+r.length from U,h.2,ZYm];constructor
   ·rintro⟨h1,h2⟩;refine⟨?_,?_,h2⟩
    ·intro x hx;rcases ZW3.1 hx with rfl|hx
     ·simpa using hk
     ·have:=h1 x hx;simp at this ⊢;exact this.1
    ·intro hm;have:=h1 k hm;simp at this
   ·rintro⟨h1,h2,h3⟩;refine⟨?_,h3⟩;intro x hx;have h4:=h1 x (ZXe _ hx);simp at h4 ⊢;exact⟨h4,fun e=>h2 (e▸hx)⟩
theorem ZmM(ks:List Za):(Zdm ks).length=ks.length↔ks.Nodup:=by
 have:=(Zr7 ks []).2;unfold Zdm;exact ZWN
theorem ZBT(ks:List Za):(Zdm ks).length<=ks.length:=by
 have:=(Zr7 ks []).1;unfold Zdm;exact ZWN
end Go.Proofs.YthmlacabmlghbaaGreatDoor
