import Derived.Test.YthmlacabmlghbaaGreatDoorBgCuK
set_option maxRecDepth 100000
set_option maxHeartbeats 8000000
set_option linter.unusedSimpArgs false
set_option linter.unusedVariables false
namespace Go.Proofs.YthmlacabmlghbaaGreatDoor
open Go.Proofs.Tryz
theorem ZSy{p:Prop}(h:p:=by clear ZK;go_wp2_with fail;go_ret;exact⟨_,rfl,ZA,hK3,.inl ⟨rfl,HN.out⟩⟩):p:=h
theorem ZSC{p:Prop}(h:p:=by clear e2;go_wp2_with fail;go_ret;exact⟨_,rfl,Zf,ZM.trans (hK2.trans hK1),.inr ⟨b,t,rfl,hb,hp,HD.out⟩⟩):p:=h
open Go.RowKit
section
open NT
theorem ZCk{l:List T}{r:List T}(h:G expr l)(e:l=T.Xu::r):False:=by
 obtain⟨t,r',e',hf⟩:=VM h;rw[e]at e';obtain⟨rfl,_⟩:=ZXk e';exact absurd hf ZPl
theorem ZzZ{w:List T}{i j:Nat}(hj:j<=w.length)(he:w[i]? =some T.Xu)(h:¬V9 query (st w (i+1) j)):¬G basic (st w i j):=by
 intro hg;rcases(Zul _).1 hg with⟨a,e,ha⟩|⟨a,e,ha⟩|⟨a,s,e,ha,hs⟩
 ·obtain⟨_,_,e2⟩:=V3 hj e;exact h ⟨a,e2,ha⟩
 ·obtain⟨_,e1,_⟩:=V3 hj e;exact Z4 he ZPl e1
 ·obtain⟨t,r,e2,_⟩:=VM ha;rw[e2,List.cons_append]at e;obtain⟨_,e1,_⟩:=V3 hj e;rw[he]at e1;cases ZXc e1;exact ZCk ha e2
def Zl2(w:List T)(i j q:Nat):Prop:=G expr (st w i q)->¬Qh (st w q j)
def Zl3(w:List T)(i j p:Nat):Prop:=¬V9 cnd (st w i j)/\∀q,i<q->q<p->Zl2 w i j q
theorem ZyS{s:List T}(h:Qh s):s≠ []:=by
 rcases h with rfl|rfl|⟨q,rfl,_⟩|⟨q,rfl,_⟩|⟨u,q,rfl,_⟩|⟨b,rfl,_⟩<;>simp
theorem ZH3{w:List T}{i j:Nat}(hj:j<=w.length)(he:w[i]?≠some T.Xu)(h:Zl3 w i j j):¬G basic (st w i j):=by
 intro hg;rcases(Zul _).1 hg with⟨a,e,ha⟩|⟨a,e,ha⟩|⟨a,s,e,ha,hs⟩
 ·obtain⟨_,e1,_⟩:=V3 hj e;exact he e1
 ·exact h.1 ⟨a,e,ha⟩
 ·have hne:=EB ha;cases hs0:s with
  |nil=>exact ZyS hs hs0
  |cons u r=>
   rw[hs0]at e;obtain⟨p,p1,p2,rfl,p3,rfl⟩:=ZdQ hj e;have hip:i<p:=by
    by_cases hh:i<p
    ·exact hh
    ·exact ZWk
   refine h.2 p hip p2 ha ?_;rw[Q4 w p2 hj];rw[ZW1 U]at p3;rw[ZXc p3,<-hs0];exact hs
theorem ZAv(C M N:Nat)(ws:List RW)(m:Nat)(hI:Is C M N ws m)(i j:Nat)(W:World)(h:Cut C M N ws W)(hi:i<j)(hj:j<=ws.length)(hm:(j-i)*20<=m):
  Calls prog 107 #[.pointer (some ⟨C,0,none⟩),.int .i64 i,.int .i64 j] W (Post C M N ws W (¬G basic (st (ws.map tok) i j)) (D basic (sw ws i j))):=by
 have hlen:=h.len;have HL:Hid (j<=(ws.map tok).length):=by show j<=_;simpa using hj
 go_enter func107,ntmps107;go_wp2_with fail;refine(Y8 C M N ws (i:Int) _ _ h U U).mono ?_;rintro e w' ⟨rfl,rfl⟩;cases he:ZJ ws (i:Int) [101,120,105,115,116,115]with
 |true=>
  have HE:Hid ((ws.map tok)[i]? =some T.Xu):=(ZZ h.ok ([101,120,105,115,116,115],T.Xu) ZPl ZPl i).1 he;clear he;go_wp2_with fail;refine(Q9 C M N ws m hI query (i+1) j _ h U U hj U U).mono ?_;rintro e w1 ⟨v1,rfl,Zf,hK1,hF1⟩;rcases hF1 with⟨rfl,hno⟩|⟨b,t,rfl,hb,hp,o,a,c,e2,t1,t2,hd⟩
  ·have HN:Hid (¬G basic (st (ws.map tok) i j)):=ZzZ HL.out HE.out hno;exact ZS1
  ·have HQ:Hid (sw ws (i+1) j=o::(a++ [c])):=e2;clear e2;go_wp2_with fail;go_ret;refine⟨_,rfl,(Zf.alloc _).alloc _,(hK1.trans (Zb.alloc M _ _)).trans (Zb.alloc M _ _),.inr ⟨_,_,rfl,?_,Vo Zf.ZN Zf.Zw {kind:= [101,120,105,115,116,115]} hp,?_⟩⟩
   ·exact ZVc
   ·obtain⟨_,t0⟩:=ZQ HE.out;rw[Z0 ws hi hj,HQ.out];exact .VB t0 t1 t2 hd
 |false=>
  have HE:Hid ((ws.map tok)[i]?≠some T.Xu):=Ea h.ok ([101,120,105,115,116,115],T.Xu) ZPl ZPl he;clear he;go_wp2_with fail;refine(Q9 C M N ws m hI cnd i j _ h U U hj U U).mono ?_;rintro e w1 ⟨v1,rfl,Zf,hK1,hF1⟩;go_wp2_with fail;go_loopg [9,10] (j-i) (fun gk tv pv wr=>∃p:Nat,i+1<=p/\p<=j/\gk=j-p+1/\pv= .int .i64 p/\Cut C M N ws wr/\Zb M W wr/\Em M N wr tv (Zl3 (ws.map tok) i j p) (D basic (sw ws i j)));case atStart=>
   refine⟨i+1,U,U,U,rfl,Zf,hK1,?_⟩;rcases hF1 with⟨e,hn⟩|⟨b,t,e,hb,hp,o,a,c,e2,t1,t2,hd⟩
   ·exact ZS8
   ·exact .inr ⟨b,t,e,hb,hp,by rw[e2];exact .VG t1 t2 hd⟩
  case round=>
   obtain⟨p,hp1,hp2,rfl,rfl,hC,hK,hA⟩:=hrel;rcases hA with⟨rfl,hno⟩|⟨b,t,rfl,hb,hp,hd⟩
   ·by_cases hlt:p<j
    ·have Yq:Hid (Zl2 (ws.map tok) i j p->Zl3 (ws.map tok) i j (p+1)):=fun hn=>⟨hno.1,fun q h1 h2=>by
      by_cases e:q=p
      ·subst e;exact hn
      ·exact hno.2 q h1 U⟩
     clear hno;go_wp2_with fail;refine(hI expr i p _ hC U U U ZPr).mono ?_;rintro e w3 ⟨v3,rfl,ZA,hK3,ZH⟩;rw[Int.toNat_natCast]at ZH;rcases ZH with⟨rfl,ZK⟩|⟨b3,t3,rfl,hb3,hp3,hd3⟩
     ·have HN:Hid (Zl2 (ws.map tok) i j p):=fun hg=>absurd hg ZK;clear ZK;go_wp2_with fail;go_roundg (j-(p+1)+1);case measure=>omega
      case rel=>exact⟨p+1,U,U,rfl,ZPp,ZA,hK.trans hK3,.inl ⟨rfl,Yq.out HN.out⟩⟩
     ·go_wp2_with fail;refine(ZAu C M N ws m hI p j _ ZA t3 b3 hp3 hlt hj U).mono ?_;rintro e w4 ⟨v4,rfl,ZB,hK4,Yx⟩;go_wp2_with fail;go_roundg (j-(p+1)+1);case measure=>omega
      case rel=>
       refine⟨p+1,U,U,rfl,ZPp,ZB,(hK.trans hK3).trans hK4,?_⟩;rcases Yx with⟨rfl,YH⟩|⟨b4,t4,rfl,hb4,XR,hd4⟩
       ·exact .inl ⟨rfl,Yq.out (fun _=>YH)⟩
       ·refine .inr ⟨b4,t4,rfl,hb4,XR,?_⟩;rw[Zpo ws (i:=i) (p:=p) U U];exact hd4 _ hd3
    ·go_wp2_with fail;go_ret;exact⟨_,rfl,hC,hK,.inl ⟨rfl,ZH3 HL.out HE.out ZQi⟩⟩
   ·by_cases hlt:p<j<;>
     (go_wp2_with fail;go_ret;exact⟨_,rfl,hC,hK,.inr ⟨b,t,rfl,hb,hp,hd⟩⟩)
end
section
open NT
def Yr:List Za:= [[99,111,117,110,116], [115,117,109], [109,105,110], [109,97,120]]
theorem Zsk:∀x∈YE.map Prod.fst,(isAgg (Je x)=true↔x∈Yr):=by decide
theorem ZCF:∀k (hk:k<Yr.length),(Je Yr[k]=T.count↔k=0):=by decide
theorem Zy2:∀x∈Y0.map Prod.fst,isAgg (Vt x)=false:=by decide
theorem Zmc{ws:List RW}(ok:∀w∈ws,Yi w){p:Nat}{u:T}(hu:(ws.map tok)[p]? =some u)(ha:isAgg u=true):∃k,∃hk:k<Yr.length,ZJ ws (p:Int) Yr[k]=true:=by
 obtain⟨hl,e⟩:=ZQ hu;have hw:=ok _ (ZWX hl);have h12:ws[p].sort=YC/\ws[p].text∈Yr:=by
  rw[<-e]at ha;unfold tok at ha;rcases hw with⟨hs,ht⟩|⟨hs,ht⟩|hs|hs|hs
  ·rw[hs,ZWR rfl]at ha;exact⟨hs,(Zsk _ ht).1 ha⟩
  ·rw[hs,ZWQ ZPl,ZWR rfl,Zy2 _ ht]at ha;cases ha
  ·rw[hs,ZWQ ZPl,ZWQ ZPl,ZWR rfl]at ha;cases ha
  ·rw[hs,ZWQ ZPl,ZWQ ZPl,ZWQ ZPl]at ha;cases ha
  ·rw[hs,ZWQ ZPl,ZWQ ZPl,ZWQ ZPl]at ha;cases ha
 obtain⟨k,hk,e3⟩:=ZX4 h12.2;refine⟨k,hk,?_⟩;unfold ZJ;rw[Za6 hl];show Vn ws[p] Yr[k]=true;unfold Vn;rw[h12.1,e3];simp
theorem Zok{ws:List RW}(ok:∀w∈ws,Yi w){p k:Nat}(hk:k<Yr.length)(h:ZJ ws (p:Int) Yr[k]=true):∃hl:p<ws.length,isAgg (tok ws[p])=true/\ws[p].text=Yr[k]/\(tok ws[p]=T.count↔k=0):=by
 by_cases hl:p<ws.length
 ·refine⟨hl,?_⟩;have hx:Vn ws[p] Yr[k]=true:=by unfold ZJ at h;rw[Za6 hl]at h;exact h
  unfold Vn at hx;simp only[ZXN,ZXT]at hx;have ht:ws[p].text∈YE.map Prod.fst:=by rw[hx.2];exact(show ∀x∈Yr,x∈YE.map Prod.fst by decide) _ (ZWX hk)
  have et:tok ws[p]=Je Yr[k]:=by unfold tok;rw[ZWR hx.1,hx.2]
  refine⟨?_,hx.2,by rw[et];exact ZCF k hk⟩;unfold tok;rw[ZWR hx.1,Zsk _ ht,hx.2];exact ZWX hk
 ·unfold ZJ at h;rw[Zc0 U]at h;cases h
theorem ZzR{w:List T}{i j:Nat}{t u v x:T}(hj:j<=w.length)(h:st w i j= [t,u,v,x]):j=i+4/\w[i]? =some t/\w[i+1]? =some u/\w[i+2]? =some v/\w[i+3]? =some x:=by
 obtain⟨_,e1,e2⟩:=V3 hj h;obtain⟨e3,e4,e5,e6⟩:=Zaz hj e2;exact⟨U,e1,e4,e5,e6⟩
theorem ZLy{w:List RW}{i:Nat}(h:i+3<w.length):sw w i (i+4)= [w[i],w[i+1],w[i+2],w[i+3]]:=by
 rw[Z0 w U U,Z0 w U U,Z0 w U U,Z0 w U U,V4 w U]
theorem KX{w:List T}{i j:Nat}(hj:j<=w.length)(h:G factor (st w i j)):
  (w[i]? =some T.minus/\G factor (st w (i+1) j))\/(j=i+1/\(w[i]? =some T.lit\/w[i]? =some T.null))\/(w[i]? =some T.count/\j=i+4/\w[i+1]? =some T.lp/\w[i+2]? =some T.star/\w[i+3]? =some T.rp)\/
  (∃u,w[i]? =some u/\isAgg u=true/\V9 expr (st w (i+1) j))\/(w[i]? =some T.lp/\V9 expr (st w i j))\/(w[i]? =some T.name/\G column (st w i j)):=by
 rcases(ZE8 _).1 h with⟨a,e,ha⟩|e|e|e|⟨u,a,e,hu,ha⟩|⟨a,e,ha⟩|hc
 ·obtain⟨_,e1,e2⟩:=V3 hj e;exact .inl ⟨e1,by rw[e2];exact ha⟩
 ·obtain⟨e1,e2⟩:=at_one hj e;exact .inr (.inl ⟨e1,.inl e2⟩)
 ·obtain⟨e1,e2⟩:=at_one hj e;exact .inr (.inl ⟨e1,.inr e2⟩)
 ·obtain⟨e1,e2,e3,e4,e5⟩:=ZzR hj e;exact .inr (.inr (.inl ⟨e2,e1,e3,e4,e5⟩))
 ·obtain⟨_,e1,e2⟩:=V3 hj e;exact .inr (.inr (.inr (.inl ⟨u,e1,hu,a,e2,ha⟩)))
 ·obtain⟨_,e1,e2⟩:=V3 hj e;exact .inr (.inr (.inr (.inr (.inl ⟨e1,a,e,ha⟩))))
 ·refine .inr (.inr (.inr (.inr (.inr ⟨?_,hc⟩))));rcases(Zia _).1 hc with e|e
  ·exact(at_one hj e).2
  ·exact(Zaz hj e).2.1
theorem ZmA{w:World}{b:Nat}{x y z t:Value}{ty:TypeId}(h:w.heap[b]? =some (.cells #[x,y,z,t] ty (0,0))):w.cell? ⟨b,0,none⟩=some x/\w.cell? ⟨b,1,none⟩=some y/\w.cell? ⟨b,2,none⟩=some z/\w.cell? ⟨b,3,none⟩=some t:=
 ⟨ZPy,ZPy,ZPy,ZPy⟩
end
section
open NT
theorem ZAz(C M N:Nat)(ws:List RW)(m:Nat)(hI:Is C M N ws m)(i:Nat)(W:World)(h:Cut C M N ws W)(hi:i<(i+1))(hj:(i+1)<=ws.length)(hm:((i+1)-i)*20<m):
  Calls prog 108 #[.pointer (some ⟨C,0,none⟩),.int .i64 i,.int .i64 ((i+1:Nat):Int)] W (Post C M N ws W (¬G factor (st (ws.map tok) i (i+1))) (D factor (sw ws i (i+1)))):=by
 have hlen:=h.len;have HL:Hid ((i+1)<=(ws.map tok).length):=by show(i+1)<=_;simpa using hj
 go_enter func108,ntmps108;go_wp2_with fail;refine(KV C M N ws (i:Int) _ _ h U U).mono ?_;rintro e w' ⟨rfl,rfl⟩;cases Qd:Xt ws (i:Int) [45]with
 |true=>
  have HY:=(JZ h.ok ([45],T.minus) ZPl ZPl i).1 Qd;clear Qd;go_wp2_with fail;refine(hI factor (i+1) ((i+1:Nat):Int) _ h U U U ZPr).mono ?_;rintro e w3 ⟨v3,rfl,ZA,hK3,ZH⟩;rw[Int.toNat_natCast]at ZH;rcases ZH with⟨rfl,ZK⟩|⟨b3,t3,rfl,hb3,hp3,hd3⟩
  ·have HN:Hid (¬G factor (st (ws.map tok) i (i+1))):=fun hg=>by
    rcases KX HL.out hg with⟨_,e⟩|⟨_,e|e⟩|⟨e,e1⟩|⟨u,e1,e2,_⟩|⟨e,_⟩|⟨e,_⟩
    ·exact ZK e
    ·exact ZTl
    ·exact ZTl
    ·exact ZTl
    ·rw[HY]at e1;cases ZXc e1;cases e2
    ·exact ZTl
    ·exact ZTl
   exact ZSy
  ·go_wp2_with fail;go_ret;refine⟨_,rfl,(ZA.alloc _).alloc _,(hK3.trans (Zb.alloc M _ _)).trans (Zb.alloc M _ _),.inr ⟨_,_,rfl,?_,Vo ZA.ZN ZA.Zw {kind:= [110,101,103]} hp3,?_⟩⟩
   ·exact ZVb
   ·exact ZVI
 |false=>
  have Zgz:Hid ((ws.map tok)[i]?≠some T.minus):=Zf6 h.ok ([45],T.minus) ZPl ZPl Qd;clear Qd;obtain⟨wa,cap,QA,c0,c1,c2,c3,cw⟩:=h.cells;obtain⟨g,rfl,hg,q1,q2,q3⟩:=cw i U;clear cw;have hil:i<ws.length:=U
  have X9:Hid (Yi ws[i]):=h.ok _ (ZWX hil);have HSW:Hid (sw ws i (i+1)= [ws[i]]):=by show _=_;rw[Zla hil]
  by_cases ZaK:ws[i].sort= [110,117,109]
  ·have HD:Hid (D factor (sw ws i (i+1)) (nd {kind:= [110,117,109],num:=ws[i].num} .nil)):=by
    show D _ _ _;rw[HSW.out];exact .Zea ((ZeV X9.out).2 (.inl ZaK)) ZaK
   rw[ZaK]at q1;clear ZaK;go_wp2_with fail;have h1:=h.alloc (.cells #[.string ⟨#[110,117,109]⟩,.string ⟨ws[i].text.toArray⟩,.int .i64 ws[i].num] 110);have Zcs:Zb M W _:=Zb.alloc M W (.cells #[.string ⟨#[110,117,109]⟩,.string ⟨ws[i].text.toArray⟩,.int .i64 ws[i].num] 110);obtain⟨z0,z1,z2⟩:=Zju (ZWV W (.cells #[.string ⟨#[110,117,109]⟩,.string ⟨ws[i].text.toArray⟩,.int .i64 ws[i].num] 110));generalize W.alloc (.cells #[.string ⟨#[110,117,109]⟩,.string ⟨ws[i].text.toArray⟩,.int .i64 ws[i].num] 110)=W1 at h1 Zcs z0 z1 z2 ⊢;generalize W.heap.size=S0 at z0 z1 z2 ⊢;refine(Y8 C M N ws (i:Int) _ _ h1 U U).mono ?_;rintro e w' ⟨rfl,rfl⟩;go_wp2_with fail;go_ret;refine⟨_,rfl,h1.alloc _,Zcs.trans (Zb.alloc M _ _),.inr ⟨_,_,rfl,?_,ZdE h1.ZN h1.Zw {kind:= [110,117,109],num:=ws[i].num},HD.out⟩⟩;have:=h1.Zw;omega
  ·have ZD6:(ws[i].sort== [110,117,109])=false:=by simpa using ZaK
   by_cases htx:ws[i].sort= [116,101,120,116]
   ·have HD:Hid (D factor (sw ws i (i+1)) (nd {kind:= [116,101,120,116],text:=ws[i].text} .nil)):=by
     show D _ _ _;rw[HSW.out];exact .Zeb ((ZeV X9.out).2 (.inr htx)) htx
    rw[htx]at q1;clear ZaK ZD6 htx;go_wp2_with fail;have h1:=h.alloc (.cells #[.string ⟨#[116,101,120,116]⟩,.string ⟨ws[i].text.toArray⟩,.int .i64 ws[i].num] 110);have Zcs:Zb M W _:=Zb.alloc M W (.cells #[.string ⟨#[116,101,120,116]⟩,.string ⟨ws[i].text.toArray⟩,.int .i64 ws[i].num] 110);obtain⟨z0,z1,z2⟩:=Zju (ZWV W (.cells #[.string ⟨#[116,101,120,116]⟩,.string ⟨ws[i].text.toArray⟩,.int .i64 ws[i].num] 110));generalize W.alloc (.cells #[.string ⟨#[116,101,120,116]⟩,.string ⟨ws[i].text.toArray⟩,.int .i64 ws[i].num] 110)=W1 at h1 Zcs z0 z1 z2 ⊢;generalize W.heap.size=S0 at z0 z1 z2 ⊢;refine(Y8 C M N ws (i:Int) _ _ h1 U U).mono ?_;rintro e w' ⟨rfl,rfl⟩;go_wp2_with fail;go_ret;refine⟨_,rfl,h1.alloc _,Zcs.trans (Zb.alloc M _ _),.inr ⟨_,_,rfl,?_,ZdE h1.ZN h1.Zw {kind:= [116,101,120,116],text:=ws[i].text},HD.out⟩⟩;have:=h1.Zw;omega
   ·have ZOG:(ws[i].sort== [116,101,120,116])=false:=by simpa using htx
    have HNL:Hid ((ws.map tok)[i]?≠some T.lit):=fun e=>by
     obtain⟨_,e1⟩:=ZQ e;rcases(ZeV X9.out).1 e1 with e2|e2
     ·exact ZaK e2
     ·exact htx e2
    clear ZaK htx;go_wp2_with fail;have h1:=h.alloc (.cells #[.string ⟨ws[i].sort.toArray⟩,.string ⟨ws[i].text.toArray⟩,.int .i64 ws[i].num] 110);have Zcs:Zb M W _:=Zb.alloc M W (.cells #[.string ⟨ws[i].sort.toArray⟩,.string ⟨ws[i].text.toArray⟩,.int .i64 ws[i].num] 110);obtain⟨z0,z1,z2⟩:=Zju (ZWV W (.cells #[.string ⟨ws[i].sort.toArray⟩,.string ⟨ws[i].text.toArray⟩,.int .i64 ws[i].num] 110));generalize W.alloc (.cells #[.string ⟨ws[i].sort.toArray⟩,.string ⟨ws[i].text.toArray⟩,.int .i64 ws[i].num] 110)=W1 at h1 Zcs z0 z1 z2 ⊢;generalize W.heap.size=S0 at z0 z1 z2 ⊢;refine(Y8 C M N ws (i:Int) _ _ h1 U U).mono ?_;rintro e w' ⟨rfl,rfl⟩;cases ZcK:ZJ ws (i:Int) [110,117,108,108]with
    |true=>
     have HD:Hid (D factor (sw ws i (i+1)) (nd {kind:= [110,117,108,108]} .nil)):=by
      show D _ _ _;rw[HSW.out];obtain⟨_,e1⟩:=ZQ ((ZZ h.ok ([110,117,108,108],T.null) ZPl ZPl i).1 ZcK);exact .Un e1
     go_wp2_with fail;go_ret;refine⟨_,rfl,h1.alloc _,Zcs.trans (Zb.alloc M _ _),.inr ⟨_,_,rfl,?_,ZdE h1.ZN h1.Zw {kind:= [110,117,108,108]},HD.out⟩⟩;have:=h1.Zw;omega
    |false=>
     have Zgw:Hid ((i+1)=i+1->¬((ws.map tok)[i]? =some T.lit\/(ws.map tok)[i]? =some T.null)):=fun _ e=>by
      rcases e with e|e
      ·exact HNL.out e
      ·exact ZTf
     clear ZcK;go_wp2_with fail;have YL:Hid (KO M W1.heap.size (W1.alloc (.cells #[.string ⟨#[99,111,117,110,116]⟩,.string ⟨#[115,117,109]⟩,.string ⟨#[109,105,110]⟩,.string ⟨#[109,97,120]⟩] 9)) Yr):=by
      refine⟨by have:=h1.ZN;omega,fun k hk=>?_⟩;have h3:k<4:=hk;obtain⟨c0,c1,c2,c3⟩:=ZmA (ZWV W1 (.cells #[.string ⟨#[99,111,117,110,116]⟩,.string ⟨#[115,117,109]⟩,.string ⟨#[109,105,110]⟩,.string ⟨#[109,97,120]⟩] 9));rcases k with _|_|_|_|k
      ·exact c0
      ·exact c1
      ·exact c2
      ·exact c3
      ·omega
     have hC0:=h1.alloc (.cells #[.string ⟨#[99,111,117,110,116]⟩,.string ⟨#[115,117,109]⟩,.string ⟨#[109,105,110]⟩,.string ⟨#[109,97,120]⟩] 9);have ZM:Zb M W _:=Zcs.trans (Zb.alloc M W1 (.cells #[.string ⟨#[99,111,117,110,116]⟩,.string ⟨#[115,117,109]⟩,.string ⟨#[109,105,110]⟩,.string ⟨#[109,97,120]⟩] 9));generalize hSe:W1.heap.size=S at YL ⊢;generalize W1.alloc (.cells #[.string ⟨#[99,111,117,110,116]⟩,.string ⟨#[115,117,109]⟩,.string ⟨#[109,105,110]⟩,.string ⟨#[109,97,120]⟩] 9)=w0 at YL hC0 ZM ⊢;go_loopg [12] (4+1) (fun gk kv wr=>∃k:Nat,k<=4/\gk=4-k+1/\kv= .int .i64 k/\Cut C M N ws wr/\Zb M w0 wr/\∀k',k'<k->∀(hk:k'<Yr.length),ZJ ws (i:Int) Yr[k']=false);case atStart=>exact⟨0,U,U,rfl,hC0,Zb.refl _ _,fun k' h=>U⟩
     case round=>
      obtain⟨k,hk,rfl,rfl,hC2,hK2,hno⟩:=hrel;have Y4:Hid (∀k',k'<k->∀(hk:k'<Yr.length),ZJ ws (i:Int) Yr[k']=false):=hno;clear hno;by_cases hkl:k<4
      ·have hkl':k<Yr.length:=hkl;have q4:=(YL.out.keep hK2).2 k hkl';go_wp2_with fail;refine(Y8 C M N ws (i:Int) Yr[k] _ hC2 U U).mono ?_;rintro e w' ⟨rfl,rfl⟩;cases hkey:ZJ ws (i:Int) Yr[k]with
       |false=>
        go_wp2_with fail;go_roundg (4-(k+1)+1);case measure=>omega
        case rel=>
         refine⟨k+1,U,rfl,ZPp,hC2,hK2,fun k' hk' hk2=>?_⟩;by_cases hkk:k'=k
         ·subst hkk;exact hkey
         ·exact Y4.out k' U hk2
       |true=>
        obtain⟨hpw,hagg,htext,hcnt⟩:=Zok h.ok hkl' hkey;have Jz:Hid (ws[i].text=Yr[k]):=htext;have HCN:Hid (tok ws[i]=T.count↔k=0):=hcnt;have Yl:Hid (isAgg (tok ws[i])=true/\∀u,isAgg u=false->(ws.map tok)[i]?≠some u):=⟨hagg,fun u hu e=>by
         rw[ZXU,ZW1 hpw]at e;rw[<-ZXc e,hagg]at hu;cases hu⟩
        clear hagg htext hcnt hkey;by_cases hk0:k=0
        ·subst hk0;have ZtB:¬((i:Int)+1=(i:Int)+4):=by omega
         have Q8:Hid (¬((ws.map tok)[i]? =some T.count/\(i+1)=i+4/\(ws.map tok)[i+1]? =some T.lp/\(ws.map tok)[i+2]? =some T.star/\(ws.map tok)[i+3]? =some T.rp)):=fun⟨e0,e1,e2,e3,e4⟩=>U
         go_wp2_with fail;refine(Q9 C M N ws m hI expr (i+1) (i+1) _ hC2 U U hj U U).mono ?_;rintro e w1 ⟨v1,rfl,Zf,hK1,hF1⟩;rcases hF1 with⟨rfl,hno⟩|⟨b,t,rfl,hb,hp,o,a,c,e2,t1,t2,hd⟩
         ·have HN:Hid (¬G factor (st (ws.map tok) i (i+1))):=fun hg=>by
           rcases KX HL.out hg with⟨e,_⟩|⟨_,e|e⟩|⟨e,e1⟩|⟨u,_,_,e⟩|⟨e,_⟩|⟨e,_⟩
           ·exact ZTj
           ·exact ZTj
           ·exact ZTj
           ·exact ZTi
           ·exact hno e
           ·exact ZTj
           ·exact ZTj
          exact ZS0
         ·have HE:Hid (sw ws (i+1) (i+1)=o::(a++ [c])):=e2;clear e2;have q5:=((YL.out.keep hK2).keep hK1).2 0 hkl';go_wp2_with fail;go_ret;refine⟨_,rfl,(Zf.alloc _).alloc _,((ZM.trans (hK2.trans hK1)).trans (Zb.alloc M _ _)).trans (Zb.alloc M _ _),.inr ⟨_,_,rfl,?_,Vo Zf.ZN Zf.Zw {kind:=Yr[0]} hp,?_⟩⟩
          ·exact ZVc
          ·exact ZWt
        ·have hk0':¬((k:Int)=0):=by omega
         have Q8:Hid (¬((ws.map tok)[i]? =some T.count/\(i+1)=i+4/\(ws.map tok)[i+1]? =some T.lp/\(ws.map tok)[i+2]? =some T.star/\(ws.map tok)[i+3]? =some T.rp)):=fun⟨e0,e1,e2,e3,e4⟩=>U
         go_wp2_with fail;refine(Q9 C M N ws m hI expr (i+1) (i+1) _ hC2 U U hj U U).mono ?_;rintro e w1 ⟨v1,rfl,Zf,hK1,hF1⟩;rcases hF1 with⟨rfl,hno⟩|⟨b,t,rfl,hb,hp,o,a,c,e2,t1,t2,hd⟩
         ·have HN:Hid (¬G factor (st (ws.map tok) i (i+1))):=fun hg=>by
           rcases KX HL.out hg with⟨e,_⟩|⟨_,e|e⟩|⟨e,e1⟩|⟨u,_,_,e⟩|⟨e,_⟩|⟨e,_⟩
           ·exact ZTj
           ·exact ZTj
           ·exact ZTj
           ·exact ZTi
           ·exact hno e
           ·exact ZTj
           ·exact ZTj
          exact ZS0
         ·have HE:Hid (sw ws (i+1) (i+1)=o::(a++ [c])):=e2;clear e2;have q5:=((YL.out.keep hK2).keep hK1).2 k hkl';go_wp2_with fail;go_ret;refine⟨_,rfl,(Zf.alloc _).alloc _,((ZM.trans (hK2.trans hK1)).trans (Zb.alloc M _ _)).trans (Zb.alloc M _ _),.inr ⟨_,_,rfl,?_,Vo Zf.ZN Zf.Zw {kind:=Yr[k]} hp,?_⟩⟩
          ·exact ZVc
          ·exact ZWt
      ·have HX:Hid (¬V9 expr (st (ws.map tok) i (i+1))->¬G column (st (ws.map tok) i (i+1))->¬G factor (st (ws.map tok) i (i+1))):=fun hr hcl hg=>by
        have hagg:∀u,(ws.map tok)[i]? =some u->isAgg u=true->False:=fun u hu ha=>by
         obtain⟨k',hk',e'⟩:=Zmc h.ok hu ha;have h6:k'<4:=hk';rw[Y4.out k' U hk']at e';cases e'
        rcases KX HL.out hg with⟨e,_⟩|⟨e1,e⟩|⟨e,e1⟩|⟨u,e1,e2,_⟩|⟨_,e⟩|⟨_,e⟩
        ·exact Zgz.out e
        ·exact Zgw.out ZRL e
        ·exact hagg _ e rfl
        ·exact hagg _ e1 e2
        ·exact hr e
        ·exact hcl e
       go_wp2_with fail;refine(Q9 C M N ws m hI expr i (i+1) _ hC2 U U hj U U).mono ?_;rintro e w1 ⟨v1,rfl,Zf,hK1,hF1⟩;rcases hF1 with⟨rfl,hno⟩|⟨b,t,rfl,hb,hp,o,a,c,e2,t1,t2,hd⟩
       ·have HR:Hid (¬V9 expr (st (ws.map tok) i (i+1))):=hno;clear hno;go_wp2_with fail;refine(hI column i ((i+1:Nat):Int) _ Zf U U U ZPr).mono ?_;rintro e w3 ⟨v3,rfl,ZA,hK3,ZH⟩;rw[Int.toNat_natCast]at ZH;go_wp2_with fail;go_ret;refine⟨_,rfl,ZA,(ZM.trans (hK2.trans hK1)).trans hK3,?_⟩;rcases ZH with⟨e,ZK⟩|⟨b3,t3,e,hb3,hp3,hd3⟩
        ·exact ZS7
        ·exact ZTb
       ·have HD:Hid (D factor (sw ws i (i+1)) t):=by show D _ _ _;rw[e2];exact .Vg t1 t2 hd
        exact ZSC
end
section
open NT
theorem ZAA(C M N:Nat)(ws:List RW)(m:Nat)(hI:Is C M N ws m)(i j:Nat)(W:World)(h:Cut C M N ws W)(hi:i<j)(hj:j<=ws.length)(hm:(j-i)*20<m)(hje:¬j=i+1)(X5:¬j=i+4):
  Calls prog 108 #[.pointer (some ⟨C,0,none⟩),.int .i64 i,.int .i64 j] W (Post C M N ws W (¬G factor (st (ws.map tok) i j)) (D factor (sw ws i j))):=by
 have hlen:=h.len;have HL:Hid (j<=(ws.map tok).length):=by show j<=_;simpa using hj
 go_enter func108,ntmps108;go_wp2_with fail;refine(KV C M N ws (i:Int) _ _ h U U).mono ?_;rintro e w' ⟨rfl,rfl⟩;cases Qd:Xt ws (i:Int) [45]with
 |true=>
  have HY:=(JZ h.ok ([45],T.minus) ZPl ZPl i).1 Qd;clear Qd;go_wp2_with fail;refine(hI factor (i+1) j _ h U U U ZPr).mono ?_;rintro e w3 ⟨v3,rfl,ZA,hK3,ZH⟩;rw[Int.toNat_natCast]at ZH;rcases ZH with⟨rfl,ZK⟩|⟨b3,t3,rfl,hb3,hp3,hd3⟩
  ·have HN:Hid (¬G factor (st (ws.map tok) i j)):=fun hg=>by
    rcases KX HL.out hg with⟨_,e⟩|⟨_,e|e⟩|⟨e,e1⟩|⟨u,e1,e2,_⟩|⟨e,_⟩|⟨e,_⟩
    ·exact ZK e
    ·exact ZTl
    ·exact ZTl
    ·exact ZTl
    ·rw[HY]at e1;cases ZXc e1;cases e2
    ·exact ZTl
    ·exact ZTl
   exact ZSy
  ·go_wp2_with fail;go_ret;refine⟨_,rfl,(ZA.alloc _).alloc _,(hK3.trans (Zb.alloc M _ _)).trans (Zb.alloc M _ _),.inr ⟨_,_,rfl,?_,Vo ZA.ZN ZA.Zw {kind:= [110,101,103]} hp3,?_⟩⟩
   ·exact ZVb
   ·exact ZVI
 |false=>
  have Zgz:Hid ((ws.map tok)[i]?≠some T.minus):=Zf6 h.ok ([45],T.minus) ZPl ZPl Qd;clear Qd;have ZtB:¬((j:Int)=(i:Int)+4):=U
  have ZOc:((j:Int)==(i:Int)+4)=false:=by simpa using ZtB
  have ZDR:((j:Int)==(i:Int)+1)=false:=by simp;omega
  have ZtC:¬((j:Int)=(i:Int)+1):=U
  have Zgw:Hid (j=i+1->¬((ws.map tok)[i]? =some T.lit\/(ws.map tok)[i]? =some T.null)):=fun e=>absurd e hje;go_wp2_with fail;have YL:Hid (KO M W.heap.size (W.alloc (.cells #[.string ⟨#[99,111,117,110,116]⟩,.string ⟨#[115,117,109]⟩,.string ⟨#[109,105,110]⟩,.string ⟨#[109,97,120]⟩] 9)) Yr):=by
   refine⟨by have:=h.ZN;omega,fun k hk=>?_⟩;have h3:k<4:=hk;obtain⟨c0,c1,c2,c3⟩:=ZmA (ZWV W (.cells #[.string ⟨#[99,111,117,110,116]⟩,.string ⟨#[115,117,109]⟩,.string ⟨#[109,105,110]⟩,.string ⟨#[109,97,120]⟩] 9));rcases k with _|_|_|_|k
   ·exact c0
   ·exact c1
   ·exact c2
   ·exact c3
   ·omega
  have hC0:=h.alloc (.cells #[.string ⟨#[99,111,117,110,116]⟩,.string ⟨#[115,117,109]⟩,.string ⟨#[109,105,110]⟩,.string ⟨#[109,97,120]⟩] 9);have ZM:Zb M W _:=(Zb.alloc M W (.cells #[.string ⟨#[99,111,117,110,116]⟩,.string ⟨#[115,117,109]⟩,.string ⟨#[109,105,110]⟩,.string ⟨#[109,97,120]⟩] 9));generalize hSe:W.heap.size=S at YL ⊢;generalize W.alloc (.cells #[.string ⟨#[99,111,117,110,116]⟩,.string ⟨#[115,117,109]⟩,.string ⟨#[109,105,110]⟩,.string ⟨#[109,97,120]⟩] 9)=w0 at YL hC0 ZM ⊢;go_loopg [12] (4+1) (fun gk kv wr=>∃k:Nat,k<=4/\gk=4-k+1/\kv= .int .i64 k/\Cut C M N ws wr/\Zb M w0 wr/\∀k',k'<k->∀(hk:k'<Yr.length),ZJ ws (i:Int) Yr[k']=false);case atStart=>exact⟨0,U,U,rfl,hC0,Zb.refl _ _,fun k' h=>U⟩
  case round=>
   obtain⟨k,hk,rfl,rfl,hC2,hK2,hno⟩:=hrel;have Y4:Hid (∀k',k'<k->∀(hk:k'<Yr.length),ZJ ws (i:Int) Yr[k']=false):=hno;clear hno;by_cases hkl:k<4
   ·have hkl':k<Yr.length:=hkl;have q4:=(YL.out.keep hK2).2 k hkl';go_wp2_with fail;refine(Y8 C M N ws (i:Int) Yr[k] _ hC2 U U).mono ?_;rintro e w' ⟨rfl,rfl⟩;cases hkey:ZJ ws (i:Int) Yr[k]with
    |false=>
     go_wp2_with fail;go_roundg (4-(k+1)+1);case measure=>omega
     case rel=>
      refine⟨k+1,U,rfl,ZPp,hC2,hK2,fun k' hk' hk2=>?_⟩;by_cases hkk:k'=k
      ·subst hkk;exact hkey
      ·exact Y4.out k' U hk2
    |true=>
     obtain⟨hpw,hagg,htext,hcnt⟩:=Zok h.ok hkl' hkey;have Jz:Hid (ws[i].text=Yr[k]):=htext;have HCN:Hid (tok ws[i]=T.count↔k=0):=hcnt;have Yl:Hid (isAgg (tok ws[i])=true/\∀u,isAgg u=false->(ws.map tok)[i]?≠some u):=⟨hagg,fun u hu e=>by
      rw[ZXU,ZW1 hpw]at e;rw[<-ZXc e,hagg]at hu;cases hu⟩
     clear hagg htext hcnt hkey;by_cases hk0:k=0
     ·subst hk0;have Q8:Hid (¬((ws.map tok)[i]? =some T.count/\j=i+4/\(ws.map tok)[i+1]? =some T.lp/\(ws.map tok)[i+2]? =some T.star/\(ws.map tok)[i+3]? =some T.rp)):=fun⟨e0,e1,e2,e3,e4⟩=>X5 e1;go_wp2_with fail;refine(Q9 C M N ws m hI expr (i+1) j _ hC2 U U hj U U).mono ?_;rintro e w1 ⟨v1,rfl,Zf,hK1,hF1⟩;rcases hF1 with⟨rfl,hno⟩|⟨b,t,rfl,hb,hp,o,a,c,e2,t1,t2,hd⟩
      ·have HN:Hid (¬G factor (st (ws.map tok) i j)):=fun hg=>by
        rcases KX HL.out hg with⟨e,_⟩|⟨_,e|e⟩|⟨e,e1⟩|⟨u,_,_,e⟩|⟨e,_⟩|⟨e,_⟩
        ·exact ZTj
        ·exact ZTj
        ·exact ZTj
        ·exact ZTi
        ·exact hno e
        ·exact ZTj
        ·exact ZTj
       exact ZS0
      ·have HE:Hid (sw ws (i+1) j=o::(a++ [c])):=e2;clear e2;have q5:=((YL.out.keep hK2).keep hK1).2 0 hkl';go_wp2_with fail;go_ret;refine⟨_,rfl,(Zf.alloc _).alloc _,((ZM.trans (hK2.trans hK1)).trans (Zb.alloc M _ _)).trans (Zb.alloc M _ _),.inr ⟨_,_,rfl,?_,Vo Zf.ZN Zf.Zw {kind:=Yr[0]} hp,?_⟩⟩
       ·exact ZVc
       ·exact ZWt
     ·have hk0':¬((k:Int)=0):=by omega
      have Q8:Hid (¬((ws.map tok)[i]? =some T.count/\j=i+4/\(ws.map tok)[i+1]? =some T.lp/\(ws.map tok)[i+2]? =some T.star/\(ws.map tok)[i+3]? =some T.rp)):=fun⟨e0,e1,e2,e3,e4⟩=>X5 e1;go_wp2_with fail;refine(Q9 C M N ws m hI expr (i+1) j _ hC2 U U hj U U).mono ?_;rintro e w1 ⟨v1,rfl,Zf,hK1,hF1⟩;rcases hF1 with⟨rfl,hno⟩|⟨b,t,rfl,hb,hp,o,a,c,e2,t1,t2,hd⟩
      ·have HN:Hid (¬G factor (st (ws.map tok) i j)):=fun hg=>by
        rcases KX HL.out hg with⟨e,_⟩|⟨_,e|e⟩|⟨e,e1⟩|⟨u,_,_,e⟩|⟨e,_⟩|⟨e,_⟩
        ·exact ZTj
        ·exact ZTj
        ·exact ZTj
        ·exact ZTi
        ·exact hno e
        ·exact ZTj
        ·exact ZTj
       exact ZS0
      ·have HE:Hid (sw ws (i+1) j=o::(a++ [c])):=e2;clear e2;have q5:=((YL.out.keep hK2).keep hK1).2 k hkl';go_wp2_with fail;go_ret;refine⟨_,rfl,(Zf.alloc _).alloc _,((ZM.trans (hK2.trans hK1)).trans (Zb.alloc M _ _)).trans (Zb.alloc M _ _),.inr ⟨_,_,rfl,?_,Vo Zf.ZN Zf.Zw {kind:=Yr[k]} hp,?_⟩⟩
       ·exact ZVc
       ·exact ZWt
   ·have HX:Hid (¬V9 expr (st (ws.map tok) i j)->¬G column (st (ws.map tok) i j)->¬G factor (st (ws.map tok) i j)):=fun hr hcl hg=>by
     have hagg:∀u,(ws.map tok)[i]? =some u->isAgg u=true->False:=fun u hu ha=>by
      obtain⟨k',hk',e'⟩:=Zmc h.ok hu ha;have h6:k'<4:=hk';rw[Y4.out k' U hk']at e';cases e'
     rcases KX HL.out hg with⟨e,_⟩|⟨e1,e⟩|⟨e,e1⟩|⟨u,e1,e2,_⟩|⟨_,e⟩|⟨_,e⟩
     ·exact Zgz.out e
     ·exact Zgw.out ZRL e
     ·exact hagg _ e rfl
     ·exact hagg _ e1 e2
     ·exact hr e
     ·exact hcl e
    go_wp2_with fail;refine(Q9 C M N ws m hI expr i j _ hC2 U U hj U U).mono ?_;rintro e w1 ⟨v1,rfl,Zf,hK1,hF1⟩;rcases hF1 with⟨rfl,hno⟩|⟨b,t,rfl,hb,hp,o,a,c,e2,t1,t2,hd⟩
    ·have HR:Hid (¬V9 expr (st (ws.map tok) i j)):=hno;clear hno;go_wp2_with fail;refine(hI column i j _ Zf U U U ZPr).mono ?_;rintro e w3 ⟨v3,rfl,ZA,hK3,ZH⟩;rw[Int.toNat_natCast]at ZH;go_wp2_with fail;go_ret;refine⟨_,rfl,ZA,(ZM.trans (hK2.trans hK1)).trans hK3,?_⟩;rcases ZH with⟨e,ZK⟩|⟨b3,t3,e,hb3,hp3,hd3⟩
     ·exact ZS7
     ·exact ZTb
    ·have HD:Hid (D factor (sw ws i j) t):=by show D _ _ _;rw[e2];exact .Vg t1 t2 hd
     exact ZSC
end
section
open NT
theorem ZAB(C M N:Nat)(ws:List RW)(m:Nat)(hI:Is C M N ws m)(i:Nat)(W:World)(h:Cut C M N ws W)(hi:i<(i+4))(hj:(i+4)<=ws.length)(hm:((i+4)-i)*20<m):
  Calls prog 108 #[.pointer (some ⟨C,0,none⟩),.int .i64 i,.int .i64 ((i+4:Nat):Int)] W (Post C M N ws W (¬G factor (st (ws.map tok) i (i+4))) (D factor (sw ws i (i+4)))):=by
 have hlen:=h.len;have HL:Hid ((i+4)<=(ws.map tok).length):=by show(i+4)<=_;simpa using hj
 go_enter func108,ntmps108;go_wp2_with fail;refine(KV C M N ws (i:Int) _ _ h U U).mono ?_;rintro e w' ⟨rfl,rfl⟩;cases Qd:Xt ws (i:Int) [45]with
 |true=>
  have HY:=(JZ h.ok ([45],T.minus) ZPl ZPl i).1 Qd;clear Qd;go_wp2_with fail;refine(hI factor (i+1) ((i+4:Nat):Int) _ h U U U ZPr).mono ?_;rintro e w3 ⟨v3,rfl,ZA,hK3,ZH⟩;rw[Int.toNat_natCast]at ZH;rcases ZH with⟨rfl,ZK⟩|⟨b3,t3,rfl,hb3,hp3,hd3⟩
  ·have HN:Hid (¬G factor (st (ws.map tok) i (i+4))):=fun hg=>by
    rcases KX HL.out hg with⟨_,e⟩|⟨_,e|e⟩|⟨e,e1⟩|⟨u,e1,e2,_⟩|⟨e,_⟩|⟨e,_⟩
    ·exact ZK e
    ·exact ZTl
    ·exact ZTl
    ·exact ZTl
    ·rw[HY]at e1;cases ZXc e1;cases e2
    ·exact ZTl
    ·exact ZTl
   exact ZSy
  ·go_wp2_with fail;go_ret;refine⟨_,rfl,(ZA.alloc _).alloc _,(hK3.trans (Zb.alloc M _ _)).trans (Zb.alloc M _ _),.inr ⟨_,_,rfl,?_,Vo ZA.ZN ZA.Zw {kind:= [110,101,103]} hp3,?_⟩⟩
   ·exact ZVb
   ·exact ZVI
 |false=>
  have Zgz:Hid ((ws.map tok)[i]?≠some T.minus):=Zf6 h.ok ([45],T.minus) ZPl ZPl Qd;clear Qd;have ZDR:((i:Int)+4==(i:Int)+1)=false:=by rw[ZX8];omega
  have Zgw:Hid ((i+4)=i+1->¬((ws.map tok)[i]? =some T.lit\/(ws.map tok)[i]? =some T.null)):=fun e=>U
  go_wp2_with fail;have YL:Hid (KO M W.heap.size (W.alloc (.cells #[.string ⟨#[99,111,117,110,116]⟩,.string ⟨#[115,117,109]⟩,.string ⟨#[109,105,110]⟩,.string ⟨#[109,97,120]⟩] 9)) Yr):=by
   refine⟨by have:=h.ZN;omega,fun k hk=>?_⟩;have h3:k<4:=hk;obtain⟨c0,c1,c2,c3⟩:=ZmA (ZWV W (.cells #[.string ⟨#[99,111,117,110,116]⟩,.string ⟨#[115,117,109]⟩,.string ⟨#[109,105,110]⟩,.string ⟨#[109,97,120]⟩] 9));rcases k with _|_|_|_|k
   ·exact c0
   ·exact c1
   ·exact c2
   ·exact c3
   ·omega
  have hC0:=h.alloc (.cells #[.string ⟨#[99,111,117,110,116]⟩,.string ⟨#[115,117,109]⟩,.string ⟨#[109,105,110]⟩,.string ⟨#[109,97,120]⟩] 9);have ZM:Zb M W _:=(Zb.alloc M W (.cells #[.string ⟨#[99,111,117,110,116]⟩,.string ⟨#[115,117,109]⟩,.string ⟨#[109,105,110]⟩,.string ⟨#[109,97,120]⟩] 9));generalize hSe:W.heap.size=S at YL ⊢;generalize W.alloc (.cells #[.string ⟨#[99,111,117,110,116]⟩,.string ⟨#[115,117,109]⟩,.string ⟨#[109,105,110]⟩,.string ⟨#[109,97,120]⟩] 9)=w0 at YL hC0 ZM ⊢;go_loopg [12] (4+1) (fun gk kv wr=>∃k:Nat,k<=4/\gk=4-k+1/\kv= .int .i64 k/\Cut C M N ws wr/\Zb M w0 wr/\∀k',k'<k->∀(hk:k'<Yr.length),ZJ ws (i:Int) Yr[k']=false);case atStart=>exact⟨0,U,U,rfl,hC0,Zb.refl _ _,fun k' h=>U⟩
  case round=>
   obtain⟨k,hk,rfl,rfl,hC2,hK2,hno⟩:=hrel;have Y4:Hid (∀k',k'<k->∀(hk:k'<Yr.length),ZJ ws (i:Int) Yr[k']=false):=hno;clear hno;by_cases hkl:k<4
   ·have hkl':k<Yr.length:=hkl;have q4:=(YL.out.keep hK2).2 k hkl';go_wp2_with fail;refine(Y8 C M N ws (i:Int) Yr[k] _ hC2 U U).mono ?_;rintro e w' ⟨rfl,rfl⟩;cases hkey:ZJ ws (i:Int) Yr[k]with
    |false=>
     go_wp2_with fail;go_roundg (4-(k+1)+1);case measure=>omega
     case rel=>
      refine⟨k+1,U,rfl,ZPp,hC2,hK2,fun k' hk' hk2=>?_⟩;by_cases hkk:k'=k
      ·subst hkk;exact hkey
      ·exact Y4.out k' U hk2
    |true=>
     obtain⟨hpw,hagg,htext,hcnt⟩:=Zok h.ok hkl' hkey;have Jz:Hid (ws[i].text=Yr[k]):=htext;have HCN:Hid (tok ws[i]=T.count↔k=0):=hcnt;have Yl:Hid (isAgg (tok ws[i])=true/\∀u,isAgg u=false->(ws.map tok)[i]?≠some u):=⟨hagg,fun u hu e=>by
      rw[ZXU,ZW1 hpw]at e;rw[<-ZXc e,hagg]at hu;cases hu⟩
     clear hagg htext hcnt hkey;by_cases hk0:k=0
     ·subst hk0;go_wp2_with fail;refine(KV C M N ws ((i+1:Nat):Int) _ _ hC2 U U).mono ?_;rintro e w' ⟨rfl,rfl⟩;cases ks1:Xt ws ((i+1:Nat):Int) [40]with
      |false=>
       have Q8:Hid (¬((ws.map tok)[i]? =some T.count/\(i+4)=i+4/\(ws.map tok)[i+1]? =some T.lp/\(ws.map tok)[i+2]? =some T.star/\(ws.map tok)[i+3]? =some T.rp)):=fun⟨e0,e1,e2,e3,e4⟩=>Zf6 h.ok ([40],T.lp) ZPl ZPl ks1 e2;go_wp2_with fail;refine(Q9 C M N ws m hI expr (i+1) (i+4) _ hC2 U U hj U U).mono ?_;rintro e w1 ⟨v1,rfl,Zf,hK1,hF1⟩;rcases hF1 with⟨rfl,hno⟩|⟨b,t,rfl,hb,hp,o,a,c,e2,t1,t2,hd⟩
       ·have HN:Hid (¬G factor (st (ws.map tok) i (i+4))):=fun hg=>by
         rcases KX HL.out hg with⟨e,_⟩|⟨_,e|e⟩|⟨e,e1⟩|⟨u,_,_,e⟩|⟨e,_⟩|⟨e,_⟩
         ·exact ZTj
         ·exact ZTj
         ·exact ZTj
         ·exact ZTi
         ·exact hno e
         ·exact ZTj
         ·exact ZTj
        exact ZS0
       ·have HE:Hid (sw ws (i+1) (i+4)=o::(a++ [c])):=e2;clear e2;have q5:=((YL.out.keep hK2).keep hK1).2 0 hkl';go_wp2_with fail;go_ret;refine⟨_,rfl,(Zf.alloc _).alloc _,((ZM.trans (hK2.trans hK1)).trans (Zb.alloc M _ _)).trans (Zb.alloc M _ _),.inr ⟨_,_,rfl,?_,Vo Zf.ZN Zf.Zw {kind:=Yr[0]} hp,?_⟩⟩
        ·exact ZVc
        ·exact ZWt
      |true=>
       go_wp2_with fail;refine(KV C M N ws ((i+2:Nat):Int) _ _ hC2 U U).mono ?_;rintro e w' ⟨rfl,rfl⟩;cases ks2:Xt ws ((i+2:Nat):Int) [42]with
       |false=>
        have Q8:Hid (¬((ws.map tok)[i]? =some T.count/\(i+4)=i+4/\(ws.map tok)[i+1]? =some T.lp/\(ws.map tok)[i+2]? =some T.star/\(ws.map tok)[i+3]? =some T.rp)):=fun⟨e0,e1,e2,e3,e4⟩=>Zf6 h.ok ([42],T.star) ZPl ZPl ks2 e3;go_wp2_with fail;refine(Q9 C M N ws m hI expr (i+1) (i+4) _ hC2 U U hj U U).mono ?_;rintro e w1 ⟨v1,rfl,Zf,hK1,hF1⟩;rcases hF1 with⟨rfl,hno⟩|⟨b,t,rfl,hb,hp,o,a,c,e2,t1,t2,hd⟩
        ·have HN:Hid (¬G factor (st (ws.map tok) i (i+4))):=fun hg=>by
          rcases KX HL.out hg with⟨e,_⟩|⟨_,e|e⟩|⟨e,e1⟩|⟨u,_,_,e⟩|⟨e,_⟩|⟨e,_⟩
          ·exact ZTj
          ·exact ZTj
          ·exact ZTj
          ·exact ZTi
          ·exact hno e
          ·exact ZTj
          ·exact ZTj
         exact ZS0
        ·have HE:Hid (sw ws (i+1) (i+4)=o::(a++ [c])):=e2;clear e2;have q5:=((YL.out.keep hK2).keep hK1).2 0 hkl';go_wp2_with fail;go_ret;refine⟨_,rfl,(Zf.alloc _).alloc _,((ZM.trans (hK2.trans hK1)).trans (Zb.alloc M _ _)).trans (Zb.alloc M _ _),.inr ⟨_,_,rfl,?_,Vo Zf.ZN Zf.Zw {kind:=Yr[0]} hp,?_⟩⟩
         ·exact ZVc
         ·exact ZWt
       |true=>
        go_wp2_with fail;refine(KV C M N ws ((i+3:Nat):Int) _ _ hC2 U U).mono ?_;rintro e w' ⟨rfl,rfl⟩;cases ks3:Xt ws ((i+3:Nat):Int) [41]with
        |false=>
         have Q8:Hid (¬((ws.map tok)[i]? =some T.count/\(i+4)=i+4/\(ws.map tok)[i+1]? =some T.lp/\(ws.map tok)[i+2]? =some T.star/\(ws.map tok)[i+3]? =some T.rp)):=fun⟨e0,e1,e2,e3,e4⟩=>Zf6 h.ok ([41],T.rp) ZPl ZPl ks3 e4;go_wp2_with fail;refine(Q9 C M N ws m hI expr (i+1) (i+4) _ hC2 U U hj U U).mono ?_;rintro e w1 ⟨v1,rfl,Zf,hK1,hF1⟩;rcases hF1 with⟨rfl,hno⟩|⟨b,t,rfl,hb,hp,o,a,c,e2,t1,t2,hd⟩
         ·have HN:Hid (¬G factor (st (ws.map tok) i (i+4))):=fun hg=>by
           rcases KX HL.out hg with⟨e,_⟩|⟨_,e|e⟩|⟨e,e1⟩|⟨u,_,_,e⟩|⟨e,_⟩|⟨e,_⟩
           ·exact ZTj
           ·exact ZTj
           ·exact ZTj
           ·exact ZTi
           ·exact hno e
           ·exact ZTj
           ·exact ZTj
          exact ZS0
         ·have HE:Hid (sw ws (i+1) (i+4)=o::(a++ [c])):=e2;clear e2;have q5:=((YL.out.keep hK2).keep hK1).2 0 hkl';go_wp2_with fail;go_ret;refine⟨_,rfl,(Zf.alloc _).alloc _,((ZM.trans (hK2.trans hK1)).trans (Zb.alloc M _ _)).trans (Zb.alloc M _ _),.inr ⟨_,_,rfl,?_,Vo Zf.ZN Zf.Zw {kind:=Yr[0]} hp,?_⟩⟩
          ·exact ZVc
          ·exact ZWt
        |true=>
         obtain⟨hl1,t1⟩:=ZQ ((JZ h.ok ([40],T.lp) ZPl ZPl (i+1)).1 ks1);obtain⟨hl2,t2⟩:=ZQ ((JZ h.ok ([42],T.star) ZPl ZPl (i+2)).1 ks2);obtain⟨hl3,t3⟩:=ZQ ((JZ h.ok ([41],T.rp) ZPl ZPl (i+3)).1 ks3);have HD:Hid (D factor (sw ws i (i+4)) (nd {kind:= [99,111,117,110,116],star:=true} .nil)):=by
          show D _ _ _;rw[ZLy U];exact .Uo (HCN.out.2 ZRn) t1 t2 t3
         clear t1 t2 t3;go_wp2_with fail;go_ret;refine⟨_,rfl,hC2.alloc _,(ZM.trans hK2).trans (Zb.alloc M _ _),.inr ⟨_,_,rfl,?_,ZdE hC2.ZN hC2.Zw {kind:= [99,111,117,110,116],star:=true},HD.out⟩⟩;have:=hC2.Zw;omega
     ·have hk0':¬((k:Int)=0):=by omega
      have Q8:Hid (¬((ws.map tok)[i]? =some T.count/\(i+4)=i+4/\(ws.map tok)[i+1]? =some T.lp/\(ws.map tok)[i+2]? =some T.star/\(ws.map tok)[i+3]? =some T.rp)):=fun⟨e0,e1,e2,e3,e4⟩=>hk0 (HCN.out.1 (by obtain⟨_,e⟩:=ZQ e0;exact e));go_wp2_with fail;refine(Q9 C M N ws m hI expr (i+1) (i+4) _ hC2 U U hj U U).mono ?_;rintro e w1 ⟨v1,rfl,Zf,hK1,hF1⟩;rcases hF1 with⟨rfl,hno⟩|⟨b,t,rfl,hb,hp,o,a,c,e2,t1,t2,hd⟩
      ·have HN:Hid (¬G factor (st (ws.map tok) i (i+4))):=fun hg=>by
        rcases KX HL.out hg with⟨e,_⟩|⟨_,e|e⟩|⟨e,e1⟩|⟨u,_,_,e⟩|⟨e,_⟩|⟨e,_⟩
        ·exact ZTj
        ·exact ZTj
        ·exact ZTj
        ·exact ZTi
        ·exact hno e
        ·exact ZTj
        ·exact ZTj
       exact ZS0
      ·have HE:Hid (sw ws (i+1) (i+4)=o::(a++ [c])):=e2;clear e2;have q5:=((YL.out.keep hK2).keep hK1).2 k hkl';go_wp2_with fail;go_ret;refine⟨_,rfl,(Zf.alloc _).alloc _,((ZM.trans (hK2.trans hK1)).trans (Zb.alloc M _ _)).trans (Zb.alloc M _ _),.inr ⟨_,_,rfl,?_,Vo Zf.ZN Zf.Zw {kind:=Yr[k]} hp,?_⟩⟩
       ·exact ZVc
       ·exact ZWt
   ·have HX:Hid (¬V9 expr (st (ws.map tok) i (i+4))->¬G column (st (ws.map tok) i (i+4))->¬G factor (st (ws.map tok) i (i+4))):=fun hr hcl hg=>by
     have hagg:∀u,(ws.map tok)[i]? =some u->isAgg u=true->False:=fun u hu ha=>by
      obtain⟨k',hk',e'⟩:=Zmc h.ok hu ha;have h6:k'<4:=hk';rw[Y4.out k' U hk']at e';cases e'
     rcases KX HL.out hg with⟨e,_⟩|⟨e1,e⟩|⟨e,e1⟩|⟨u,e1,e2,_⟩|⟨_,e⟩|⟨_,e⟩
     ·exact Zgz.out e
     ·exact Zgw.out ZRL e
     ·exact hagg _ e rfl
     ·exact hagg _ e1 e2
     ·exact hr e
     ·exact hcl e
    go_wp2_with fail;refine(Q9 C M N ws m hI expr i (i+4) _ hC2 U U hj U U).mono ?_;rintro e w1 ⟨v1,rfl,Zf,hK1,hF1⟩;rcases hF1 with⟨rfl,hno⟩|⟨b,t,rfl,hb,hp,o,a,c,e2,t1,t2,hd⟩
    ·have HR:Hid (¬V9 expr (st (ws.map tok) i (i+4))):=hno;clear hno;go_wp2_with fail;refine(hI column i ((i+4:Nat):Int) _ Zf U U U ZPr).mono ?_;rintro e w3 ⟨v3,rfl,ZA,hK3,ZH⟩;rw[Int.toNat_natCast]at ZH;go_wp2_with fail;go_ret;refine⟨_,rfl,ZA,(ZM.trans (hK2.trans hK1)).trans hK3,?_⟩;rcases ZH with⟨e,ZK⟩|⟨b3,t3,e,hb3,hp3,hd3⟩
     ·exact ZS7
     ·exact ZTb
    ·have HD:Hid (D factor (sw ws i (i+4)) t):=by show D _ _ _;rw[e2];exact .Vg t1 t2 hd
     exact ZSC
end
section
open NT
theorem ZAy(C M N:Nat)(ws:List RW)(m:Nat)(hI:Is C M N ws m)(i j:Nat)(W:World)(h:Cut C M N ws W)(hi:i<j)(hj:j<=ws.length)(hm:(j-i)*20<m):
  Calls prog 108 #[.pointer (some ⟨C,0,none⟩),.int .i64 i,.int .i64 j] W (Post C M N ws W (¬G factor (st (ws.map tok) i j)) (D factor (sw ws i j))):=by
 by_cases hje:j=i+1
 ·subst hje;exact ZAz C M N ws m hI i W h hi hj hm
 ·by_cases X5:j=i+4
  ·subst X5;exact ZAB C M N ws m hI i W h hi hj hm
  ·exact ZAA C M N ws m hI i j W h hi hj hm hje X5
end
end Go.Proofs.YthmlacabmlghbaaGreatDoor
