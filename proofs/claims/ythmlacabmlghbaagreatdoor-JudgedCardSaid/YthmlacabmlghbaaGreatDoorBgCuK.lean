import Derived.Test.YthmlacabmlghbaaGreatDoorBgJa43
set_option maxRecDepth 100000
set_option maxHeartbeats 8000000
set_option linter.unusedSimpArgs false
set_option linter.unusedVariables false
namespace Go.Proofs.YthmlacabmlghbaaGreatDoor
theorem ZUH{p:Prop}(h:p:=by go_wp2_with fail;go_ret;exact⟨_,rfl,hC,Zb.refl _ _,.inl ⟨rfl,HN.out⟩⟩):p:=h
theorem ZS1{p:Prop}(h:p:=by clear hno;go_wp2_with fail;go_ret;exact⟨_,rfl,Zf,hK1,.inl ⟨rfl,HN.out⟩⟩):p:=h
theorem ZS0{p:Prop}(h:p:=by clear hno;go_wp2_with fail;go_ret;exact⟨_,rfl,Zf,(ZM.trans (hK2.trans hK1)),.inl ⟨rfl,HN.out⟩⟩):p:=h
theorem ZUJ{p:Prop}(h:p:=by go_wp2_with fail;go_ret;exact⟨_,rfl,hC2,(ZM.trans hK2),.inl ⟨rfl,HN.out⟩⟩):p:=h
open Go.RowKit
open NT
theorem ZEa{l:List T}{u:T}{r:List T}(h:G expr l)(e:l=u::r):XI u=false:=by
 obtain⟨t,r',e',hf⟩:=VM h;rw[e]at e';obtain⟨rfl,_⟩:=ZXk e';cases u<;>first|rfl|exact absurd hf ZPl
theorem ZzS{w:List T}{i j:Nat}{t u:T}(hj:j<=w.length)(h:st w i j= [t,u]):j=i+2/\w[i]? =some t/\w[i+1]? =some u:=by
 have hl:=congrArg List.length h;rw[Za2 w hj]at hl;simp at hl;obtain rfl:j=i+2:=U
 rw[Q4 w U U,Q4 w U U]at h;simp only[List.cons.injEq]at h;exact⟨rfl,by rw[ZW1 U,h.1],by rw[ZW1 U,h.2.1]⟩
theorem V3{w:List T}{i j:Nat}{t:T}{r:List T}(hj:j<=w.length)(h:st w i j=t::r):i<j/\w[i]? =some t/\st w (i+1) j=r:=by
 have hi:i<j:=by
  by_cases hh:i<j
  ·exact hh
  ·rw[Ky w U]at h;cases h
 rw[Q4 w hi hj]at h;obtain⟨e1,e2⟩:=ZXk h;exact⟨hi,ZSs,e2⟩
theorem Uc{w:List T}{p j:Nat}(hj:j<=w.length)(h:Qh (st w p j)):
  (w[p]? =some T.Qe/\((w[p+1]? =some T.null/\j=p+2)\/(w[p+1]? =some T.not_/\w[p+2]? =some T.null/\j=p+3)))\/
  (w[p]? =some T.Yt/\V9 query (st w (p+1) j))\/
  (w[p]? =some T.not_/\w[p+1]? =some T.Yt/\V9 query (st w (p+2) j))\/
  (w[p]? =some T.cmp/\((∃u,w[p+1]? =some u/\XI u=true/\V9 query (st w (p+2) j))\/((∀u,w[p+1]? =some u->XI u=false)/\G expr (st w (p+1) j)))):=by
 rcases h with h|h|⟨q,h,hq⟩|⟨q,h,hq⟩|⟨u,q,h,hu,hq⟩|⟨b,h,hb⟩
 ·obtain⟨e1,e2,e3⟩:=ZzS hj h;exact .inl ⟨e2,.inl ⟨e3,e1⟩⟩
 ·obtain⟨e1,e2,e3,e4⟩:=Zaz hj h;exact .inl ⟨e2,.inr ⟨e3,e4,e1⟩⟩
 ·obtain⟨_,e1,e2⟩:=V3 hj h;exact .inr (.inl ⟨e1,q,e2,hq⟩)
 ·obtain⟨_,e1,e2⟩:=V3 hj h;obtain⟨_,e3,e4⟩:=V3 hj e2;exact .inr (.inr (.inl ⟨e1,e3,q,e4,hq⟩))
 ·obtain⟨_,e1,e2⟩:=V3 hj h;obtain⟨_,e3,e4⟩:=V3 hj e2;exact .inr (.inr (.inr ⟨e1,.inl ⟨u,e3,hu,q,e4,hq⟩⟩))
 ·obtain⟨_,e1,e2⟩:=V3 hj h;refine .inr (.inr (.inr ⟨e1,.inr ⟨fun u hu=>?_,by rw[e2];exact hb⟩⟩));obtain⟨t,r,e3,_⟩:=VM hb;rw[e3]at e2;obtain⟨_,e4,_⟩:=V3 hj e2;rw[hu]at e4;cases ZXc e4;exact ZEa hb e3
def Xa:List Za:= [[61], [60,62], [60], [60,61], [62], [62,61]]
theorem ZrB{w:World}{b:Nat}{x y z t u v:Value}{ty:TypeId}(h:w.heap[b]? =some (.cells #[x,y,z,t,u,v] ty (0,0))):w.cell? ⟨b,0,none⟩=some x/\w.cell? ⟨b,1,none⟩=some y/\w.cell? ⟨b,2,none⟩=some z/\w.cell? ⟨b,3,none⟩=some t/\w.cell? ⟨b,4,none⟩=some u/\w.cell? ⟨b,5,none⟩=some v:=
 ⟨ZPy,ZPy,ZPy,ZPy,ZPy,ZPy⟩
theorem ZrO:∀x∈Y0.map Prod.fst,(Vt x=T.cmp↔x∈Xa):=by decide
theorem ZBd:∀x∈YE.map Prod.fst,Je x≠T.cmp:=by decide
theorem ZMu{w:RW}(hw:Yi w)(h:tok w=T.cmp):w.sort=ZT/\w.text∈Xa:=by
 unfold tok at h;rcases hw with⟨hs,ht⟩|⟨hs,ht⟩|hs|hs|hs
 ·rw[hs,ZWR rfl]at h;exact absurd h (ZBd _ ht)
 ·rw[hs,ZWQ ZPl,ZWR rfl]at h;exact⟨hs,(ZrO _ ht).1 h⟩
 ·rw[hs,ZWQ ZPl,ZWQ ZPl,ZWR rfl]at h;cases h
 ·rw[hs,ZWQ ZPl,ZWQ ZPl,ZWQ ZPl]at h;cases h
 ·rw[hs,ZWQ ZPl,ZWQ ZPl,ZWQ ZPl]at h;cases h
theorem ZrN{ws:List RW}(ok:∀w∈ws,Yi w){p:Nat}(hu:(ws.map tok)[p]? =some T.cmp):∃k,∃hk:k<Xa.length,Xt ws (p:Int) Xa[k]=true:=by
 obtain⟨hl,e⟩:=ZQ hu;obtain⟨h1,h2⟩:=ZMu (ok _ (ZWX hl)) e;obtain⟨k,hk,e3⟩:=ZX4 h2;refine⟨k,hk,?_⟩;unfold Xt;rw[Za6 hl];show JY ws[p] Xa[k]=true;unfold JY;rw[h1,e3];simp
theorem Zwx{ws:List RW}(ok:∀w∈ws,Yi w){p k:Nat}(hk:k<Xa.length)(h:Xt ws (p:Int) Xa[k]=true):∃hl:p<ws.length,tok ws[p]=T.cmp/\ws[p].text=Xa[k]:=by
 by_cases hl:p<ws.length
 ·refine⟨hl,?_⟩;have hx:JY ws[p] Xa[k]=true:=by unfold Xt at h;rw[Za6 hl]at h;exact h
  unfold JY at hx;simp only[ZXN,ZXT]at hx;have ht:ws[p].text∈Y0.map Prod.fst:=by rw[hx.2];exact(show ∀x∈Xa,x∈Y0.map Prod.fst by decide) _ (ZWX hk)
  refine⟨?_,hx.2⟩;unfold tok;rw[ZWQ (by rw[hx.1];decide),ZWR hx.1];exact(ZrO _ ht).2 (by rw[hx.2];exact ZWX hk)
 ·unfold Xt at h;rw[Zc0 U]at h;cases h
theorem Z4{w:List T}{p:Nat}{t u:T}(h:w[p]? =some t)(hne:t≠u):w[p]?≠some u:=fun e=>hne (ZXc (h.symm.trans e))
theorem Ea{ws:List RW}(ok:∀w∈ws,Yi w)(y:Za×T)(hy:y∈YE)(hc:y.2≠T.agg){i:Nat}(h:ZJ ws (i:Int) y.1=false):(ws.map tok)[i]?≠some y.2:=fun e=>by
 rw[(ZZ ok y hy hc i).2 e]at h;cases h
theorem Zf6{ws:List RW}(ok:∀w∈ws,Yi w)(y:Za×T)(hy:y∈Y0)(hc:y.2≠T.cmp){i:Nat}(h:Xt ws (i:Int) y.1=false):(ws.map tok)[i]?≠some y.2:=fun e=>by
 rw[(JZ ok y hy hc i).2 e]at h;cases h
def Zxu(ta:Tr)(s:List RW)(t:Tr):Prop:=∀l,D expr l ta->D basic (l++s) t
theorem ZAu(C M N:Nat)(ws:List RW)(m:Nat)(hI:Is C M N ws m)(p j:Nat)(W:World)(h:Cut C M N ws W)(ta:Tr)(ba:Nat)(Vm:Zr M N W ta (.pointer (some ⟨ba,0,none⟩)))(hi:p<j)(hj:j<=ws.length)(hm:(j-p)*20<=m):
  Calls Tryz.prog 148 #[.pointer (some ⟨C,0,none⟩),.pointer (some ⟨ba,0,none⟩),.int .i64 p,.int .i64 j] W (Post C M N ws W (¬Qh (st (ws.map tok) p j)) (Zxu ta (sw ws p j))):=by
 have hlen:=h.len;have hC:=h;have HL:Hid (j<=(ws.map tok).length):=by show j<=_;simpa using hj
 go_enter Tryz.func148,Tryz.ntmps148;go_wp2_with fail;refine(Y8 C M N ws ((p:Nat):Int) _ _ hC U U).mono ?_;rintro e w' ⟨rfl,rfl⟩;cases kis:ZJ ws ((p:Nat):Int) [105,115]with
 |true=>
  have HIS:Hid ((ws.map tok)[p]? =some T.Qe):=(ZZ h.ok ([105,115],T.Qe) ZPl ZPl (p)).1 kis;clear kis;go_wp2_with fail;refine(Y8 C M N ws ((p+1:Nat):Int) _ _ hC U U).mono ?_;rintro e w' ⟨rfl,rfl⟩;cases ZcJ:ZJ ws ((p+1:Nat):Int) [110,111,116]with
  |true=>
   have KF:Hid ((ws.map tok)[p+1]? =some T.not_):=(ZZ h.ok ([110,111,116],T.not_) ZPl ZPl (p+1)).1 ZcJ;clear ZcJ;go_wp2_with fail;refine(Y8 C M N ws ((p+2:Nat):Int) _ _ hC U U).mono ?_;rintro e w' ⟨rfl,rfl⟩;cases ZcK:ZJ ws ((p+2:Nat):Int) [110,117,108,108]with
   |false=>
    have HN:Hid (¬Qh (st (ws.map tok) p j)):=fun ha=>by
      rcases Uc HL.out ha with⟨_,⟨e,_⟩|⟨e,e2,_⟩⟩|⟨e,_⟩|⟨e,_⟩|⟨e,_⟩
      ·exact ZTm
      ·exact Ea h.ok ([110,117,108,108],T.null) ZPl ZPl ZcK e2
      ·exact ZTk
      ·exact ZTk
      ·exact ZTk
    exact ZUH
   |true=>
    have ZlL:Hid ((ws.map tok)[p+2]? =some T.null):=(ZZ h.ok ([110,117,108,108],T.null) ZPl ZPl (p+2)).1 ZcK;by_cases hje:j=p+3
    ·subst hje;go_wp2_with fail;go_ret;refine⟨_,rfl,(hC.alloc _).alloc _,(Zb.alloc M _ _).trans (Zb.alloc M _ _),.inr ⟨_,_,rfl,?_,Vo hC.ZN hC.Zw {kind:= [105,115,110,117,108,108],not_:=true} Vm,fun l hl=>?_⟩⟩
     ·have:=hC.Zw;simp;omega
     ·skip;obtain⟨hl0,t0⟩:=ZQ HIS.out;obtain⟨hl1,t1⟩:=ZQ KF.out;obtain⟨hl2,t2⟩:=ZQ ZlL.out;rw[Zpp U];exact .VE t0 t1 t2 hl
    ·have HN:Hid (¬Qh (st (ws.map tok) p j)):=fun ha=>by
      rcases Uc HL.out ha with⟨_,⟨e,e3⟩|⟨e,e2,e3⟩⟩|⟨e,_⟩|⟨e,_⟩|⟨e,_⟩
      ·exact ZTm
      ·exact hje e3
      ·exact ZTk
      ·exact ZTk
      ·exact ZTk
     have ZtC:¬((j:Int)=(p:Int)+3):=U
     exact ZUH
  |false=>
   have KF:Hid ((ws.map tok)[p+1]?≠some T.not_):=Ea h.ok ([110,111,116],T.not_) ZPl ZPl ZcJ;clear ZcJ;go_wp2_with fail;refine(Y8 C M N ws ((p+1:Nat):Int) _ _ hC U U).mono ?_;rintro e w' ⟨rfl,rfl⟩;cases ZcK:ZJ ws ((p+1:Nat):Int) [110,117,108,108]with
   |false=>
    have HN:Hid (¬Qh (st (ws.map tok) p j)):=fun ha=>by
      rcases Uc HL.out ha with⟨_,⟨e,_⟩|⟨e,e2,_⟩⟩|⟨e,_⟩|⟨e,_⟩|⟨e,_⟩
      ·exact ZTf
      ·exact KF.out e
      ·exact ZTk
      ·exact ZTk
      ·exact ZTk
    exact ZUH
   |true=>
    have ZlL:Hid ((ws.map tok)[p+1]? =some T.null):=(ZZ h.ok ([110,117,108,108],T.null) ZPl ZPl (p+1)).1 ZcK;by_cases hje:j=p+2
    ·subst hje;go_wp2_with fail;go_ret;refine⟨_,rfl,(hC.alloc _).alloc _,(Zb.alloc M _ _).trans (Zb.alloc M _ _),.inr ⟨_,_,rfl,?_,Vo hC.ZN hC.Zw {kind:= [105,115,110,117,108,108]} Vm,fun l hl=>?_⟩⟩
     ·have:=hC.Zw;simp;omega
     ·skip;obtain⟨hl0,t0⟩:=ZQ HIS.out;obtain⟨hl1,t1⟩:=ZQ ZlL.out;rw[Z0 ws U U,Zla U];exact .VF t0 t1 hl
    ·have HN:Hid (¬Qh (st (ws.map tok) p j)):=fun ha=>by
      rcases Uc HL.out ha with⟨_,⟨e,e3⟩|⟨e,e2,e3⟩⟩|⟨e,_⟩|⟨e,_⟩|⟨e,_⟩
      ·exact hje e3
      ·exact KF.out e
      ·exact ZTk
      ·exact ZTk
      ·exact ZTk
     have ZtC:¬((j:Int)=(p:Int)+2):=U
     exact ZUH
 |false=>
  have HIS:Hid ((ws.map tok)[p]?≠some T.Qe):=Ea h.ok ([105,115],T.Qe) ZPl ZPl kis;clear kis;go_wp2_with fail;refine(Y8 C M N ws ((p:Nat):Int) _ _ hC U U).mono ?_;rintro e w' ⟨rfl,rfl⟩;cases ZcJ:ZJ ws ((p:Nat):Int) [110,111,116]with
  |true=>
   have KF:Hid ((ws.map tok)[p]? =some T.not_):=(ZZ h.ok ([110,111,116],T.not_) ZPl ZPl (p)).1 ZcJ;clear ZcJ;go_wp2_with fail;refine(Y8 C M N ws ((p+1:Nat):Int) _ _ hC U U).mono ?_;rintro e w' ⟨rfl,rfl⟩;cases kin:ZJ ws ((p+1:Nat):Int) [105,110]with
   |true=>
    have Jy:Hid ((ws.map tok)[p+1]? =some T.Yt):=(ZZ h.ok ([105,110],T.Yt) ZPl ZPl (p+1)).1 kin;clear kin;go_wp2_with fail;refine(Q9 C M N ws m hI query (p+2) j _ hC U U hj U U).mono ?_;rintro e w1 ⟨v1,rfl,Zf,hK1,hF1⟩;rcases hF1 with⟨rfl,hno⟩|⟨b,t,rfl,hb,hp,o,a,c,e2,t1,t2,hd⟩
    ·have HN:Hid (¬Qh (st (ws.map tok) p j)):=fun ha=>by
      rcases Uc HL.out ha with⟨e,_⟩|⟨e,e2⟩|⟨e,e1,e2⟩|⟨e,_⟩
      ·exact HIS.out e
      ·exact ZTm
      ·exact hno e2
      ·exact ZTm
     exact ZS1
    ·have HE:Hid (sw ws (p+2) j=o::(a++ [c])):=e2;clear e2;have VU:p+2<j:=by
      by_cases hh:p+2<j
      ·exact hh
      ·have:=HE.out;rw[V4 ws U]at this;cases this
     have JS:=Vm.keep hK1;go_wp2_with fail;go_ret;refine⟨_,rfl,(Zf.alloc _).alloc _,(hK1.trans (Zb.alloc M _ _)).trans (Zb.alloc M _ _),.inr ⟨_,_,rfl,?_,EK Zf.ZN Zf.Zw {kind:= [105,110],not_:=true} JS hp,fun l hl=>?_⟩⟩
     ·exact ZVc
     ·have e2:=HE.out;obtain⟨hl0,t3⟩:=ZQ KF.out;obtain⟨hl1,t4⟩:=ZQ Jy.out;rw[Z0 ws (i:=p) U hj,Z0 ws (i:=p+1) U hj,show p+1+1=p+2 from rfl,e2];exact .VD t3 t4 t1 t2 hl hd
   |false=>
    have Jy:Hid ((ws.map tok)[p+1]?≠some T.Yt):=Ea h.ok ([105,110],T.Yt) ZPl ZPl kin;clear kin;go_wp2_with fail;have YL:Hid (KO M W.heap.size (W.alloc (.cells #[.string ⟨#[61]⟩,.string ⟨#[60,62]⟩,.string ⟨#[60]⟩,.string ⟨#[60,61]⟩,.string ⟨#[62]⟩,.string ⟨#[62,61]⟩] 9)) Xa):=by
     refine⟨by have:=hC.ZN;omega,fun k hk=>?_⟩;have h3:k<6:=hk;obtain⟨c0,c1,c2,c3,c4,c5⟩:=ZrB (ZWV W (.cells #[.string ⟨#[61]⟩,.string ⟨#[60,62]⟩,.string ⟨#[60]⟩,.string ⟨#[60,61]⟩,.string ⟨#[62]⟩,.string ⟨#[62,61]⟩] 9));rcases k with _|_|_|_|_|_|k
     ·exact c0
     ·exact c1
     ·exact c2
     ·exact c3
     ·exact c4
     ·exact c5
     ·omega
    have hC0:=hC.alloc (.cells #[.string ⟨#[61]⟩,.string ⟨#[60,62]⟩,.string ⟨#[60]⟩,.string ⟨#[60,61]⟩,.string ⟨#[62]⟩,.string ⟨#[62,61]⟩] 9);have ZM:Zb M W _:=Zb.alloc M W (.cells #[.string ⟨#[61]⟩,.string ⟨#[60,62]⟩,.string ⟨#[60]⟩,.string ⟨#[60,61]⟩,.string ⟨#[62]⟩,.string ⟨#[62,61]⟩] 9);generalize hSe:W.heap.size=S at YL ⊢;generalize W.alloc (.cells #[.string ⟨#[61]⟩,.string ⟨#[60,62]⟩,.string ⟨#[60]⟩,.string ⟨#[60,61]⟩,.string ⟨#[62]⟩,.string ⟨#[62,61]⟩] 9)=w0 at YL hC0 ZM ⊢;go_loopg [18] (6+1) (fun gk kv wr=>∃k:Nat,k<=6/\gk=6-k+1/\kv= .int .i64 k/\Cut C M N ws wr/\Zb M w0 wr/\∀k',k'<k->∀(hk:k'<Xa.length),Xt ws (p:Int) Xa[k']=true->¬Qh (st (ws.map tok) p j));case atStart=>exact⟨0,U,U,rfl,hC0,Zb.refl _ _,fun k' h=>U⟩
    case round=>
     obtain⟨k,hk,rfl,rfl,hC2,hK2,hno⟩:=hrel;have Y4:Hid (∀k',k'<k->∀(hk:k'<Xa.length),Xt ws (p:Int) Xa[k']=true->¬Qh (st (ws.map tok) p j)):=hno;clear hno;by_cases hkl:k<6
     ·have hkl':k<Xa.length:=hkl;have q4:=(YL.out.keep hK2).2 k hkl';go_wp2_with fail;refine(KV C M N ws (p:Int) Xa[k] _ hC2 U U).mono ?_;rintro e w' ⟨rfl,rfl⟩;cases hkey:Xt ws (p:Int) Xa[k]with
      |false=>
       go_wp2_with fail;go_roundg (6-(k+1)+1);case measure=>omega
       case rel=>
        refine⟨k+1,U,rfl,ZPp,hC2,hK2,fun k' hk' hk2 e1=>?_⟩;by_cases hkk:k'=k
        ·subst hkk;rw[hkey]at e1;cases e1
        ·exact Y4.out k' U hk2 e1
      |true=>
       obtain⟨hpw,hset,htext⟩:=Zwx h.ok hkl' hkey;have HT:Hid (tok ws[p]=T.cmp):=hset;have Jz:Hid (ws[p].text=Xa[k]):=htext;have Xe:Hid ((ws.map tok)[p]? =some T.cmp):=by show _=_;rw[ZXU,ZW1 hpw];simp[hset]
       clear hset htext hkey;have Zgu:Hid (ZJ ws ((p+1:Nat):Int) [97,110,121]=true\/ZJ ws ((p+1:Nat):Int) [97,108,108]=true->∃hl:p+1<ws.length,XI (tok ws[p+1])=true):=fun hh=>by
        rcases hh with hh|hh
        ·exact ZVP
        ·exact ZVO
       go_wp2_with fail;refine(Y8 C M N ws ((p+1:Nat):Int) _ _ hC2 U U).mono ?_;rintro e w' ⟨rfl,rfl⟩;cases Zid:ZJ ws ((p+1:Nat):Int) [97,110,121]with
       |true=>
        have HH0:=Zgu.out (.inl Zid);go_wp2_with fail;refine(Y8 C M N ws ((p+1:Nat):Int) _ _ hC2 U U).mono ?_;rintro e w' ⟨rfl,rfl⟩;cases ZeG:ZJ ws ((p+1:Nat):Int) [97,108,108]with
        |true=>
         obtain⟨hl1,VT⟩:=HH0;have HH:Hid (XI (tok ws[p+1])=true):=VT;clear VT;go_wp2_with fail;refine(Q9 C M N ws m hI query (p+2) j _ hC2 U U hj U U).mono ?_;rintro e w1 ⟨v1,rfl,Zf,hK1,hF1⟩;rcases hF1 with⟨rfl,hno⟩|⟨b,t,rfl,hb,hp,o,a,c,e2,t1,t2,hd⟩
         ·have HN:Hid (¬Qh (st (ws.map tok) p j)):=fun ha=>by
           rcases Uc HL.out ha with⟨e,_⟩|⟨e,e2⟩|⟨e,e1,e2⟩|⟨e,⟨u,e1,e2,e3⟩|⟨e1,e2⟩⟩
           ·exact ZTn
           ·exact ZTn
           ·exact ZTn
           ·exact hno e3
           ·have:=e1 (tok ws[p+1]) ZQp;rw[HH.out]at this;cases this
          exact ZS0
         ·have HE:Hid (sw ws (p+2) j=o::(a++ [c])):=e2;clear e2;have VU:p+2<j:=by
           by_cases hh:p+2<j
           ·exact hh
           ·have:=HE.out;rw[V4 ws U]at this;cases this
          have JS:=((Vm.keep ZM).keep hK2).keep hK1;have q5:=((YL.out.keep hK2).keep hK1).2 k hkl';obtain⟨wa,cap,QA,c0,c1,c2,c3,cw⟩:=Zf.cells;obtain⟨g,rfl,hg,q1,q2,q3⟩:=cw (p+1) hl1;clear cw;have ZhJ:S<w1.heap.size:=ZWW _ _ q5;have ZhP:g<w1.heap.size:=ZWW _ _ q2;have Zhq:C<w1.heap.size:=ZWW _ _ c0;go_wp2_with fail;go_region;go_wp2_with fail;go_ret;refine⟨_,rfl,((Zf.alloc _).alloc _).drew 1,(((ZM.trans (hK2.trans hK1)).trans (Zb.alloc M _ _)).trans (Zb.alloc M _ _)).trans (Zb.drew M _ 1),.inr ⟨_,_,rfl,?_,(EK Zf.ZN Zf.Zw {kind:=ws[p+1].text,sign:=Xa[k]} JS hp).keep (Zb.drew M _ 1),fun l hl=>?_⟩⟩
          ·exact ZVc
          ·exact ZU2
        |false=>
         obtain⟨hl1,VT⟩:=HH0;have HH:Hid (XI (tok ws[p+1])=true):=VT;clear VT;go_wp2_with fail;refine(Q9 C M N ws m hI query (p+2) j _ hC2 U U hj U U).mono ?_;rintro e w1 ⟨v1,rfl,Zf,hK1,hF1⟩;rcases hF1 with⟨rfl,hno⟩|⟨b,t,rfl,hb,hp,o,a,c,e2,t1,t2,hd⟩
         ·have HN:Hid (¬Qh (st (ws.map tok) p j)):=fun ha=>by
           rcases Uc HL.out ha with⟨e,_⟩|⟨e,e2⟩|⟨e,e1,e2⟩|⟨e,⟨u,e1,e2,e3⟩|⟨e1,e2⟩⟩
           ·exact ZTn
           ·exact ZTn
           ·exact ZTn
           ·exact hno e3
           ·have:=e1 (tok ws[p+1]) ZQp;rw[HH.out]at this;cases this
          exact ZS0
         ·have HE:Hid (sw ws (p+2) j=o::(a++ [c])):=e2;clear e2;have VU:p+2<j:=by
           by_cases hh:p+2<j
           ·exact hh
           ·have:=HE.out;rw[V4 ws U]at this;cases this
          have JS:=((Vm.keep ZM).keep hK2).keep hK1;have q5:=((YL.out.keep hK2).keep hK1).2 k hkl';obtain⟨wa,cap,QA,c0,c1,c2,c3,cw⟩:=Zf.cells;obtain⟨g,rfl,hg,q1,q2,q3⟩:=cw (p+1) hl1;clear cw;have ZhJ:S<w1.heap.size:=ZWW _ _ q5;have ZhP:g<w1.heap.size:=ZWW _ _ q2;have Zhq:C<w1.heap.size:=ZWW _ _ c0;go_wp2_with fail;go_region;go_wp2_with fail;go_ret;refine⟨_,rfl,((Zf.alloc _).alloc _).drew 1,(((ZM.trans (hK2.trans hK1)).trans (Zb.alloc M _ _)).trans (Zb.alloc M _ _)).trans (Zb.drew M _ 1),.inr ⟨_,_,rfl,?_,(EK Zf.ZN Zf.Zw {kind:=ws[p+1].text,sign:=Xa[k]} JS hp).keep (Zb.drew M _ 1),fun l hl=>?_⟩⟩
          ·exact ZVc
          ·exact ZU2
       |false=>
        go_wp2_with fail;refine(Y8 C M N ws ((p+1:Nat):Int) _ _ hC2 U U).mono ?_;rintro e w' ⟨rfl,rfl⟩;cases ZeG:ZJ ws ((p+1:Nat):Int) [97,108,108]with
        |true=>
         have HH0:=Zgu.out (.inr ZeG);obtain⟨hl1,VT⟩:=HH0;have HH:Hid (XI (tok ws[p+1])=true):=VT;clear VT;go_wp2_with fail;refine(Q9 C M N ws m hI query (p+2) j _ hC2 U U hj U U).mono ?_;rintro e w1 ⟨v1,rfl,Zf,hK1,hF1⟩;rcases hF1 with⟨rfl,hno⟩|⟨b,t,rfl,hb,hp,o,a,c,e2,t1,t2,hd⟩
         ·have HN:Hid (¬Qh (st (ws.map tok) p j)):=fun ha=>by
           rcases Uc HL.out ha with⟨e,_⟩|⟨e,e2⟩|⟨e,e1,e2⟩|⟨e,⟨u,e1,e2,e3⟩|⟨e1,e2⟩⟩
           ·exact ZTn
           ·exact ZTn
           ·exact ZTn
           ·exact hno e3
           ·have:=e1 (tok ws[p+1]) ZQp;rw[HH.out]at this;cases this
          exact ZS0
         ·have HE:Hid (sw ws (p+2) j=o::(a++ [c])):=e2;clear e2;have VU:p+2<j:=by
           by_cases hh:p+2<j
           ·exact hh
           ·have:=HE.out;rw[V4 ws U]at this;cases this
          have JS:=((Vm.keep ZM).keep hK2).keep hK1;have q5:=((YL.out.keep hK2).keep hK1).2 k hkl';obtain⟨wa,cap,QA,c0,c1,c2,c3,cw⟩:=Zf.cells;obtain⟨g,rfl,hg,q1,q2,q3⟩:=cw (p+1) hl1;clear cw;have ZhJ:S<w1.heap.size:=ZWW _ _ q5;have ZhP:g<w1.heap.size:=ZWW _ _ q2;have Zhq:C<w1.heap.size:=ZWW _ _ c0;go_wp2_with fail;go_region;go_wp2_with fail;go_ret;refine⟨_,rfl,((Zf.alloc _).alloc _).drew 1,(((ZM.trans (hK2.trans hK1)).trans (Zb.alloc M _ _)).trans (Zb.alloc M _ _)).trans (Zb.drew M _ 1),.inr ⟨_,_,rfl,?_,(EK Zf.ZN Zf.Zw {kind:=ws[p+1].text,sign:=Xa[k]} JS hp).keep (Zb.drew M _ 1),fun l hl=>?_⟩⟩
          ·exact ZVc
          ·exact ZU2
        |false=>
         have HH:Hid (∀u,(ws.map tok)[p+1]? =some u->XI u=false):=fun u hu=>by
          cases hh:XI u with
          |false=>rfl
          |true=>
           have:u=T.Zay\/u=T.Xl:=by revert hh;cases u<;>simp[XI]
           rcases this with rfl|rfl
           ·exact ZTq
           ·exact ZTp
         go_wp2_with fail;refine(hI expr (p+1) j _ hC2 U U U ZPr).mono ?_;rintro e w3 ⟨v3,rfl,ZA,hK3,ZH⟩;rw[Int.toNat_natCast]at ZH;rcases ZH with⟨rfl,ZK⟩|⟨b3,t3,rfl,hb3,hp3,hd3⟩
         ·have HN:Hid (¬Qh (st (ws.map tok) p j)):=fun ha=>by
           rcases Uc HL.out ha with⟨e,_⟩|⟨e,e2⟩|⟨e,e1,e2⟩|⟨e,⟨u,e1,e2,e3⟩|⟨e1,e2⟩⟩
           ·exact ZTn
           ·exact ZTn
           ·exact ZTn
           ·rw[HH.out u e1]at e2;cases e2
           ·exact ZK e2
          clear ZK;go_wp2_with fail;go_roundg (6-(k+1)+1);case measure=>omega
          case rel=>exact ZTW
         ·have JS:=((Vm.keep ZM).keep hK2).keep hK3;have q5:=((YL.out.keep hK2).keep hK3).2 k hkl';go_wp2_with fail;go_ret;refine⟨_,rfl,(ZA.alloc _).alloc _,((ZM.trans (hK2.trans hK3)).trans (Zb.alloc M _ _)).trans (Zb.alloc M _ _),.inr ⟨_,_,rfl,?_,EK ZA.ZN ZA.Zw {kind:= [99,111,109,112,97,114,101],sign:=Xa[k]} JS hp3,fun l hl=>?_⟩⟩
          ·exact ZVb
          ·exact ZWs
     ·have HN:Hid (¬Qh (st (ws.map tok) p j)):=fun ha=>by
       rcases Uc HL.out ha with⟨e,_⟩|⟨e,e2⟩|⟨e,e1,e2⟩|⟨e,_⟩
       ·exact HIS.out e
       ·exact ZTm
       ·exact Jy.out e1
       ·exact ZVR
      exact ZUJ
  |false=>
   have KF:Hid ((ws.map tok)[p]?≠some T.not_):=Ea h.ok ([110,111,116],T.not_) ZPl ZPl ZcJ;clear ZcJ;go_wp2_with fail;refine(Y8 C M N ws ((p:Nat):Int) _ _ hC U U).mono ?_;rintro e w' ⟨rfl,rfl⟩;cases kin:ZJ ws ((p:Nat):Int) [105,110]with
   |true=>
    have Jy:Hid ((ws.map tok)[p]? =some T.Yt):=(ZZ h.ok ([105,110],T.Yt) ZPl ZPl (p)).1 kin;clear kin;go_wp2_with fail;refine(Q9 C M N ws m hI query (p+1) j _ hC U U hj U U).mono ?_;rintro e w1 ⟨v1,rfl,Zf,hK1,hF1⟩;rcases hF1 with⟨rfl,hno⟩|⟨b,t,rfl,hb,hp,o,a,c,e2,t1,t2,hd⟩
    ·have HN:Hid (¬Qh (st (ws.map tok) p j)):=fun ha=>by
      rcases Uc HL.out ha with⟨e,_⟩|⟨e,e2⟩|⟨e,e1,e2⟩|⟨e,_⟩
      ·exact HIS.out e
      ·exact hno e2
      ·exact KF.out e
      ·exact Z4 Jy.out ZPl e
     exact ZS1
    ·have HE:Hid (sw ws (p+1) j=o::(a++ [c])):=e2;clear e2;have VU:p+1<j:=by
      by_cases hh:p+1<j
      ·exact hh
      ·have:=HE.out;rw[V4 ws U]at this;cases this
     have JS:=Vm.keep hK1;go_wp2_with fail;go_ret;refine⟨_,rfl,(Zf.alloc _).alloc _,(hK1.trans (Zb.alloc M _ _)).trans (Zb.alloc M _ _),.inr ⟨_,_,rfl,?_,EK Zf.ZN Zf.Zw {kind:= [105,110]} JS hp,fun l hl=>?_⟩⟩
     ·exact ZVc
     ·have e2:=HE.out;obtain⟨hl1,t4⟩:=ZQ Jy.out;rw[Z0 ws (i:=p) U hj,e2];exact .VC t4 t1 t2 hl hd
   |false=>
    have Jy:Hid ((ws.map tok)[p]?≠some T.Yt):=Ea h.ok ([105,110],T.Yt) ZPl ZPl kin;clear kin;go_wp2_with fail;have YL:Hid (KO M W.heap.size (W.alloc (.cells #[.string ⟨#[61]⟩,.string ⟨#[60,62]⟩,.string ⟨#[60]⟩,.string ⟨#[60,61]⟩,.string ⟨#[62]⟩,.string ⟨#[62,61]⟩] 9)) Xa):=by
     refine⟨by have:=hC.ZN;omega,fun k hk=>?_⟩;have h3:k<6:=hk;obtain⟨c0,c1,c2,c3,c4,c5⟩:=ZrB (ZWV W (.cells #[.string ⟨#[61]⟩,.string ⟨#[60,62]⟩,.string ⟨#[60]⟩,.string ⟨#[60,61]⟩,.string ⟨#[62]⟩,.string ⟨#[62,61]⟩] 9));rcases k with _|_|_|_|_|_|k
     ·exact c0
     ·exact c1
     ·exact c2
     ·exact c3
     ·exact c4
     ·exact c5
     ·omega
    have hC0:=hC.alloc (.cells #[.string ⟨#[61]⟩,.string ⟨#[60,62]⟩,.string ⟨#[60]⟩,.string ⟨#[60,61]⟩,.string ⟨#[62]⟩,.string ⟨#[62,61]⟩] 9);have ZM:Zb M W _:=Zb.alloc M W (.cells #[.string ⟨#[61]⟩,.string ⟨#[60,62]⟩,.string ⟨#[60]⟩,.string ⟨#[60,61]⟩,.string ⟨#[62]⟩,.string ⟨#[62,61]⟩] 9);generalize hSe:W.heap.size=S at YL ⊢;generalize W.alloc (.cells #[.string ⟨#[61]⟩,.string ⟨#[60,62]⟩,.string ⟨#[60]⟩,.string ⟨#[60,61]⟩,.string ⟨#[62]⟩,.string ⟨#[62,61]⟩] 9)=w0 at YL hC0 ZM ⊢;go_loopg [18] (6+1) (fun gk kv wr=>∃k:Nat,k<=6/\gk=6-k+1/\kv= .int .i64 k/\Cut C M N ws wr/\Zb M w0 wr/\∀k',k'<k->∀(hk:k'<Xa.length),Xt ws (p:Int) Xa[k']=true->¬Qh (st (ws.map tok) p j));case atStart=>exact⟨0,U,U,rfl,hC0,Zb.refl _ _,fun k' h=>U⟩
    case round=>
     obtain⟨k,hk,rfl,rfl,hC2,hK2,hno⟩:=hrel;have Y4:Hid (∀k',k'<k->∀(hk:k'<Xa.length),Xt ws (p:Int) Xa[k']=true->¬Qh (st (ws.map tok) p j)):=hno;clear hno;by_cases hkl:k<6
     ·have hkl':k<Xa.length:=hkl;have q4:=(YL.out.keep hK2).2 k hkl';go_wp2_with fail;refine(KV C M N ws (p:Int) Xa[k] _ hC2 U U).mono ?_;rintro e w' ⟨rfl,rfl⟩;cases hkey:Xt ws (p:Int) Xa[k]with
      |false=>
       go_wp2_with fail;go_roundg (6-(k+1)+1);case measure=>omega
       case rel=>
        refine⟨k+1,U,rfl,ZPp,hC2,hK2,fun k' hk' hk2 e1=>?_⟩;by_cases hkk:k'=k
        ·subst hkk;rw[hkey]at e1;cases e1
        ·exact Y4.out k' U hk2 e1
      |true=>
       obtain⟨hpw,hset,htext⟩:=Zwx h.ok hkl' hkey;have HT:Hid (tok ws[p]=T.cmp):=hset;have Jz:Hid (ws[p].text=Xa[k]):=htext;have Xe:Hid ((ws.map tok)[p]? =some T.cmp):=by show _=_;rw[ZXU,ZW1 hpw];simp[hset]
       clear hset htext hkey;have Zgu:Hid (ZJ ws ((p+1:Nat):Int) [97,110,121]=true\/ZJ ws ((p+1:Nat):Int) [97,108,108]=true->∃hl:p+1<ws.length,XI (tok ws[p+1])=true):=fun hh=>by
        rcases hh with hh|hh
        ·exact ZVP
        ·exact ZVO
       go_wp2_with fail;refine(Y8 C M N ws ((p+1:Nat):Int) _ _ hC2 U U).mono ?_;rintro e w' ⟨rfl,rfl⟩;cases Zid:ZJ ws ((p+1:Nat):Int) [97,110,121]with
       |true=>
        have HH0:=Zgu.out (.inl Zid);go_wp2_with fail;refine(Y8 C M N ws ((p+1:Nat):Int) _ _ hC2 U U).mono ?_;rintro e w' ⟨rfl,rfl⟩;cases ZeG:ZJ ws ((p+1:Nat):Int) [97,108,108]with
        |true=>
         obtain⟨hl1,VT⟩:=HH0;have HH:Hid (XI (tok ws[p+1])=true):=VT;clear VT;go_wp2_with fail;refine(Q9 C M N ws m hI query (p+2) j _ hC2 U U hj U U).mono ?_;rintro e w1 ⟨v1,rfl,Zf,hK1,hF1⟩;rcases hF1 with⟨rfl,hno⟩|⟨b,t,rfl,hb,hp,o,a,c,e2,t1,t2,hd⟩
         ·have HN:Hid (¬Qh (st (ws.map tok) p j)):=fun ha=>by
           rcases Uc HL.out ha with⟨e,_⟩|⟨e,e2⟩|⟨e,e1,e2⟩|⟨e,⟨u,e1,e2,e3⟩|⟨e1,e2⟩⟩
           ·exact ZTn
           ·exact ZTn
           ·exact ZTn
           ·exact hno e3
           ·have:=e1 (tok ws[p+1]) ZQp;rw[HH.out]at this;cases this
          exact ZS0
         ·have HE:Hid (sw ws (p+2) j=o::(a++ [c])):=e2;clear e2;have VU:p+2<j:=by
           by_cases hh:p+2<j
           ·exact hh
           ·have:=HE.out;rw[V4 ws U]at this;cases this
          have JS:=((Vm.keep ZM).keep hK2).keep hK1;have q5:=((YL.out.keep hK2).keep hK1).2 k hkl';obtain⟨wa,cap,QA,c0,c1,c2,c3,cw⟩:=Zf.cells;obtain⟨g,rfl,hg,q1,q2,q3⟩:=cw (p+1) hl1;clear cw;have ZhJ:S<w1.heap.size:=ZWW _ _ q5;have ZhP:g<w1.heap.size:=ZWW _ _ q2;have Zhq:C<w1.heap.size:=ZWW _ _ c0;go_wp2_with fail;go_region;go_wp2_with fail;go_ret;refine⟨_,rfl,((Zf.alloc _).alloc _).drew 1,(((ZM.trans (hK2.trans hK1)).trans (Zb.alloc M _ _)).trans (Zb.alloc M _ _)).trans (Zb.drew M _ 1),.inr ⟨_,_,rfl,?_,(EK Zf.ZN Zf.Zw {kind:=ws[p+1].text,sign:=Xa[k]} JS hp).keep (Zb.drew M _ 1),fun l hl=>?_⟩⟩
          ·exact ZVc
          ·exact ZU2
        |false=>
         obtain⟨hl1,VT⟩:=HH0;have HH:Hid (XI (tok ws[p+1])=true):=VT;clear VT;go_wp2_with fail;refine(Q9 C M N ws m hI query (p+2) j _ hC2 U U hj U U).mono ?_;rintro e w1 ⟨v1,rfl,Zf,hK1,hF1⟩;rcases hF1 with⟨rfl,hno⟩|⟨b,t,rfl,hb,hp,o,a,c,e2,t1,t2,hd⟩
         ·have HN:Hid (¬Qh (st (ws.map tok) p j)):=fun ha=>by
           rcases Uc HL.out ha with⟨e,_⟩|⟨e,e2⟩|⟨e,e1,e2⟩|⟨e,⟨u,e1,e2,e3⟩|⟨e1,e2⟩⟩
           ·exact ZTn
           ·exact ZTn
           ·exact ZTn
           ·exact hno e3
           ·have:=e1 (tok ws[p+1]) ZQp;rw[HH.out]at this;cases this
          exact ZS0
         ·have HE:Hid (sw ws (p+2) j=o::(a++ [c])):=e2;clear e2;have VU:p+2<j:=by
           by_cases hh:p+2<j
           ·exact hh
           ·have:=HE.out;rw[V4 ws U]at this;cases this
          have JS:=((Vm.keep ZM).keep hK2).keep hK1;have q5:=((YL.out.keep hK2).keep hK1).2 k hkl';obtain⟨wa,cap,QA,c0,c1,c2,c3,cw⟩:=Zf.cells;obtain⟨g,rfl,hg,q1,q2,q3⟩:=cw (p+1) hl1;clear cw;have ZhJ:S<w1.heap.size:=ZWW _ _ q5;have ZhP:g<w1.heap.size:=ZWW _ _ q2;have Zhq:C<w1.heap.size:=ZWW _ _ c0;go_wp2_with fail;go_region;go_wp2_with fail;go_ret;refine⟨_,rfl,((Zf.alloc _).alloc _).drew 1,(((ZM.trans (hK2.trans hK1)).trans (Zb.alloc M _ _)).trans (Zb.alloc M _ _)).trans (Zb.drew M _ 1),.inr ⟨_,_,rfl,?_,(EK Zf.ZN Zf.Zw {kind:=ws[p+1].text,sign:=Xa[k]} JS hp).keep (Zb.drew M _ 1),fun l hl=>?_⟩⟩
          ·exact ZVc
          ·exact ZU2
       |false=>
        go_wp2_with fail;refine(Y8 C M N ws ((p+1:Nat):Int) _ _ hC2 U U).mono ?_;rintro e w' ⟨rfl,rfl⟩;cases ZeG:ZJ ws ((p+1:Nat):Int) [97,108,108]with
        |true=>
         have HH0:=Zgu.out (.inr ZeG);obtain⟨hl1,VT⟩:=HH0;have HH:Hid (XI (tok ws[p+1])=true):=VT;clear VT;go_wp2_with fail;refine(Q9 C M N ws m hI query (p+2) j _ hC2 U U hj U U).mono ?_;rintro e w1 ⟨v1,rfl,Zf,hK1,hF1⟩;rcases hF1 with⟨rfl,hno⟩|⟨b,t,rfl,hb,hp,o,a,c,e2,t1,t2,hd⟩
         ·have HN:Hid (¬Qh (st (ws.map tok) p j)):=fun ha=>by
           rcases Uc HL.out ha with⟨e,_⟩|⟨e,e2⟩|⟨e,e1,e2⟩|⟨e,⟨u,e1,e2,e3⟩|⟨e1,e2⟩⟩
           ·exact ZTn
           ·exact ZTn
           ·exact ZTn
           ·exact hno e3
           ·have:=e1 (tok ws[p+1]) ZQp;rw[HH.out]at this;cases this
          exact ZS0
         ·have HE:Hid (sw ws (p+2) j=o::(a++ [c])):=e2;clear e2;have VU:p+2<j:=by
           by_cases hh:p+2<j
           ·exact hh
           ·have:=HE.out;rw[V4 ws U]at this;cases this
          have JS:=((Vm.keep ZM).keep hK2).keep hK1;have q5:=((YL.out.keep hK2).keep hK1).2 k hkl';obtain⟨wa,cap,QA,c0,c1,c2,c3,cw⟩:=Zf.cells;obtain⟨g,rfl,hg,q1,q2,q3⟩:=cw (p+1) hl1;clear cw;have ZhJ:S<w1.heap.size:=ZWW _ _ q5;have ZhP:g<w1.heap.size:=ZWW _ _ q2;have Zhq:C<w1.heap.size:=ZWW _ _ c0;go_wp2_with fail;go_region;go_wp2_with fail;go_ret;refine⟨_,rfl,((Zf.alloc _).alloc _).drew 1,(((ZM.trans (hK2.trans hK1)).trans (Zb.alloc M _ _)).trans (Zb.alloc M _ _)).trans (Zb.drew M _ 1),.inr ⟨_,_,rfl,?_,(EK Zf.ZN Zf.Zw {kind:=ws[p+1].text,sign:=Xa[k]} JS hp).keep (Zb.drew M _ 1),fun l hl=>?_⟩⟩
          ·exact ZVc
          ·exact ZU2
        |false=>
         have HH:Hid (∀u,(ws.map tok)[p+1]? =some u->XI u=false):=fun u hu=>by
          cases hh:XI u with
          |false=>rfl
          |true=>
           have:u=T.Zay\/u=T.Xl:=by revert hh;cases u<;>simp[XI]
           rcases this with rfl|rfl
           ·exact ZTq
           ·exact ZTp
         go_wp2_with fail;refine(hI expr (p+1) j _ hC2 U U U ZPr).mono ?_;rintro e w3 ⟨v3,rfl,ZA,hK3,ZH⟩;rw[Int.toNat_natCast]at ZH;rcases ZH with⟨rfl,ZK⟩|⟨b3,t3,rfl,hb3,hp3,hd3⟩
         ·have HN:Hid (¬Qh (st (ws.map tok) p j)):=fun ha=>by
           rcases Uc HL.out ha with⟨e,_⟩|⟨e,e2⟩|⟨e,e1,e2⟩|⟨e,⟨u,e1,e2,e3⟩|⟨e1,e2⟩⟩
           ·exact ZTn
           ·exact ZTn
           ·exact ZTn
           ·rw[HH.out u e1]at e2;cases e2
           ·exact ZK e2
          clear ZK;go_wp2_with fail;go_roundg (6-(k+1)+1);case measure=>omega
          case rel=>exact ZTW
         ·have JS:=((Vm.keep ZM).keep hK2).keep hK3;have q5:=((YL.out.keep hK2).keep hK3).2 k hkl';go_wp2_with fail;go_ret;refine⟨_,rfl,(ZA.alloc _).alloc _,((ZM.trans (hK2.trans hK3)).trans (Zb.alloc M _ _)).trans (Zb.alloc M _ _),.inr ⟨_,_,rfl,?_,EK ZA.ZN ZA.Zw {kind:= [99,111,109,112,97,114,101],sign:=Xa[k]} JS hp3,fun l hl=>?_⟩⟩
          ·exact ZVb
          ·exact ZWs
     ·have HN:Hid (¬Qh (st (ws.map tok) p j)):=fun ha=>by
       rcases Uc HL.out ha with⟨e,_⟩|⟨e,e2⟩|⟨e,e1,e2⟩|⟨e,_⟩
       ·exact HIS.out e
       ·exact Jy.out e
       ·exact KF.out e
       ·exact ZVR
      exact ZUJ
end Go.Proofs.YthmlacabmlghbaaGreatDoor
