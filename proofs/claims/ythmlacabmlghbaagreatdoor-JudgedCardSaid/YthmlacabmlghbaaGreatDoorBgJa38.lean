import Derived.Test.YthmlacabmlghbaaGreatDoorBgJa37
set_option maxRecDepth 100000
set_option maxHeartbeats 8000000
set_option linter.unusedSimpArgs false
set_option linter.unusedVariables false
namespace Go.Proofs.YthmlacabmlghbaaGreatDoor
open Go.Proofs.Tryz
theorem ZSo{p:Prop}(h:p:=by simp[results,Tryz.results187,go_sem,c0,c1,Zv]):p:=h
theorem ZSZ{p:Prop}(h:p:=by clear hn;go_wp2;exact⟨rfl,.inr ⟨HA.out,b,rfl,h1,h2,(Zb.alloc Pb _ _).trans h3⟩⟩):p:=h
theorem ZSp{p:Prop}(h:p:=by simp[results,Tryz.results230,go_sem,c0,Zv]):p:=h
theorem ZSL{p:Prop}(h:p:=by clear hA Zt;go_wp2;exact⟨rfl,.inr ⟨HA.out,b,rfl,h1,h2,(Zb.alloc Pb _ _).trans (hK1.trans h3)⟩⟩):p:=h
theorem ZUu{p:Prop}(h:p:=by go_wp2;exact⟨rfl,.inr ⟨HA.out,b,rfl,h1,h2,h3⟩⟩):p:=h
theorem ZSK{p:Prop}(h:p:=by clear hA Zt hQ e3;go_wp2_with fail;go_ret;exact .inl ⟨k',_,U,HA.out,rfl,HQ.out,Xy,hK4.trans Yg⟩):p:=h
theorem ZSO{p:Prop}(h:p:=by clear hA Zt;go_wp2;exact⟨rfl,.inr ⟨HA.out,b,rfl,h1,h2,hK4.trans h3⟩⟩):p:=h
theorem ZUt{p:Prop}(h:p:=by go_wp2;exact⟨rfl,.inr ⟨HA.out,b,rfl,h1,h2,Yg.trans h3⟩⟩):p:=h
theorem ZSS{p:Prop}(h:p:=by clear hA3 HA1;go_wp2;exact⟨rfl,.inr ⟨HA.out,b,rfl,h1,h2,hK.trans (hK2.trans h3)⟩⟩):p:=h
theorem ZU0{p:Prop}(h:p:=by have HL:Hid (Lay Pb W.heap.size w2 u5 l):=ZkI (ZfR hown hK2 ZC) hne ZC;clear hi HA1;go_wp2_with fail;go_ret;exact .inl ⟨k1,_,hle,HA.out,rfl,⟨l,t,hne,HL.out,hR,HD.out⟩,hP2,hK.trans hK2⟩):p:=h
open Go.RowKit
section
open T NT PK
theorem ZkP(Pb:Nat)(ws:List RW)(k:Nat)(W:World)(hP:PS Pb ws k W):
  Calls prog 231 #[.pointer (some ⟨Pb,0,none⟩)] W fun e w'=>(∃s,hd ws k=some name/\(∀h:k<ws.length,(ws[k]).text=s)/\e= .returned (.string ⟨s.toArray⟩)/\PS Pb ws (k+1) w'/\Zb Pb W w')\/(hd ws k≠some name/\QM Pb W e w'):=by
 refine(ZIV Pb ws k W hP).mono ?_;rintro e w1 (⟨hf,hk,rfl,hP1,hK⟩|⟨hf,hb⟩)
 ·have h:=(ZuU hP.ok k).1 hf;exact .inl ⟨Qq ws k,h,fun _=>(Zpz hk hP.ok (by rw[h];simp)).symm,rfl,hP1,hK⟩
 ·exact .inr ⟨fun h=>hf ((ZuU hP.ok k).2 h),hb⟩
theorem UE{Pb:Nat}{W w:World}{a b:Value}{ty:TypeId}(ZC:Pb<W.heap.size)(hK:Zb Pb (W.alloc (.cells #[a,b] ty)) w):w.cell? ⟨W.heap.size,0,none⟩=some a/\w.cell? ⟨W.heap.size,1,none⟩=some b/\w.frozen? ⟨W.heap.size,0,none⟩=false/\w.frozen? ⟨W.heap.size,1,none⟩=false/\W.heap.size<w.heap.size:=by
 have hb:=hK.obj (g:=W.heap.size) U (ZWV W (.cells #[a,b] ty));exact⟨ZRG,ZRG,ZRH,ZRH,(ZWU.1 hb).1⟩
theorem ZaV{Pb:Nat}{W w:World}{a:Value}{ty:TypeId}(ZC:Pb<W.heap.size)(hK:Zb Pb (W.alloc (.cells #[a] ty)) w):w.cell? ⟨W.heap.size,0,none⟩=some a/\w.frozen? ⟨W.heap.size,0,none⟩=false/\W.heap.size<w.heap.size:=by
 have hb:=hK.obj (g:=W.heap.size) U (ZWV W (.cells #[a] ty));exact⟨ZRG,ZRH,(ZWU.1 hb).1⟩
theorem PS.UE{Pb:Nat}{ws:List RW}{k:Nat}{W w:World}(h:PS Pb ws k w)(hK:Zb Pb W w){b:Nat}(hb:W.heap.size<=b)(ZC:Pb<W.heap.size){v0:Value}(hc:w.cell? ⟨b,0,none⟩=some v0)(hv:∀n,v0≠.int .i64 n){v1:Value}(hv1:∀n,v1≠.int .i64 n)(v2:Value):PS Pb ws k ((w.setCell ⟨b,0,none⟩ v1).setCell ⟨b,1,none⟩ v2)/\Zb Pb W ((w.setCell ⟨b,0,none⟩ v1).setCell ⟨b,1,none⟩ v2):=by
 obtain⟨h1,h2⟩:=h.own hK hb ZC hc hv 0 v1;have hc':(w.setCell ⟨b,0,none⟩ v1).cell? ⟨b,0,none⟩=some v1:=World.cell?_setCell_same w ⟨b,0,none⟩ v1 hc;exact h1.own h2 hb ZC hc' hv1 1 v2
def ZiN(ws:List RW)(k k':Nat)(x:Value)(w':World):Prop:=∃o s,x= .agg #[Zv o,Zv s]/\D column (sl ws k k') (nd {kind:= [99,111,108,117,109,110],Zd:=o,text:=s} .nil)
def ZpR(ws:List RW)(k k':Nat)(x:Value)(w':World):Prop:=∃s,x= .agg #[Zv s]/\(s= []/\k'=k\/∃(h1:k<ws.length) (h2:k+1<ws.length),tok ws[k]=T.Zx/\tok ws[k+1]=name/\k'=k+2/\s=(ws[k+1]).text)
theorem ZBq{ws:List RW}{k:Nat}(h:hd ws k≠some dot):ZmC (Zc ws k)=some (Zc ws k):=by
 cases e:Zc ws k with
 |nil=>rfl
 |cons u r=>
  have h2:u≠dot:=fun hu=>h ZPR;cases u<;>first|rfl|exact absurd rfl h2
theorem Zza{ws:List RW}{k:Nat}(h:hd ws k≠some T.Zx):ans PK.alias (Zc ws k)=some (Zc ws k):=by
 rw[ZqP];cases e:Zc ws k with
 |nil=>rfl
 |cons u r=>
  have h2:u≠T.Zx:=fun hu=>h ZPR;cases u<;>first|rfl|exact absurd rfl h2
theorem Zvy(Pb:Nat)(ws:List RW)(k:Nat)(W:World)(hP:PS Pb ws k W):
  Calls prog 187 #[.pointer (some ⟨Pb,0,none⟩)] W (YR Pb ws k (ans (P column) (Zc ws k)) (ZiN ws k) W):=by
 have ZC:=hP.lt;go_enter func187,ntmps187;go_wp2_with fail;refine(ZkP Pb ws k _ (hP.keep (ZO _))).mono ?_;rintro e w1 (⟨s,hn,hs,rfl,hP1,hK1⟩|⟨hn,b,rfl,h1,h2,h3⟩)
 ·have Hn:Hid (hd ws k=some name/\(∀h:k<ws.length,(ws[k]).text=s)):=⟨hn,hs⟩;have Zt:Hid (ans (P column) (Zc ws k)=ZmC (Zc ws (k+1))):=by show _=_;rw[ZqU,Um hn,Option.bind_some]
  clear hn hs;go_wp2_with fail;refine(Ee Pb ws (k+1) [46] dot _ hP1 ZPl).mono ?_;rintro e w2 ⟨hK2,⟨hi,rfl,hP2⟩|⟨hi,rfl,hP2⟩⟩
  ·have Hi:Hid (hd ws (k+1)=some dot):=hi;have HA1:Hid (ans (P column) (Zc ws k)=Zz name (Zc ws (k+2))):=by show _=_;rw[Zt.out,XW hi];rfl
   clear hi Zt;go_wp2_with fail;refine(ZkP Pb ws (k+2) _ hP2).mono ?_;rintro e w3 (⟨s3,ZK,hs3,rfl,hP3,hK3⟩|⟨ZK,b,rfl,h1,h2,h3⟩)
   ·have HA:Hid (ans (P column) (Zc ws k)=some (Zc ws (k+3))):=by show _=_;rw[HA1.out,Um ZK]
    have HQ:Hid (ZiN ws k (k+3) (.agg #[Zv s,Zv s3]) w3):=by
     have l1:=Yu Hn.out.1;have l2:=Yu Hi.out;have l3:=Yu ZK;refine⟨s,s3,rfl,?_⟩;rw[Yj l1 U,Yj l2 U,Zak l3,<-hs3 l3,<-Hn.out.2 l1];exact .Uh (Yc Hn.out.1 l1) (Yc Hi.out l2) (Yc ZK l3)
    clear ZK hs3 HA1;have VR:=(hK1.trans hK2).trans hK3;obtain⟨c0,c1,f0,f1,hsz⟩:=UE ZC VR;go_wp2_with fail;obtain⟨YP,hK4⟩:=hP3.UE ((Zb.alloc Pb _ _).trans VR) (ZWS _) ZC c0 ZP1 (v1:=Zv s) ZRI (Zv s3);refine ZW4 (v:=.agg #[Zv s,Zv s3]) ZSo rfl (.inl ⟨k+3,_,U,HA.out,rfl,HQ.out,YP,hK4⟩)
   ·have HA:Hid (ans (P column) (Zc ws k)=none):=by show _=_;rw[HA1.out,KW ZK]
    clear ZK HA1;go_wp2;exact⟨rfl,.inr ⟨HA.out,b,rfl,h1,h2,(Zb.alloc Pb _ _).trans ((hK1.trans hK2).trans h3)⟩⟩
  ·have HA:Hid (ans (P column) (Zc ws k)=some (Zc ws (k+1))):=by show _=_;rw[Zt.out,ZBq hi]
   have HQ:Hid (ZiN ws k (k+1) (.agg #[Zv [],Zv s]) w2):=by
    have l1:=Yu Hn.out.1;refine⟨[],s,rfl,?_⟩;rw[Zak l1,<-Hn.out.2 l1];exact .JF (Yc Hn.out.1 l1)
   clear hi Zt;have VR:=hK1.trans hK2;obtain⟨c0,c1,f0,f1,hsz⟩:=UE ZC VR;go_wp2_with fail;obtain⟨YP,hK4⟩:=hP2.UE ((Zb.alloc Pb _ _).trans VR) (ZWS _) ZC c0 ZP1 (v1:=Zv []) ZRI (Zv s);refine ZW4 (v:=.agg #[Zv [],Zv s]) ZSo rfl (.inl ⟨k+1,_,U,HA.out,rfl,HQ.out,YP,hK4⟩)
 ·have HA:Hid (ans (P column) (Zc ws k)=none):=by show _=_;rw[ZqU,KW hn];rfl
  exact ZSZ
theorem Zvw(Pb:Nat)(ws:List RW)(k:Nat)(W:World)(hP:PS Pb ws k W):
  Calls prog 230 #[.pointer (some ⟨Pb,0,none⟩)] W (YR Pb ws k (ans PK.alias (Zc ws k)) (ZpR ws k) W):=by
 have ZC:=hP.lt;go_enter func230,ntmps230;go_wp2_with fail;refine(Ee Pb ws k [97,115] T.Zx _ (hP.keep (ZO _)) ZPl).mono ?_;rintro e w1 ⟨hK1,⟨hi,rfl,hP1⟩|⟨hi,rfl,hP1⟩⟩
 ·have Hi:Hid (hd ws k=some T.Zx):=hi;have Zt:Hid (ans PK.alias (Zc ws k)=Zz name (Zc ws (k+1))):=by show _=_;rw[ZqP,XW hi]
  clear hi;go_wp2_with fail;refine(ZkP Pb ws (k+1) _ hP1).mono ?_;rintro e w3 (⟨s,hn,hs,rfl,hP3,hK3⟩|⟨hn,b,rfl,h1,h2,h3⟩)
  ·have HA:Hid (ans PK.alias (Zc ws k)=some (Zc ws (k+2))):=by show _=_;rw[Zt.out,Um hn]
   have HQ:Hid (ZpR ws k (k+2) (.agg #[Zv s]) w3):=by
    have l1:=Yu Hi.out;have l2:=Yu hn;exact⟨s,rfl,.inr ⟨l1,l2,Yc Hi.out l1,Yc hn l2,rfl,(hs l2).symm⟩⟩
   clear hn hs Zt;have VR:=hK1.trans hK3;obtain⟨c0,f0,hsz⟩:=ZaV ZC VR;go_wp2_with fail;obtain⟨YP,hK4⟩:=hP3.own ((Zb.alloc Pb _ _).trans VR) (ZWS _) ZC c0 ZP1 0 (Zv s);refine ZW4 (v:=.agg #[Zv s]) ZSp rfl (.inl ⟨k+2,_,U,HA.out,rfl,HQ.out,YP,hK4⟩)
  ·have HA:Hid (ans PK.alias (Zc ws k)=none):=by show _=_;rw[Zt.out,KW hn]
   clear hn Zt;go_wp2;exact⟨rfl,.inr ⟨HA.out,b,rfl,h1,h2,(Zb.alloc Pb _ _).trans (hK1.trans h3)⟩⟩
 ·have HA:Hid (ans PK.alias (Zc ws k)=some (Zc ws k)):=Zza hi;clear hi;obtain⟨c0,f0,hsz⟩:=ZaV ZC hK1;go_wp2_with fail;obtain⟨YP,hK4⟩:=hP1.own ((Zb.alloc Pb _ _).trans hK1) (ZWS _) ZC c0 ZP1 0 (Zv []);refine ZW4 (v:=.agg #[Zv []]) ZSp rfl (.inl ⟨k,_,ZWS _,HA.out,rfl,⟨[],rfl,.inl ⟨rfl,rfl⟩⟩,YP,hK4⟩)
def Zl1(ws:List RW)(k k':Nat)(x:Value)(w':World):Prop:=∃n y s t,x= .agg #[.iface n y,Zv s]/\D NT.item (sl ws k k') (nd {kind:= [105,116,101,109],Zx:=s} (l1 t))/\Zdd (.iface n y) t
def Zl8(ws:List RW)(k k':Nat)(x:Value)(w':World):Prop:=∃n s,x= .agg #[Zv n,Zv s]/\D source (sl ws k k') (nd {kind:= [115,111,117,114,99,101],text:=n,Zx:=s} .nil)
theorem ZIR(Pb:Nat)(ws:List RW)(k:Nat)(W:World)(hP:PS Pb ws k W)(he:QW Pb ws 229 expr k):
  Calls prog 182 #[.pointer (some ⟨Pb,0,none⟩)] W (YR Pb ws k (ans (P NT.item) (Zc ws k)) (Zl1 ws k) W):=by
 have ZC:=hP.lt;go_enter func182,ntmps182;go_wp2_with fail;refine(he k _ (ZWS _) (hP.keep (ZO _))).mono ?_;rintro e w1 (⟨k1,x,hle,hA,rfl,⟨t,hD,hR⟩,hP1,hK1⟩|⟨hA,b,rfl,h1,h2,h3⟩)
 ·obtain⟨n,y,rfl⟩:=(hR 0 0 W).iface;have Zt:Hid (ans (P NT.item) (Zc ws k)=ans PK.alias (Zc ws k1)):=by show _=_;rw[ZqZ,hA,Option.bind_some]
  clear hA;go_wp2_with fail;refine(Zvw Pb ws k1 _ hP1).mono ?_;rintro e w2 (⟨k',x,hle2,hA,rfl,⟨s,rfl,hQ⟩,hP2,hK2⟩|⟨hA,b,rfl,h1,h2,h3⟩)
  ·have HA:Hid (ans (P NT.item) (Zc ws k)=some (Zc ws k')):=Zt.out.trans hA;have HQ:Hid (Zl1 ws k k' (.agg #[.iface n y,Zv s]) w2):=by
    refine⟨n,y,s,t,rfl,?_,hR⟩;rcases hQ with⟨rfl,rfl⟩|⟨l1,l2,t1,t2,rfl,rfl⟩
    ·exact .item hD
    ·rw[QR ws hle U,Yj l1 U,Zak l2];exact .Kh t1 t2 hD
   clear hA hQ Zt;have VR:=hK1.trans hK2;obtain⟨c0,c1,f0,f1,hsz⟩:=UE ZC VR;unfold Zv;go_wp2_with fail;obtain⟨YP,hK4⟩:=hP2.UE ((Zb.alloc Pb _ _).trans VR) (ZWS _) ZC c0 ZP1 (v1:=.iface n y) ZP1 (Zv s);refine ZW4 (v:=.agg #[.iface n y,Zv s]) (by simp[results,Tryz.results182,go_sem,c0,c1,Zv]) rfl (.inl ⟨k',_,U,HA.out,rfl,HQ.out,YP,hK4⟩)
  ·have HA:Hid (ans (P NT.item) (Zc ws k)=none):=Zt.out.trans hA;exact ZSL
 ·have HA:Hid (ans (P NT.item) (Zc ws k)=none):=by show _=_;rw[ZqZ,hA];rfl
  exact ZST
theorem ZI6(Pb:Nat)(ws:List RW)(k:Nat)(W:World)(hP:PS Pb ws k W):
  Calls prog 184 #[.pointer (some ⟨Pb,0,none⟩)] W (YR Pb ws k (ans (P source) (Zc ws k)) (Zl8 ws k) W):=by
 have ZC:=hP.lt;go_enter func184,ntmps184;go_wp2_with fail;refine(ZkP Pb ws k _ (hP.keep (ZO _))).mono ?_;rintro e w1 (⟨n,hn,hs,rfl,hP1,hK1⟩|⟨hn,b,rfl,h1,h2,h3⟩)
 ·have Hn:Hid (hd ws k=some name/\(∀h:k<ws.length,(ws[k]).text=n)):=⟨hn,hs⟩;have Zt:Hid (ans (P source) (Zc ws k)=ans PK.alias (Zc ws (k+1))):=by show _=_;rw[Zq2,Um hn,Option.bind_some]
  clear hn hs;go_wp2_with fail;refine(Zvw Pb ws (k+1) _ hP1).mono ?_;rintro e w2 (⟨k',x,hle2,hA,rfl,⟨s,rfl,hQ⟩,hP2,hK2⟩|⟨hA,b,rfl,h1,h2,h3⟩)
  ·have HA:Hid (ans (P source) (Zc ws k)=some (Zc ws k')):=Zt.out.trans hA;have HQ:Hid (Zl8 ws k k' (.agg #[Zv n,Zv s]) w2):=by
    have l0:=Yu Hn.out.1;refine⟨n,s,rfl,?_⟩;rw[<-Hn.out.2 l0];rcases hQ with⟨rfl,rfl⟩|⟨l1,l2,t1,t2,rfl,rfl⟩
    ·rw[Zak l0];exact .src (Yc Hn.out.1 l0)
    ·rw[Yj l0 U,Yj l1 U,Zak l2];exact .Ej (Yc Hn.out.1 l0) t1 t2
   clear hA hQ Zt;have VR:=hK1.trans hK2;obtain⟨c0,c1,f0,f1,hsz⟩:=UE ZC VR;unfold Zv;go_wp2_with fail;obtain⟨YP,hK4⟩:=hP2.UE ((Zb.alloc Pb _ _).trans VR) (ZWS _) ZC c0 ZP1 (v1:=Zv n) ZRI (Zv s);refine ZW4 (v:=.agg #[Zv n,Zv s]) (by simp[results,Tryz.results184,go_sem,c0,c1,Zv]) rfl (.inl ⟨k',_,U,HA.out,rfl,HQ.out,YP,hK4⟩)
  ·have HA:Hid (ans (P source) (Zc ws k)=none):=Zt.out.trans hA;exact ZSL
 ·have HA:Hid (ans (P source) (Zc ws k)=none):=by show _=_;rw[Zq2,KW hn];rfl
  exact ZSZ
end
section
open T NT PK
def KP(s:Za)(l:List T):Option (List T):=if s= [99,111,117,110,116]then ZjB l else ans (P expr) l
def ZiM(ws:List RW)(s:Za)(k k':Nat)(x:Value)(w':World):Prop:=(x= .nilIface/\s= [99,111,117,110,116]/\hd ws k=some T.star/\k'=k+1)\/Vy ws expr k k' x w'
theorem ZBD{ws:List RW}{k:Nat}(h:hd ws k≠some T.star):ZjB (Zc ws k)=ans (P expr) (Zc ws k):=by
 cases e:Zc ws k with
 |nil=>rfl
 |cons u r=>
  have h2:u≠T.star:=fun hu=>h ZPR;cases u<;>first|rfl|exact absurd rfl h2
structure Ze0 (Pb bn bp:Nat) (s:Za) (W:World):Prop where
 n1:bn≠Pb
 n2:bp≠Pb
 c1:W.cell? ⟨bn,0,none⟩=some (.string ⟨s.toArray⟩)
 c2:W.cell? ⟨bp,0,none⟩=some (.pointer (some ⟨Pb,0,none⟩))
theorem Ze0.keep{Pb bn bp:Nat}{s:Za}{W W':World}(h:Ze0 Pb bn bp s W)(hK:Zb Pb W W'):Ze0 Pb bn bp s W':=
 ⟨h.n1,h.n2,hK.cell h.n1 h.c1,hK.cell h.n2 h.c2⟩
theorem ZIB(Pb:Nat)(ws:List RW)(k bn bp:Nat)(s:Za)(W:World)(hP:PS Pb ws k W)(hA:Ze0 Pb bn bp s W)(he:QW Pb ws 229 expr k):
  Calls prog 306 #[.pointer (some ⟨bn,0,none⟩),.pointer (some ⟨bp,0,none⟩)] W (YR Pb ws k (KP s (Zc ws k)) (ZiM ws s k) W):=by
 have c1:=hA.c1;have c2:=hA.c2;by_cases hs:s= [99,111,117,110,116]
 ·subst hs;go_enter func306,ntmps306;go_wp2_with fail;refine(Ee Pb ws k [42] T.star _ hP ZPl).mono ?_;rintro e w1 ⟨hK1,⟨hi,rfl,hP1⟩|⟨hi,rfl,hP1⟩⟩
  ·have Hi:Hid (hd ws k=some T.star):=hi;have HA:Hid (KP [99,111,117,110,116] (Zc ws k)=some (Zc ws (k+1))):=by show _=_;unfold KP;rw[ZWR rfl,XW hi];rfl
   clear hi;go_wp2_with fail;go_ret;exact .inl ⟨k+1,_,U,HA.out,rfl,.inl ⟨rfl,rfl,Hi.out,rfl⟩,hP1,hK1⟩
  ·have Zt:Hid (KP [99,111,117,110,116] (Zc ws k)=ans (P expr) (Zc ws k)):=by show _=_;unfold KP;rw[ZWR rfl,ZBD hi]
   have c2':=hK1.cell hA.n2 c2;clear hi;go_wp2_with fail;refine(he k _ (ZWS _) hP1).mono ?_;rintro e w2 (⟨k',x,hle,hA,rfl,⟨t,hD,hR⟩,hP2,hK2⟩|⟨hA,b,rfl,h1,h2,h3⟩)
   ·obtain⟨n,y,rfl⟩:=(hR 0 0 W).iface;have HA:Hid (KP [99,111,117,110,116] (Zc ws k)=some (Zc ws k')):=Zt.out.trans hA;clear hA Zt;go_wp2_with fail;go_ret;exact .inl ⟨k',_,hle,HA.out,rfl,.inr ⟨t,hD,hR⟩,hP2,hK1.trans hK2⟩
   ·have HA:Hid (KP [99,111,117,110,116] (Zc ws k)=none):=Zt.out.trans hA;exact ZSM
 ·have hs':(s== [99,111,117,110,116])=false:=by simpa using hs
  have Zt:Hid (KP s (Zc ws k)=ans (P expr) (Zc ws k)):=by show _=_;unfold KP;rw[ZWQ hs]
  clear hs;go_enter func306,ntmps306;go_wp2_with fail;refine(he k _ (ZWS _) hP).mono ?_;rintro e w2 (⟨k',x,hle,hA,rfl,⟨t,hD,hR⟩,hP2,hK2⟩|⟨hA,b,rfl,h1,h2,h3⟩)
  ·obtain⟨n,y,rfl⟩:=(hR 0 0 W).iface;have HA:Hid (KP s (Zc ws k)=some (Zc ws k')):=Zt.out.trans hA;clear hA Zt;go_wp2_with fail;go_ret;exact .inl ⟨k',_,hle,HA.out,rfl,.inr ⟨t,hD,hR⟩,hP2,hK2⟩
  ·have HA:Hid (KP s (Zc ws k)=none):=Zt.out.trans hA;clear hA Zt;exact ZUu
def Et(s:Za)(l:List T):Option (List T):=(Zz lp l).bind fun r=>(KP s r).bind (Zz rp)
def Zxv(ws:List RW)(s:Za)(k k':Nat)(x:Value)(w':World):Prop:=∃m,hd ws k=some lp/\hd ws m=some rp/\k+1<=m/\k'=m+1/\ZiM ws s (k+1) m x w'
theorem ZiM.is{ws:List RW}{s:Za}{k k':Nat}{x:Value}{w':World}(h:ZiM ws s k k' x w'):x= .nilIface\/∃n y,x= .iface n y:=by
 rcases h with⟨rfl,_⟩|⟨t,_,hR⟩
 ·exact ZS5
 ·exact .inr (hR 0 0 w').iface
theorem ZI1(Pb:Nat)(ws:List RW)(k bn bp:Nat)(s:Za)(W:World)(hP:PS Pb ws k W)(hG:Ze0 Pb bn bp s W)(he:QW Pb ws 229 expr (k+1)):
  Calls prog 298 #[.pointer (some ⟨Pb,0,none⟩),.func (.func 306) #[] #[.pointer (some ⟨bn,0,none⟩),.pointer (some ⟨bp,0,none⟩)]] W (YR Pb ws k (Et s (Zc ws k)) (Zxv ws s k) W):=by
 have hok:=hP.ok;go_enter func298,ntmps298;go_wp2_with fail;refine(ZcS Pb ws k [40] lp _ hP ZPl).mono ?_;rintro e w1 (⟨hf,rfl,hP1,hK1⟩|⟨hf,b,rfl,h1,h2,h3⟩)
 ·have Hf:Hid (hd ws k=some lp):=hf;have Zt:Hid (Et s (Zc ws k)=(KP s (Zc ws (k+1))).bind (Zz rp)):=by show _=_;unfold Et;rw[Um hf,Option.bind_some]
  clear hf;go_wp2_with fail;refine(ZIB Pb ws (k+1) bn bp s w1 hP1 (hG.keep hK1) he).mono ?_;rintro e w2 (⟨k',x,hle,hA,rfl,hQ,hP2,hK2⟩|⟨hA,b,rfl,h1,h2,h3⟩)
  ·have HA1:Hid (Et s (Zc ws k)=Zz rp (Zc ws k')):=by show _=_;rw[Zt.out,hA,Option.bind_some]
   clear hA Zt;rcases hQ.is with rfl|⟨n,y,rfl⟩<;>
    (go_wp2_with fail
     refine(ZcS Pb ws k' [41] rp _ hP2 ZPl).mono ?_;rintro e w3 (⟨hf2,rfl,hP3,hK3⟩|⟨hf2,b,rfl,h1,h2,h3⟩)
     ·have Hf2:Hid (hd ws k'=some rp):=hf2;have HA:Hid (Et s (Zc ws k)=some (Zc ws (k'+1))):=by show _=_;rw[HA1.out,Um hf2]
      clear hf2 HA1;go_wp2_with fail;go_ret;exact .inl ⟨k'+1,_,U,HA.out,rfl,⟨k',Hf.out,Hf2.out,hle,rfl,hQ⟩,hP3,(hK1.trans hK2).trans hK3⟩
     ·have HA:Hid (Et s (Zc ws k)=none):=by show _=_;rw[HA1.out,KW hf2]
      clear hf2 HA1;go_wp2;exact⟨rfl,.inr ⟨HA.out,b,rfl,h1,h2,(hK1.trans hK2).trans h3⟩⟩)
  ·have HA:Hid (Et s (Zc ws k)=none):=by show _=_;rw[Zt.out,hA];rfl
   exact ZSM
 ·have HA:Hid (Et s (Zc ws k)=none):=by show _=_;unfold Et;rw[KW hf];rfl
  clear hf;exact ZUu
theorem ZCn{ws:List RW}{k:Nat}(hok:∀w∈ws,Yi w)(hk:k<ws.length)(h:isAgg (tok ws[k])=true):ans (P factor) (Zc ws k)=Et (ws[k]).text (Zc ws (k+1)):=by
 have hw:=hok _ (ZWX hk);rw[Za4 hk];generalize ws[k]=w at h hw ⊢;unfold Et KP;have hc:tok w=count↔w.text= [99,111,117,110,116]:=by
  constructor
  ·intro e;have:=ZdR (p:=(·==count)) (L:= [[99,111,117,110,116]]) hw (by simpa using e) ZPl ZPl ZPl ZPl;exact ZWN
  ·intro e;have:=Zoj hw (y:=([99,111,117,110,116],count)) ZPl ZPl;unfold isAgg at h;simp only[ZYu,ZXT]at h;rcases h with h|h
   ·exact h
   ·rcases(ZwZ hw).1 h with q|q|q<;>(unfold Vn at q;simp[e]at q)
 unfold isAgg at h;simp only[ZYu,ZXT]at h;rcases h with h|h
 ·rw[h,Zzs];simp only[ZWR (hc.1 h)]
 ·rw[h,Zzr,ZgT];have hne:¬w.text= [99,111,117,110,116]:=fun e=>by
   have h2:=hc.2 e;rw[h]at h2;cases h2
  simp only[ZWQ hne]
theorem ZIA(Pb:Nat)(ws:List RW)(k:Nat)(W:World)(hP:PS Pb ws k W)(hk:k<ws.length)(ha:isAgg (tok ws[k])=true)(he:QW Pb ws 229 expr (k+1)):
  Calls prog 299 #[.pointer (some ⟨Pb,0,none⟩)] W (YR Pb ws k (ans (P factor) (Zc ws k)) (Vy ws factor k) W):=by
 have Xi:∀(fn:Fn) (first cap:Array Value) (w:World),(Instr.makeFunc fn first cap).run prog w= .ok (.func fn first cap) w:=fun _ _ _ _=>rfl;have ZC:=hP.lt;have hok:=hP.ok;have HT:Hid (Qq ws k=(ws[k]).text/\(ws[k]).text∈Yf/\isAgg (tok ws[k])=true/\ans (P factor) (Zc ws k)=Et (ws[k]).text (Zc ws (k+1))):=
  ⟨Zpz hk hok (by rw[Zcy hk];intro e;rw[ZXc e]at ha;cases ha),ZdR (p:=isAgg) (hok _ (ZWX hk)) ha ZPl ZPl ZPl ZPl,ha,ZCn hok hk ha⟩
 clear ha;go_enter func299,ntmps299;go_wp2_with fail;refine(ZkR Pb ws k _ (hP.keep (ZO _)) hk).mono ?_;rintro e w1 ⟨rfl,hP1,hK1⟩;unfold Ko;have f1:=fun w=>ZmT (XA ws k) ⟨(Qq ws k).toArray⟩ (Ju ws k) (ZcO ws k) w;have HT1:=HT.out;clear HT;generalize Qq ws k=s at HT1 f1 ⊢;have HT:Hid (s=(ws[k]).text/\(ws[k]).text∈Yf/\isAgg (tok ws[k])=true/\ans (P factor) (Zc ws k)=Et (ws[k]).text (Zc ws (k+1))):=HT1;clear HT1;obtain⟨c0,g0,hsz⟩:=ZaV ZC hK1;go_wp2_with fail;have ZM:Zb Pb W w1:=(Zb.alloc Pb _ _).trans hK1;have hnew:=ZWV w1 (.cells #[.string ⟨s.toArray⟩] 9);have hlt1:=hP1.lt;have hG:Ze0 Pb w1.heap.size W.heap.size s (w1.alloc (.cells #[.string ⟨s.toArray⟩] 9)):=⟨U,U,by simp only[World.cell?,hnew];rfl,(Zb.alloc Pb _ _).cell U c0⟩;refine(ZI1 Pb ws (k+1) w1.heap.size W.heap.size s _ (hP1.keep (ZO _)) hG (he.mono U)).mono ?_;rintro e w2 (⟨k',x,hle,hA,rfl,hQ,hP2,hK2⟩|⟨hA,b,rfl,h1,h2,h3⟩)
 ·have HA:Hid (ans (P factor) (Zc ws k)=some (Zc ws k')):=by show _=_;rw[HT.out.2.2.2,<-HT.out.1,hA]
  have HQ:Hid (Vy ws factor k k' (.iface 410 (.agg #[.string ⟨s.toArray⟩,x])) w2):=by
    obtain⟨m,l1,l2,l3,rfl,hq⟩:=hQ;have n1:=Yu l1;have n2:=Yu l2;rcases hq with⟨rfl,rfl,hst,rfl⟩|⟨t,hD,hR⟩
    ·have n3:=Yu hst;refine⟨_,?_,fun _ _ _=>Zl.star⟩;rw[Yj hk U,Yj n1 U,Yj n3 U,Zak n2];have hc:tok ws[k]=count:=by
      have hw:=hok _ (ZWX hk);have h:=HT.out.2.2.1;have e:=HT.out.1.symm;unfold isAgg at h;simp only[ZYu,ZXT]at h;rcases h with h|h
      ·exact h
      ·rcases(ZwZ hw).1 h with q|q|q<;>(unfold Vn at q;simp[e]at q)
     exact .Uo hc (Yc l1 n1) (Yc hst n3) (Yc l2 n2)
    ·refine⟨_,?_,fun _ _ _=>Zl.agg (by rw[HT.out.1];exact HT.out.2.1) (hR _ _ _)⟩;rw[Yj hk U,Yj n1 U,Zpj n2 l3,HT.out.1];exact .QO HT.out.2.2.1 (Yc l1 n1) (Yc l2 n2) hD
  have hx:x= .nilIface\/∃n y,x= .iface n y:=by obtain⟨m,_,_,_,_,hq⟩:=hQ;exact hq.is
  have c1:=hK2.cell hG.n1 hG.c1;clear hA hQ HT;rcases hx with rfl|⟨n,y,rfl⟩<;>
   (go_wp2_with fail
    go_ret;exact .inl ⟨k',_,U,HA.out,rfl,HQ.out,hP2,ZM.trans ((Zb.alloc Pb _ _).trans hK2)⟩)
 ·have HA:Hid (ans (P factor) (Zc ws k)=none):=by show _=_;rw[HT.out.2.2.2,<-HT.out.1,hA]
  clear hA HT;go_wp2;exact⟨rfl,.inr ⟨HA.out,b,rfl,h1,h2,ZM.trans ((Zb.alloc Pb _ _).trans h3)⟩⟩
theorem ZCE(a:Int)(b:ByteArray)(x:Value)(hx:x= .nilIface\/∃t y,x= .iface t y)(w:World):(Instr.field 173 (.agg #[.int .i64 a,.string b,x]) 2).run prog w= .ok x w:=by
 rcases hx with rfl|⟨t,y,rfl⟩<;>kernel_rfl
theorem Zu9{ws:List RW}{k:Nat}(hok:∀w∈ws,Yi w)(h:hd ws k=some lit)(w':World):(∃n y,Ju ws k= .iface n y)/\Vy ws factor k (k+1) (.iface 398 (.agg #[Ju ws k])) w':=by
 have hk:=Yu h;have ht:=Yc h hk;have hw:=hok _ (ZWX hk);rw[(ZeK hk).2.2];unfold Vy;rw[Zak hk];rcases(ZeV hw).1 ht with hs|hs
 ·have e:QI ws[k]= .iface 178 (.int .i64 (ws[k]).num):=by unfold QI;rw[ZWR hs]
  rw[e];exact⟨⟨_,_,rfl⟩,_,.Zea ht hs,fun _ _ _=>Zl.num⟩
 ·have e:QI ws[k]= .iface 100 (.string ⟨(ws[k]).text.toArray⟩):=by unfold QI;rw[ZWQ (by rw[hs];decide),ZWR hs]
  rw[e];exact⟨⟨_,_,rfl⟩,_,.Zeb ht hs,fun _ _ _=>Zl.text⟩
end
section
open T NT PK
theorem ZIP(Pb:Nat)(ws:List RW)(k:Nat)(W:World)(hP:PS Pb ws k W)(hf:QW Pb ws 286 factor (k+1))(he:QW Pb ws 229 expr (k+1)):
  Calls prog 286 #[.pointer (some ⟨Pb,0,none⟩)] W (YR Pb ws k (ans (P factor) (Zc ws k)) (Vy ws factor k) W):=by
 have Xi:∀(fn:Fn) (first cap:Array Value) (w:World),(Instr.makeFunc fn first cap).run prog w= .ok (.func fn first cap) w:=fun _ _ _ _=>rfl;have hok:=hP.ok;go_enter func286,ntmps286;go_wp2_with fail;refine(Ee Pb ws k [45] T.minus _ hP ZPl).mono ?_;rintro e w1 ⟨hK1,⟨hi,rfl,hP1⟩|⟨hi,rfl,hP1⟩⟩
 ·have Hi:Hid (hd ws k=some T.minus):=hi;have Zt:Hid (ans (P factor) (Zc ws k)=ans (P factor) (Zc ws (k+1))):=by show _=_;rw[XW hi,Zzw]
  clear hi;go_wp2_with fail;refine(hf (k+1) _ (ZWS _) hP1).mono ?_;rintro e w2 (⟨k',x,hle,hA,rfl,⟨t,hD,hR⟩,hP2,hK2⟩|⟨hA,b,rfl,h1,h2,h3⟩)
  ·obtain⟨n,y,rfl⟩:=(hR 0 0 W).iface;have HA:Hid (ans (P factor) (Zc ws k)=some (Zc ws k')):=Zt.out.trans hA;have HQ:Hid (Vy ws factor k k' (.iface 403 (.agg #[.iface n y])) w2):=by
    have l1:=Yu Hi.out;refine⟨_,?_,fun _ _ _=>Zl.neg (hR _ _ _)⟩;rw[Yj l1 U];exact .Vf (Yc Hi.out l1) hD
   exact ZSP
  ·have HA:Hid (ans (P factor) (Zc ws k)=none):=Zt.out.trans hA;exact ZSM
 ·have Hm:Hid (hd ws k≠some T.minus):=hi;clear hi;go_wp2_with fail;refine(Ee Pb ws k [110,117,108,108] T.null _ hP1 ZPl).mono ?_;rintro e w2 ⟨hK2,⟨hi,rfl,hP2⟩|⟨hi,rfl,hP2⟩⟩
  ·have HA:Hid (ans (P factor) (Zc ws k)=some (Zc ws (k+1))):=by show _=_;rw[XW hi,Zzx]
   have HQ:Hid (Vy ws factor k (k+1) (.iface 398 (.agg #[.iface 176 (.agg #[])])) w2):=by
    have l1:=Yu hi;refine⟨_,?_,fun _ _ _=>Zl.null⟩;rw[Zak l1];exact .Un (Yc hi l1)
   clear hi;go_wp2_with fail;go_ret;exact .inl ⟨k+1,_,U,HA.out,rfl,HQ.out,hP2,hK1.trans hK2⟩
  ·have Hn:Hid (hd ws k≠some T.null):=hi;clear hi;have hKa:=hK1.trans hK2;go_wp2_with fail;refine(Ziv Pb ws k _ hP2).mono ?_;rintro e w3 ⟨rfl,hB3⟩;have hP3:=hP2.keep hB3;have hK3:=hKa.trans (Zb.of Pb hB3);unfold Ko;have f0:=fun w=>ZmS (XA ws k) ⟨(Qq ws k).toArray⟩ (Ju ws k) (ZcO ws k) w;by_cases hl:hd ws k=some lit
   ·have hk:=Yu hl;have hn':(XA ws k==3)=true:=by simpa using(ZuT hok k).2 hl
    obtain⟨⟨n,y,hv⟩,hq⟩:=Zu9 hok hl w3;have HQ:Hid (∀w',Vy ws factor k (k+1) (.iface 398 (.agg #[Ju ws k])) w'):=fun w'=>(Zu9 hok hl w').2;have HA:Hid (ans (P factor) (Zc ws k)=some (Zc ws (k+1))):=by show _=_;rw[XW hl,Zzu]
    have HV:Hid (Ju ws k= .iface n y):=hv;clear hl hq hv;go_wp2_with fail;refine(ZkR Pb ws k _ hP3 hk).mono ?_;rintro e w4 ⟨rfl,YP,hK4⟩;unfold Ko;have f2:=fun w=>ZCE (XA ws k) ⟨(Qq ws k).toArray⟩ (Ju ws k) (ZcO ws k) w;clear f0;rw[HV.out]at f2 HQ ⊢;go_wp2_with fail;go_ret;exact .inl ⟨k+1,_,U,HA.out,rfl,HQ.out _,YP,hK3.trans hK4⟩
   ·have hn':(XA ws k==3)=false:=by
     have:¬XA ws k=3:=fun h=>hl ((ZuT hok k).1 h);exact ZWN
    have Hl:Hid (hd ws k≠some lit):=hl;clear hl;go_wp2_with fail;refine(ZkO Pb ws k w3.heap.size 1 [[40]] _ (hP3.keep (ZO _)) (ZbY w3 [[40]]) ZPm).mono ?_;rintro e w4 ⟨rfl,hB4⟩;have YP:=(hP3.keep (ZO _)).keep hB4;have hK4:=hK3.trans ((Zb.alloc Pb _ _).trans (Zb.of Pb hB4));rw[JG (s:= [40]) (t:=lp) ZPl hok];by_cases ho:hd ws k=some lp
    ·have Zt:Hid (ans (P factor) (Zc ws k)=ans (round expr) (Zc ws k)):=by show _=_;rw[XW ho,Zzv]
     rw[ZXX ho];clear ho;go_wp2_with fail;refine(ZI3 Pb ws k _ YP he).mono ?_;rintro e w5 (⟨k',x,hle,hA,rfl,hQ,Xy,Yg⟩|⟨hA,b,rfl,h1,h2,h3⟩)
     ·obtain⟨o,c,a,t2,e1,e2,e3,e4,e5⟩:=hQ.split;obtain⟨n2,y2,rfl⟩:=(e5 0 0 W).iface;have HA:Hid (ans (P factor) (Zc ws k)=some (Zc ws k')):=Zt.out.trans hA;have HQ:Hid (Vy ws factor k k' (.iface n2 y2) w5):=by
       refine⟨_,?_,e5⟩;rw[e3];exact .Vg e1 e2 e4
      exact ZSK
     ·have HA:Hid (ans (P factor) (Zc ws k)=none):=Zt.out.trans hA;exact ZSO
    ·have Ho:Hid (hd ws k≠some lp):=ho;rw[ZXD ho];clear ho;go_wp2_with fail;refine(ZkO Pb ws k w4.heap.size 4 Yf _ (YP.keep (ZO _)) (ZbY w4 Yf) ZPl).mono ?_;rintro e w5 ⟨rfl,X4⟩;have Xy:=(YP.keep (ZO _)).keep X4;have Yg:=hK4.trans ((Zb.alloc Pb _ _).trans (Zb.of Pb X4));rw[fx (ss:=Yf) isAgg ZPl ZPl ZPl ZPl hok];cases hg:(hd ws k).any isAgg with
     |true=>
      obtain⟨u,hu,hp⟩:=Zq7 hg;have hk:=Yu hu;have hp2:isAgg (tok ws[k])=true:=by rw[Yc hu hk];exact hp
      clear hu hp;go_wp2_with fail;refine(ZIA Pb ws k _ Xy hk hp2 he).mono ?_;rintro e w6 (⟨k',x,hle,hA,rfl,⟨t,hD,hR⟩,hP6,hK6⟩|⟨hA,b,rfl,h1,h2,h3⟩)
      ·obtain⟨n2,y2,rfl⟩:=(hR 0 0 W).iface;have HA:Hid (ans (P factor) (Zc ws k)=some (Zc ws k')):=hA;clear hA hg hp2;go_wp2_with fail;go_ret;exact .inl ⟨k',_,hle,HA.out,rfl,⟨t,hD,hR⟩,hP6,Yg.trans hK6⟩
      ·have HA:Hid (ans (P factor) (Zc ws k)=none):=hA;clear hA hg hp2;exact ZUt
     |false=>
      have Zt:Hid (ans (P factor) (Zc ws k)=ans (P column) (Zc ws k)):=by
       refine Zzt _ (fun u r e=>?_);have hu:=Ji e;have hp:=Zq6 hg hu;exact⟨fun h=>Hm.out (by rw[hu,h]),fun h=>Hn.out (by rw[hu,h]),fun h=>Hl.out (by rw[hu,h]),fun h=>Ho.out (by rw[hu,h]),(fun h=>by rw[h]at hp;cases hp),(fun h=>by rw[h]at hp;cases hp)⟩
      go_wp2_with fail;refine(Zvy Pb ws k _ Xy).mono ?_;rintro e w6 (⟨k',x,hle,hA,rfl,⟨o,s,rfl,hD⟩,hP6,hK6⟩|⟨hA,b,rfl,h1,h2,h3⟩)
      ·have HA:Hid (ans (P factor) (Zc ws k)=some (Zc ws k')):=Zt.out.trans hA;have HQ:Hid (Vy ws factor k k' (.iface 344 (.agg #[Zv o,Zv s])) w6):=⟨_,.Ve hD,fun _ _ _=>Zl.column⟩;clear hA hg Zt;unfold Zv at *;go_wp2_with fail;go_ret;exact .inl ⟨k',_,hle,HA.out,rfl,HQ.out,hP6,Yg.trans hK6⟩
      ·have HA:Hid (ans (P factor) (Zc ws k)=none):=Zt.out.trans hA;clear hA hg Zt;exact ZUt
end
section
open T NT PK
theorem Tryz.ZEH:(prog.info? 351).map (fun i=>(i.zero,i.size,i.bytes))=some (some (.agg #[.nilIface,.string ⟨#[]⟩]),2,32):=by kernel_rfl
theorem Tryz.ZEM:(prog.info? 304).map (fun i=>(i.zero,i.size,i.bytes))=some (some (.agg #[.string ⟨#[]⟩,.string ⟨#[]⟩]),2,32):=by kernel_rfl
theorem Tryz.ZEF:(prog.info? 344).map (fun i=>(i.zero,i.size,i.bytes))=some (some (.agg #[.string ⟨#[]⟩,.string ⟨#[]⟩]),2,32):=by kernel_rfl
def Qb(l:List (Value×Value)):List Value:=l.flatMap fun p=> [p.1,p.2]
theorem ZAW(l:List (Value×Value)):∀i (h:i<l.length),(Qb l)[i*2]? =some l[i].1/\(Qb l)[i*2+1]? =some l[i].2:=by
 induction l with
 |nil=>intro i h;simp at h
 |cons a l ih=>
  intro i h;cases i with
  |zero=>exact⟨rfl,rfl⟩
  |succ i=>
   obtain⟨h1,h2⟩:=ih i ZPv;have e:Qb (a::l)=a.1::a.2::Qb l:=rfl;rw[e,show(i+1)*2=i*2+1+1 from U];simp only[List.getElem?_cons_succ,List.getElem_cons_succ];exact⟨h1,h2⟩
theorem ZkI{Pb n0 e:Nat}{w:World}{v:Value}{l:List (Value×Value)}(h:w.ownsRow n0 e 2 v l.length (Qb l))(hl:l≠ [])(ZC:Pb<n0):Lay Pb n0 w v l:=by
 rcases h.2 with⟨_,h0⟩|⟨g,cap,cur,rfl,hg,hh,hc,_⟩
 ·exact absurd (ZX7.1 h0) hl
 ·refine⟨g,cap,rfl,hc,U,hg,fun i hi=>?_⟩;obtain⟨h1,h2⟩:=ZAW l i hi;exact⟨(World.ownsRow.cellAt h _ U).trans h1,(World.ownsRow.cellAt h _ U).trans h2⟩
theorem ZfR{Pb:Nat}{w w':World}{B e size n:Nat}{v:Value}{xs:List Value}(h:w.ownsRow B e size v n xs)(hK:Zb Pb w w')(ZC:Pb<B):w'.ownsRow B e size v n xs:=by
 refine⟨h.1,?_⟩;rcases h.2 with h0|⟨g,cap,cur,rfl,hg,hh,r⟩
 ·exact ZS4
 ·exact .inr ⟨g,cap,cur,rfl,hg,hK.obj U hh,r⟩
theorem Zoi{Pb:Nat}{W w w':World}{e size n:Nat}{v:Value}{xs:List Value}(hK:Zb Pb W w)(h:w.ownsRow W.heap.size e size v n xs)(hg:w.grownBy w' v.ownBlock):Zb Pb W w':=
 ⟨hg.os.trans hK.os,hg.tape.trans hK.tape,hg.output.trans hK.output,ZW0 hK.size hg.size,fun g hne hl=>(hg.block g (ZXi hl hK.size) (fun e=>by have:=(h.lt g e.symm).1;omega)).trans (hK.block g hne hl)⟩
theorem PS.grown{Pb:Nat}{ws:List RW}{k:Nat}{w w':World}(h:PS Pb ws k w){row:Option Nat}(hg:w.grownBy w' row)(hrow:∀b,row=some b->b≠Pb/\∃v0,w.cell? ⟨b,0,none⟩=some v0/\∀n,v0≠.int .i64 n):PS Pb ws k w':=by
 obtain⟨wa,cap,h1,h2⟩:=h.obj;have hp:w'.heap[Pb]? =w.heap[Pb]? :=hg.block Pb h.lt (fun e=>(hrow Pb e.symm).1 rfl);refine⟨h.len,h.ok,h.le,⟨wa,cap,hp.trans h1,fun i hi=>?_⟩,fun wa' cap' e=>h.Zdj wa' cap' (hp.symm.trans e)⟩;obtain⟨g,e,hgP,c1,c2,c3⟩:=h2 i hi;obtain⟨g',e',_,d1,_⟩:=h2 0 U;have hgg:g=g':=by rw[e]at e';cases e';rfl
 subst hgg;have hne:∀o,some (⟨g,o,none⟩:Addr).block≠row:=fun o e=>by
  obtain⟨_,v0,hc,hv⟩:=hrow g e.symm;exact ZWL
 exact⟨g,e,hgP,hg.cell c1 (hne _),hg.cell c2 (hne _),hg.cell c3 (hne _)⟩
theorem Zo7{w:World}{B e:Nat}{v:Value}{l:List (Value×Value)}(h:w.ownsRow B e 2 v l.length (Qb l))(hl:l≠ [])(hv:∀p∈l,∀n,p.1≠.int .i64 n){Pb:Nat}(ZC:Pb<B):∀b,v.ownBlock=some b->b≠Pb/\∃v0,w.cell? ⟨b,0,none⟩=some v0/\∀n,v0≠.int .i64 n:=by
 intro b hb;have h1:=(h.lt b hb).1;obtain⟨g,cap,rfl,_,_,_,h5⟩:=ZkI h hl ZC;have:b=g:=by simp[Value.ownBlock]at hb;exact hb.symm
 subst this;have h0:0<l.length:=List.length_pos_iff.2 hl;refine⟨U,l[0].1,?_,hv _ (ZWX h0)⟩;have:=(h5 0 h0).1;exact ZWN
theorem ZmW(w:World)(a b:Value)(ty:TypeId):∀j u, [a,b][j]? =some u->(w.alloc (.cells #[a,b] ty)).cell? ((⟨w.heap.size,0,none⟩:Addr).add j)=some u:=by
 intro j u h;have hb:=ZWV w (.cells #[a,b] ty);rw[ZXE];rcases j with _|_|j
 ·exact ZWE
 ·exact ZWE
 ·simp at h
def ZgM(l:List (Value×Value))(t:Tr):Prop:=∀Pb n0 W,Zl Pb n0 W (.its l) t
def ZyL(Pb:Nat)(ws:List RW)(k n0 k':Nat)(x:Value)(w':World):Prop:=∃l t,l≠ []/\Lay Pb n0 w' x l/\ZgM l t/\D items (sl ws k k') (nd {kind:= [114,111,119]} t)
theorem ZHe{ws:List RW}{k1:Nat}(h:hd ws k1≠some comma):ans (R items) (Zc ws k1)=some (Zc ws k1):=by
 cases e:Zc ws k1 with
 |nil=>exact Zdf items ZPm
 |cons u r=>rw[ZqL,ZWQ (fun hu=>h ZPR)]
theorem Zu6{ws:List RW}{k1:Nat}(h:hd ws k1=some comma):ans (R items) (Zc ws k1)=(ans (P NT.item) (Zc ws (k1+1))).bind (ans (R items)):=by
 rw[XW h,ZqL,ZWR rfl]
theorem ZIT(Pb:Nat)(ws:List RW)(k:Nat)(W:World)(hP:PS Pb ws k W)(hq:∀k' W',k<=k'->PS Pb ws k' W'->Calls prog 182 #[.pointer (some ⟨Pb,0,none⟩)] W' (YR Pb ws k' (ans (P NT.item) (Zc ws k')) (Zl1 ws k') W')):
  Calls prog 181 #[.pointer (some ⟨Pb,0,none⟩),.func (.func 182) #[.pointer (some ⟨Pb,0,none⟩)] #[]] W (YR Pb ws k (ans (P items) (Zc ws k)) (ZyL Pb ws k W.heap.size) W):=by
 have hok:=hP.ok;have hlen:=hP.len;have ZC:=hP.lt;obtain⟨i0,hi0,hz0,hz1,hz2⟩:=ZXd Tryz.ZEH;go_enter func181,ntmps181;go_wp2_with fail;refine(hq k W (ZWS _) hP).mono ?_;rintro e w1 (⟨k1,x,hle,hA,rfl,⟨n,y,s,t,rfl,hD,hR⟩,hP1,hK1⟩|⟨hA,b,rfl,h1,h2,h3⟩)
 ·have HA1:Hid (ans (P items) (Zc ws k)=ans (R items) (Zc ws k1)):=by show _=_;rw[Zq0,hA,Option.bind_some]
  have HD:Hid (D items (sl ws k k1) (nd {kind:= [114,111,119]} (l1 (nd {kind:= [105,116,101,109],Zx:=s} (l1 t))))):=.Ke hD;have ZbB:=Zd1 hA;rw[ZcX,ZcX]at ZbB;clear hA hD;unfold Zv;have hl1:=hP1.le;have hR1:ZgM [(.iface n y,.string ⟨s.toArray⟩)] (l1 (nd {kind:= [105,116,101,109],Zx:=s} (l1 t))):=fun _ _ _=>.Kg (hR _ _ _) .EI;have hown:(w1.alloc (.cells #[.iface n y,.string ⟨s.toArray⟩] 351)).ownsRow W.heap.size 351 2 (.slice (some ⟨w1.heap.size,0,none⟩) 1 1) 1 (Qb [(.iface n y,.string ⟨s.toArray⟩)]):=World.ownsRow_lit w1 #[.iface n y,.string ⟨s.toArray⟩] 1 hK1.size ZPq rfl;go_wp2_with fail;go_loopg [5] (ws.length-k1+1) (fun gk pv wr=>∃(k1:Nat) (l:List (Value×Value)) (t:Tr),gk=ws.length-k1+1/\k1<=ws.length/\k<=k1/\l≠ []/\l.length<=k1/\(∀p∈l,∀n,p.1≠.int .i64 n)/\wr.ownsRow W.heap.size 351 2 pv l.length (Qb l)/\Hid (D items (sl ws k k1) (nd {kind:= [114,111,119]} t))/\ZgM l t/\Hid (ans (P items) (Zc ws k)=ans (R items) (Zc ws k1))/\PS Pb ws k1 wr/\Zb Pb W wr);case atStart=>exact⟨k1,_,_,rfl,hl1,hle,ZPm,ZPo,ZRJ,hown,HD,hR1,HA1,hP1.keep (ZO _),hK1.trans (Zb.alloc Pb _ _)⟩
  case round=>
   obtain⟨k1,l,t,rfl,hl1,hle,hne,hll,hni,hown,HD,hR,HA1,hP1,hK⟩:=hrel;go_wp2_with fail;refine(Ee Pb ws k1 [44] comma _ hP1 ZPl).mono ?_;rintro e w2 ⟨hK2,⟨hi,rfl,hP2⟩|⟨hi,rfl,hP2⟩⟩
   ·have Hi:Hid (hd ws k1=some comma):=hi;clear hi;go_wp2_with fail;refine(hq (k1+1) _ U hP2).mono ?_;rintro e w3 (⟨k3,x,hle3,hA3,rfl,⟨n3,y3,s3,t3,rfl,hD3,XP⟩,hP3,hK3⟩|⟨hA3,b,rfl,h1,h2,h3⟩)
    ·unfold Zv;have hown3:=ZfR hown (hK2.trans hK3) ZC;have ZM:=hK.trans (hK2.trans hK3);have hl3:=hP3.le;have Zn1:=ZM.size;have ZaM:=hown3.alloc (.cells #[.iface n3 y3,.string ⟨s3.toArray⟩] 351);have ZhB:=hP3.keep (ZO (.cells #[.iface n3 y3,.string ⟨s3.toArray⟩] 351));have Zhv:=ZM.trans (Zb.alloc Pb w3 (.cells #[.iface n3 y3,.string ⟨s3.toArray⟩] 351));have XL:Hid (ans (P items) (Zc ws k)=ans (R items) (Zc ws k3)):=by show _=_;rw[HA1.out,Zu6 Hi.out,hA3,Option.bind_some]
     have HD5:Hid (D items (sl ws k k3) (nd {kind:= [114,111,119]} (t.snoc (nd {kind:= [105,116,101,109],Zx:=s3} (l1 t3))))):=by
      show D _ _ _;have lc:=Yu Hi.out;rw[QR ws (show k<=k1 by omega) (show k1<=k3 by omega),Yj lc U];exact .VV (Yc Hi.out lc) HD.out hD3
     have hR5:ZgM (l++ [(.iface n3 y3,.string ⟨s3.toArray⟩)]) (t.snoc (nd {kind:= [105,116,101,109],Zx:=s3} (l1 t3))):=fun _ _ _=>(hR _ _ _).ZFl (XP _ _ _);have hne5:l++ [(.iface n3 y3,.string ⟨s3.toArray⟩)]≠ []:=ZPm
     have ZhV:∀p∈l++ [((.iface n3 y3,.string ⟨s3.toArray⟩):Value×Value)],∀n,p.1≠.int .i64 n:=by
      intro p hp n;rcases ZXt.1 hp with hp|hp
      ·exact hni p hp n
      ·simp at hp;rw[hp];simp
     have hrow:=Zo7 ZaM hne hni ZC;have EG:Qb (l++ [((.iface n3 y3,.string ⟨s3.toArray⟩):Value×Value)])=Qb l++ [.iface n3 y3,.string ⟨s3.toArray⟩]:=by simp[Qb]
     have HC5:Hid (Qb (l++ [((.iface n3 y3,.string ⟨s3.toArray⟩):Value×Value)])=Qb l++ [.iface n3 y3,.string ⟨s3.toArray⟩]):=EG;have HL5:Hid ((l++ [((.iface n3 y3,.string ⟨s3.toArray⟩):Value×Value)]).length=l.length+1):=by show _=_;simp
     clear EG hA3 hD3 HA1 HD hR XP;go_wp2_with (at_builtin;go_must (refine ZXg _ rfl _ _ 211 rfl W.heap.size 351 i0 (.agg #[.nilIface,.string ⟨#[]⟩]) 2 32 underlying211 hi0 hz0 hz1 hz2 rfl ZPl _ _ _ rfl ZaM ⟨w3.heap.size,0,none⟩ 1 1 [.iface n3 y3,.string ⟨s3.toArray⟩] rfl rfl (ZmW _ _ _ _) ZPA ZPq U ZPo ?_);intro v' w5 hown' hgrow _);go_roundg (ws.length-k3+1);case measure=>omega
     case rel=>exact ZT0
    ·have HA:Hid (ans (P items) (Zc ws k)=none):=by show _=_;rw[HA1.out,Zu6 Hi.out,hA3];rfl
     exact ZSS
   ·have HA:Hid (ans (P items) (Zc ws k)=some (Zc ws k1)):=by show _=_;rw[HA1.out,ZHe hi]
    exact ZU0
 ·have HA:Hid (ans (P items) (Zc ws k)=none):=by show _=_;rw[Zq0,hA];rfl
  exact ZSU
end
end Go.Proofs.YthmlacabmlghbaaGreatDoor
