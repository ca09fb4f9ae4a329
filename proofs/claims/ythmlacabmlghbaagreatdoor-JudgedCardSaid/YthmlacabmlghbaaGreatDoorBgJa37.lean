import Derived.Test.YthmlacabmlghbaaGreatDoorBgJa36
set_option maxRecDepth 100000
set_option maxHeartbeats 8000000
set_option linter.unusedSimpArgs false
set_option linter.unusedVariables false
namespace Go.Proofs.YthmlacabmlghbaaGreatDoor
open Go.Proofs.Tryz
theorem ZSE{p:Prop}(h:p:=by clear h hA;go_wp2_with fail;go_ret;exact .inl ⟨k',_,hle,HA.out,rfl,⟨t,hD,hR.low hK1.size⟩,hP2,hK2⟩):p:=h
theorem ZSD{p:Prop}(h:p:=by clear h hA;go_wp2;exact⟨rfl,.inr ⟨HA.out,b,rfl,h1,h2,h3⟩⟩):p:=h
theorem ZSF{p:Prop}(h:p:=by clear h hA;go_wp2_with fail;go_ret;exact .inl ⟨k',_,hle,HA.out,rfl,⟨t,hD,hR⟩,hP2,hK2⟩):p:=h
theorem ZSU{p:Prop}(h:p:=by clear hA;go_wp2;exact⟨rfl,.inr ⟨HA.out,b,rfl,h1,h2,h3⟩⟩):p:=h
theorem ZST{p:Prop}(h:p:=by clear hA;go_wp2;exact⟨rfl,.inr ⟨HA.out,b,rfl,h1,h2,(Zb.alloc Pb _ _).trans h3⟩⟩):p:=h
theorem ZUD{p:Prop}(h:p:=by go_wp2_with fail;go_ret;exact .inl ⟨k',_,U,HA.out,rfl,HR.out,hP2,hK1.trans hK2⟩):p:=h
theorem ZUW{p:Prop}(h:p:=by have HA:Hid (ans PK.ask (cmp::Zc ws (k+1))=none):=Zt.out.trans hA;clear hA Zt;go_wp2;exact⟨rfl,.inr ⟨HA.out,b,rfl,h1,h2,hK1.trans h3⟩⟩):p:=h
theorem ZSX{p:Prop}(h:p:=by clear hl;go_wp2;exact⟨rfl,.inr ⟨HA.out,b,rfl,h1,h2,(hK1.trans hK2).trans h3⟩⟩):p:=h
theorem ZSN{p:Prop}(h:p:=by clear hA Zt;go_wp2;exact⟨rfl,.inr ⟨HA.out,b,rfl,h1,h2,hK2.trans h3⟩⟩):p:=h
theorem ZUC{p:Prop}(h:p:=by go_wp2_with fail;go_ret;exact .inl ⟨k',_,U,HA.out,rfl,HQ.out,Xy,hKK.trans Yg⟩):p:=h
theorem ZUr{p:Prop}(h:p:=by go_wp2;exact⟨rfl,.inr ⟨HA.out,b,rfl,h1,h2,((hK2.trans hK3).trans hK4).trans h3⟩⟩):p:=h
theorem ZUs{p:Prop}(h:p:=by go_wp2;exact⟨rfl,.inr ⟨HA.out,b,rfl,h1,h2,(hK2.trans hK3).trans h3⟩⟩):p:=h
theorem ZSM{p:Prop}(h:p:=by clear hA Zt;go_wp2;exact⟨rfl,.inr ⟨HA.out,b,rfl,h1,h2,hK1.trans h3⟩⟩):p:=h
theorem ZSP{p:Prop}(h:p:=by clear hA Zt;go_wp2_with fail;go_ret;exact .inl ⟨k',_,U,HA.out,rfl,HQ.out,hP2,hK1.trans hK2⟩):p:=h
theorem ZUV{p:Prop}(h:p:=by have HA:Hid (ans (P neg) (Zc ws k)=none):=Zt.out.trans hA;clear hA Zt;go_wp2;exact⟨rfl,.inr ⟨HA.out,b,rfl,h1,h2,hK1.trans h3⟩⟩):p:=h
open Go.RowKit
section
open T NT PK
theorem ZbY(W:World)(ss:List Za):VA (W.alloc (.cells (ss.map Zv).toArray 9)) W.heap.size ss:=fun k hk=>by
 have h3:=ZWV W (.cells (ss.map Zv).toArray 9);simp only[World.cell?,h3];simp[Zv,hk]
theorem YR.after{Pb:Nat}{ws:List RW}{k:Nat}{A:Option (List T)}{Q:Nat->Value->World->Prop}{W w e w'}(hK:Zb Pb W w)(h:YR Pb ws k A Q w e w'):YR Pb ws k A Q W e w':=by
 rcases h with⟨k',x,h1,h2,h3,h4,h5,h6⟩|⟨h1,h2⟩
 ·exact .inl ⟨k',x,h1,h2,h3,h4,h5,hK.trans h6⟩
 ·exact .inr ⟨h1,QM.of hK h2⟩
theorem ZIK(Pb:Nat)(ws:List RW)(k:Nat)(W:World)(hP:PS Pb ws k W)(hq:Xp Pb ws 233 ZF k):
  Calls prog 185 #[.pointer (some ⟨Pb,0,none⟩)] W (YR Pb ws k (ans (P cnd) (Zc ws k)) (Part Pb ws cnd k W.heap.size) W):=by
 have hlt:Pb<W.heap.size:=by obtain⟨_,_,h1,_⟩:=hP.obj;exact(ZWU.1 h1).1
 go_enter func185,ntmps185;go_wp2_with fail;refine(ZkQ Pb W.heap.size 1 [[111,114]] _ (ZbY W [[111,114]]) ZPo U).mono ?_;rintro e w1 ⟨b1,b2,rfl,hS,hB⟩;have hP1:=(hP.keep (ZO _)).keep hB;have hK1:Zb Pb W w1:=(Zb.alloc Pb _ _).trans (Zb.of Pb hB);go_wp2_with fail;refine(ZID Pb ws k b1 b2 W.heap.size 1 _ hP1 hS hq).mono ?_;intro e w2 h;rcases h.after hK1 with⟨k',x,hle,hA,rfl,⟨t,hD,hR⟩,hP2,hK2⟩|⟨hA,b,rfl,h1,h2,h3⟩
 ·obtain⟨n,y,rfl⟩:=hR.iface;have HA:Hid (ans (P cnd) (Zc ws k)=some (Zc ws k')):=hA;exact ZSE
 ·have HA:Hid (ans (P cnd) (Zc ws k)=none):=hA;exact ZSD
theorem ZIM(Pb:Nat)(ws:List RW)(k:Nat)(W:World)(hP:PS Pb ws k W)(hq:Xp Pb ws 266 neg k):
  Calls prog 233 #[.pointer (some ⟨Pb,0,none⟩)] W (YR Pb ws k (ans (P ZF) (Zc ws k)) (Part Pb ws ZF k W.heap.size) W):=by
 have hlt:Pb<W.heap.size:=by obtain⟨_,_,h1,_⟩:=hP.obj;exact(ZWU.1 h1).1
 go_enter func233,ntmps233;go_wp2_with fail;refine(ZkQ Pb W.heap.size 1 [[97,110,100]] _ (ZbY W [[97,110,100]]) ZPo U).mono ?_;rintro e w1 ⟨b1,b2,rfl,hS,hB⟩;have hP1:=(hP.keep (ZO _)).keep hB;have hK1:Zb Pb W w1:=(Zb.alloc Pb _ _).trans (Zb.of Pb hB);go_wp2_with fail;refine(ZIE Pb ws k b1 b2 W.heap.size 1 _ hP1 hS hq).mono ?_;intro e w2 h;rcases h.after hK1 with⟨k',x,hle,hA,rfl,⟨t,hD,hR⟩,hP2,hK2⟩|⟨hA,b,rfl,h1,h2,h3⟩
 ·obtain⟨n,y,rfl⟩:=hR.iface;have HA:Hid (ans (P ZF) (Zc ws k)=some (Zc ws k')):=hA;exact ZSE
 ·have HA:Hid (ans (P ZF) (Zc ws k)=none):=hA;exact ZSD
theorem ZIO(Pb:Nat)(ws:List RW)(k:Nat)(W:World)(hP:PS Pb ws k W)(hq:QW Pb ws 264 term k):
  Calls prog 229 #[.pointer (some ⟨Pb,0,none⟩)] W (YR Pb ws k (ans (P expr) (Zc ws k)) (Vy ws expr k) W):=by
 have hlt:Pb<W.heap.size:=by obtain⟨_,_,h1,_⟩:=hP.obj;exact(ZWU.1 h1).1
 go_enter func229,ntmps229;go_wp2_with fail;refine(ZkQ Pb W.heap.size 2 [[43], [45]] _ (ZbY W [[43], [45]]) ZPo U).mono ?_;rintro e w1 ⟨b1,b2,rfl,hS,hB⟩;have hP1:=(hP.keep (ZO _)).keep hB;have hK1:Zb Pb W w1:=(Zb.alloc Pb _ _).trans (Zb.of Pb hB);go_wp2_with fail;refine(ZIF Pb ws k b1 b2 W.heap.size 2 _ hP1 hS hq).mono ?_;intro e w2 h;rcases h.after hK1 with⟨k',x,hle,hA,rfl,⟨t,hD,hR⟩,hP2,hK2⟩|⟨hA,b,rfl,h1,h2,h3⟩
 ·obtain⟨n,y,rfl⟩:=(hR 0 0 W).iface;have HA:Hid (ans (P expr) (Zc ws k)=some (Zc ws k')):=hA;exact ZSF
 ·have HA:Hid (ans (P expr) (Zc ws k)=none):=hA;exact ZSD
theorem ZI7(Pb:Nat)(ws:List RW)(k:Nat)(W:World)(hP:PS Pb ws k W)(hq:QW Pb ws 286 factor k):
  Calls prog 264 #[.pointer (some ⟨Pb,0,none⟩)] W (YR Pb ws k (ans (P term) (Zc ws k)) (Vy ws term k) W):=by
 have hlt:Pb<W.heap.size:=by obtain⟨_,_,h1,_⟩:=hP.obj;exact(ZWU.1 h1).1
 go_enter func264,ntmps264;go_wp2_with fail;refine(ZkQ Pb W.heap.size 3 [[42], [47], [37]] _ (ZbY W [[42], [47], [37]]) ZPo U).mono ?_;rintro e w1 ⟨b1,b2,rfl,hS,hB⟩;have hP1:=(hP.keep (ZO _)).keep hB;have hK1:Zb Pb W w1:=(Zb.alloc Pb _ _).trans (Zb.of Pb hB);go_wp2_with fail;refine(ZII Pb ws k b1 b2 W.heap.size 3 _ hP1 hS hq).mono ?_;intro e w2 h;rcases h.after hK1 with⟨k',x,hle,hA,rfl,⟨t,hD,hR⟩,hP2,hK2⟩|⟨hA,b,rfl,h1,h2,h3⟩
 ·obtain⟨n,y,rfl⟩:=(hR 0 0 W).iface;have HA:Hid (ans (P term) (Zc ws k)=some (Zc ws k')):=hA;exact ZSF
 ·have HA:Hid (ans (P term) (Zc ws k)=none):=hA;exact ZSD
end
section
open T NT PK
def SgQ(ws:List RW)(k1 k2:Nat)(s:Za):Prop:=
 (∃(h:k1<ws.length) (b:Bool),isSet (tok ws[k1])=true/\s=(ws[k1]).text++Zme b/\s≠ []/\(ws[k1]).text∈UK/\(b=true/\hd ws (k1+1)=some Xl/\k2=k1+2\/b=false/\hd ws (k1+1)≠some Xl/\k2=k1+1))\/((∀t,hd ws k1=some t->isSet t=false)/\k2=k1/\s= [])
theorem ZvA(Pb:Nat)(ws:List RW)(k:Nat)(W:World)(hP:PS Pb ws k W):
  Calls prog 94 #[.pointer (some ⟨Pb,0,none⟩)] W fun e w'=>∃k2 s,e= .returned (.string ⟨s.toArray⟩)/\SgQ ws k k2 s/\PS Pb ws k2 w'/\Zb Pb W w':=by
 have hok:=hP.ok;go_enter func94,ntmps94;go_wp2_with fail;refine(ZkS Pb ws k W.heap.size 3 UK _ (hP.keep (ZO _)) (ZbY W UK) ZPl).mono ?_;intro e w1 hT;obtain⟨k2,s,rfl,hs,hP1,hK1⟩:=ZbU isSet ZPl ZPl ZPl ZPl ZPl hok hT;clear hT;have hK1:Zb Pb W w1:=(Zb.alloc Pb _ _).trans hK1;rcases hs with⟨hk,hp,rfl,hs,hne⟩|⟨hno,rfl,rfl⟩
 ·have hin:(ws[k]).text∈UK:=ZdR (p:=isSet) (hok _ (ZWX hk)) hp ZPl ZPl ZPl ZPl;have HX:Hid (isSet (tok ws[k])=true/\s=(ws[k]).text/\(ws[k]).text∈UK):=⟨hp,hs,hin⟩;rw[<-hs]at hin;clear hs hp hne;simp only[UK,ZW3,ZXV,ZXK]at hin;rcases hin with rfl|rfl|rfl<;>
   (go_wp2_with fail
    refine(Zoz Pb ws (k+1) [97,108,108] _ hP1 ZPl).mono ?_;rintro e w2 ⟨hK2,⟨hf,hk2,rfl,hP2⟩|⟨hf,rfl,hP2⟩⟩
    ·rw[JG (t:=Xl) ZPl hok,ZXw]at hf;go_wp2_with fail;go_ret;exact⟨k+2,_,rfl,.inl ⟨hk,true,HX.out.1,by rw[<-HX.out.2.1];rfl,ZPm,HX.out.2.2,.inl ⟨rfl,hf,rfl⟩⟩,hP2,hK1.trans hK2⟩
    ·rw[JG (t:=Xl) ZPl hok,ZYl]at hf;go_wp2_with fail;go_ret;exact⟨k+1,_,rfl,.inl ⟨hk,false,HX.out.1,by rw[<-HX.out.2.1];rfl,ZPm,HX.out.2.2,.inr ⟨rfl,hf,rfl⟩⟩,hP2,hK1.trans hK2⟩)
 ·go_wp2_with fail;go_ret;exact⟨k2, [],rfl,.inr ⟨hno,rfl,rfl⟩,hP1,hK1⟩
theorem ZIZ(n1 n2:Nat)(y1 y2:Value)(s:Za)(W:World):
  Calls prog 95 #[.agg #[.iface n1 y1,.string ⟨s.toArray⟩,.iface n2 y2]] W fun e w'=>e= .returned (.iface 205 (.agg #[.iface n1 y1,.string ⟨s.toArray⟩,.iface n2 y2]))/\Below W.heap.size W w':=by
 go_enter func95,ntmps95;exact ZUN
theorem ZA6{ws:List RW}{k1:Nat}(h:∀t,hd ws k1=some t->isSet t=false):ans (R query) (Zc ws k1)=some (Zc ws k1):=by
 cases e:Zc ws k1 with
 |nil=>exact Zdf query ZPm
 |cons u r=>
  have:=h u (Ji e);rw[ZqM,ZWQ (by simp[this])]
theorem Zpi{ws:List RW}{k:Nat}{t:T}(h:hd ws k=some t):skip t (Zc ws k)=Zc ws (k+1):=by
 rw[XW h,skip,ZWR rfl]
theorem Zph{ws:List RW}{k:Nat}{t:T}(h:hd ws k≠some t):skip t (Zc ws k)=Zc ws k:=by
 cases e:Zc ws k with
 |nil=>rfl
 |cons u r=>rw[skip,ZWQ (fun hu=>h ZPR)]
theorem ZrG{ws:List RW}{k1 k2:Nat}(hk:k1<ws.length){b:Bool}(h:isSet (tok ws[k1])=true)(hb:b=true/\hd ws (k1+1)=some Xl/\k2=k1+2\/b=false/\hd ws (k1+1)≠some Xl/\k2=k1+1):ans (R query) (Zc ws k1)=(ans (P core) (Zc ws k2)).bind (ans (R query)):=by
 rw[Za4 hk,ZqM,ZWR h];rcases hb with⟨_,h1,rfl⟩|⟨_,h1,rfl⟩
 ·rw[Zpi h1]
 ·rw[Zph h1]
theorem ZIH(Pb:Nat)(ws:List RW)(k:Nat)(W:World)(hP:PS Pb ws k W)(hq:Xp Pb ws 93 core k):
  Calls prog 92 #[.func (.func 93) #[.pointer (some ⟨Pb,0,none⟩)] #[],.func (.func 94) #[.pointer (some ⟨Pb,0,none⟩)] #[],.func (.func 95) #[] #[]] W (YR Pb ws k (ans (P query) (Zc ws k)) (Part Pb ws query k W.heap.size) W):=by
 have hok:=hP.ok;go_enter func92,ntmps92;go_wp2_with fail;refine(hq k W (ZWS _) hP).mono ?_;rintro e w1 (⟨k1,x,hle,hA,rfl,⟨t,hD,hR⟩,hP1,hK1⟩|⟨hA,hb⟩)
 ·obtain⟨n,y,rfl⟩:=hR.iface;have hA1:Hid (ans (P query) (Zc ws k)=ans (R query) (Zc ws k1)):=by show _=_;rw[Zq1,hA,Option.bind_some]
  clear hA;go_wp2_with fail;refine(ZvA Pb ws k1 _ hP1).mono ?_;rintro e w2 ⟨k2,s,rfl,hs,hP2,hK2⟩;have HS:Hid (SgQ ws k1 k2 s):=hs;clear hs;have HD:Hid (D query (sl ws k k1) t):=.Kt hD;clear hD;have ZcC:=hP2.le;go_wp2_with fail;go_loopg [7,8] (ws.length-k2+1) (fun gk lv sv wr=>∃(k1 k2:Nat) (t:Tr) (n:Nat) (y:Value) (s:Za),gk=ws.length-k2+1/\k2<=ws.length/\k<=k1/\lv= .iface n y/\sv= .string ⟨s.toArray⟩/\Hid (D query (sl ws k k1) t)/\Zl Pb W.heap.size wr (.v (.iface n y)) t/\Hid (ans (P query) (Zc ws k)=ans (R query) (Zc ws k1))/\Hid (SgQ ws k1 k2 s)/\PS Pb ws k2 wr/\Zb Pb W wr);case atStart=>exact⟨k1,k2,t,n,y,s,rfl,ZcC,hle,rfl,rfl,HD,hR.keep hK2,hA1,HS,hP2,hK1.trans hK2⟩
  case round=>
   obtain⟨k1,k2,t,n,y,s,rfl,hl2,hle,rfl,rfl,HD,hR,hA1,HS,hP2,hK⟩:=hrel;rcases HS.out with⟨hk1,b,hp,hs,hne,hin,hb⟩|⟨hno,rfl,rfl⟩
   ·have hne':(s== [])=false:=by simpa using hne
    have HX:Hid (s=(ws[k1]).text++Zme b/\isSet (tok ws[k1])=true/\(ws[k1]).text∈UK):=⟨hs,hp,hin⟩;have HB:Hid (b=true/\hd ws (k1+1)=some Xl/\k2=k1+2\/b=false/\hd ws (k1+1)≠some Xl/\k2=k1+1):=hb;have ZOd:k1+1<=k2:=by rcases hb with⟨_,_,h⟩|⟨_,_,h⟩<;>omega
    clear HS hs hp hne hin hb;go_wp2_with fail;refine(hq k2 wr U hP2).mono ?_;rintro e w3 (⟨k3,x,hle3,hA3,rfl,⟨t3,hD3,XP⟩,hP3,hK3⟩|⟨hA3,hbad⟩)
    ·obtain⟨n3,y3,rfl⟩:=XP.iface;have ZbB:=ZgS hA3;go_wp2_with fail;refine(ZIZ n n3 y y3 s _).mono ?_;rintro e w4 ⟨rfl,hB4⟩;have YP:=hP3.keep hB4;have hK4:=(hK.trans hK3).trans (Zb.of Pb hB4);go_wp2_with fail;refine(ZvA Pb ws k3 _ YP).mono ?_;rintro e w5 ⟨k5,s5,rfl,hs5,Xy,Yg⟩;have HS5:Hid (SgQ ws k3 k5 s5):=hs5;have hk5:k3<=k5:=by
      rcases hs5 with⟨_,_,_,_,_,_,⟨_,_,h⟩|⟨_,_,h⟩⟩|⟨_,h,_⟩<;>omega
     clear hs5;have hl5:=Xy.le;have HR5:Hid (Zl Pb W.heap.size w5 (.v (.iface 205 (.agg #[.iface n y,.string ⟨s.toArray⟩,.iface n3 y3]))) (nd {kind:=(ws[k1]).text,all:=b} (l2 t t3))):=by
      show Zl _ _ _ _ _;rw[HX.out.1];exact Zl.joined HX.out.2.2 (hR.keep ((hK3.trans (Zb.of Pb hB4)).trans Yg)) ((XP.low hK.size).keep ((Zb.of Pb hB4).trans Yg))
     have XL:Hid (ans (P query) (Zc ws k)=ans (R query) (Zc ws k3)):=by
      show _=_;rw[hA1.out,ZrG hk1 HX.out.2.1 HB.out,hA3,Option.bind_some]
     have HD5:Hid (D query (sl ws k k3) (nd {kind:=(ws[k1]).text,all:=b} (l2 t t3))):=by
      show D _ _ _;rw[QR ws (show k<=k1 by omega) (show k1<=k3 by omega),Yj hk1 U];rcases HB.out with⟨rfl,h1,rfl⟩|⟨rfl,h1,rfl⟩
      ·have hl1:=Yu h1;rw[Yj hl1 U];exact .Kv HX.out.2.1 (Yc h1 hl1) HD.out hD3
      ·exact .Ku HX.out.2.1 HD.out hD3
     clear hA3 hD3 HD hA1 hR XP;go_wp2_with fail;go_roundg (ws.length-k5+1);case measure=>omega
     case rel=>exact ZT1
    ·have hb':=QM.of hK hbad;obtain⟨b,rfl,h1,h2,h3⟩:=hb';have HA:Hid (ans (P query) (Zc ws k)=none):=by show _=_;rw[hA1.out,ZrG hk1 HX.out.2.1 HB.out,hA3];rfl
     exact ZSR
   ·have HA:Hid (ans (P query) (Zc ws k)=some (Zc ws k2)):=by show _=_;rw[hA1.out,ZA6 hno]
    exact ZSQ
 ·obtain⟨b,rfl,h1,h2,h3⟩:=hb;go_wp2;exact⟨rfl,.inr ⟨by rw[Zq1,hA];rfl,b,rfl,h1,h2,h3⟩⟩
theorem ZIY(Pb:Nat)(ws:List RW)(k:Nat)(W:World)(hP:PS Pb ws k W)(hq:Xp Pb ws 93 core k):
  Calls prog 64 #[.pointer (some ⟨Pb,0,none⟩)] W (YR Pb ws k (ans (P query) (Zc ws k)) (Part Pb ws query k W.heap.size) W):=by
 have Xi:∀(fn:Fn) (first cap:Array Value) (w:World),(Instr.makeFunc fn first cap).run prog w= .ok (.func fn first cap) w:=fun _ _ _ _=>rfl;go_enter func64,ntmps64;go_wp2_with fail;refine(ZIH Pb ws k _ hP hq).mono ?_;rintro e w2 (⟨k',x,hle,hA,rfl,⟨t,hD,hR⟩,hP2,hK2⟩|⟨hA,b,rfl,h1,h2,h3⟩)
 ·obtain⟨n,y,rfl⟩:=hR.iface;have HA:Hid (ans (P query) (Zc ws k)=some (Zc ws k')):=hA;clear hA;go_wp2_with fail;go_ret;exact .inl ⟨k',_,hle,HA.out,rfl,⟨t,hD,hR⟩,hP2,hK2⟩
 ·have HA:Hid (ans (P query) (Zc ws k)=none):=hA;exact ZSU
end
section
open T NT PK
theorem Ee(Pb:Nat)(ws:List RW)(k:Nat)(s:Za)(t:T)(W:World)(hP:PS Pb ws k W)(hs:spells s t=true):
  Calls prog 142 #[.pointer (some ⟨Pb,0,none⟩),.string ⟨s.toArray⟩] W fun e w'=>Zb Pb W w'/\((hd ws k=some t/\e= .returned (.bool true)/\PS Pb ws (k+1) w')\/(hd ws k≠some t/\e= .returned (.bool false)/\PS Pb ws k w')):=by
 refine(Zoz Pb ws k s W hP (ZwA hs)).mono ?_;rintro e w1 ⟨hK,⟨hf,_,rfl,hP1⟩|⟨hf,rfl,hP1⟩⟩
 ·rw[JG hs hP.ok,ZXw]at hf;exact⟨hK,.inl ⟨hf,rfl,hP1⟩⟩
 ·rw[JG hs hP.ok,ZYl]at hf;exact⟨hK,.inr ⟨hf,rfl,hP1⟩⟩
theorem ZcS(Pb:Nat)(ws:List RW)(k:Nat)(s:Za)(t:T)(W:World)(hP:PS Pb ws k W)(hs:spells s t=true):
  Calls prog 180 #[.pointer (some ⟨Pb,0,none⟩),.string ⟨s.toArray⟩] W fun e w'=>(hd ws k=some t/\e= .returned (.tuple #[])/\PS Pb ws (k+1) w'/\Zb Pb W w')\/(hd ws k≠some t/\QM Pb W e w'):=by
 refine(ZeP Pb ws k s W hP (ZwA hs)).mono ?_;rintro e w1 (⟨hf,_,rfl,hP1,hK⟩|⟨hf,hb⟩)
 ·rw[JG hs hP.ok,ZXw]at hf;exact .inl ⟨hf,rfl,hP1,hK⟩
 ·rw[JG hs hP.ok,ZYl]at hf;exact .inr ⟨hf,hb⟩
theorem ZvE(Pb:Nat)(ws:List RW)(k S cap:Nat)(ss:List Za)(p:T->Bool)(W:World)(hP:PS Pb ws k W)(hT:VA W S ss)(hl:ss.length<=400)(hK:∀x∈YE.map Prod.fst,ss.contains x=p (Je x))(hS:∀x∈Y0.map Prod.fst,ss.contains x=p (Vt x))(hn:p name=false)(ZDZ:p lit=false)(h0:ss.contains []=false):
  Calls prog 141 #[.pointer (some ⟨Pb,0,none⟩),.slice (some ⟨S,0,none⟩) ss.length cap] W fun e w'=>∃k2 s,e= .returned (.string ⟨s.toArray⟩)/\Sg ws p k k2 s/\PS Pb ws k2 w'/\Zb Pb W w':=
 (ZkS Pb ws k S cap ss W hP hT hl).mono fun _ _ h=>ZbU p hK hS hn ZDZ h0 hP.ok h
theorem PS.own{Pb:Nat}{ws:List RW}{k:Nat}{W w:World}(h:PS Pb ws k w)(hK:Zb Pb W w){b:Nat}(hb:W.heap.size<=b)(ZC:Pb<W.heap.size){v0:Value}(hc:w.cell? ⟨b,0,none⟩=some v0)(hv:∀n,v0≠.int .i64 n)(o:Nat)(v:Value):PS Pb ws k (w.setCell ⟨b,o,none⟩ v)/\Zb Pb W (w.setCell ⟨b,o,none⟩ v):=
 ⟨h.other U hc hv o v,hK.ER hb o v⟩
theorem ZkT(Pb:Nat)(ws:List RW)(k:Nat)(W:World)(hP:PS Pb ws k W)(hq:Xp Pb ws 64 query (k+1)):
  Calls prog 300 #[.pointer (some ⟨Pb,0,none⟩)] W (YR Pb ws k (ans (round query) (Zc ws k)) (fun k' x w'=>∃n y,x= .agg #[.iface n y]/\Zbi Pb ws query k W.heap.size k' (.iface n y) w') W):=by
 have Xi:∀(fn:Fn) (first cap:Array Value) (w:World),(Instr.makeFunc fn first cap).run prog w= .ok (.func fn first cap) w:=fun _ _ _ _=>rfl;go_enter func300,ntmps300;go_wp2_with fail;refine(ZvD Pb ws k _ (hP.keep (ZO _)) hq).mono ?_;rintro e w2 (⟨k',x,hle,hA,rfl,hQ,hP2,hK2⟩|⟨hA,b,rfl,h1,h2,h3⟩)
 ·have HA:Hid (ans (round query) (Zc ws k)=some (Zc ws k')):=hA;clear hA;obtain⟨m,t,q1,q2,q3,q4,q5,hR⟩:=hQ;obtain⟨n,y,rfl⟩:=hR.iface;have hc:W.heap.size<w2.heap.size:=ZXi ZPm hK2.size;have ZC:=hP.lt;have hblk:=hK2.obj (g:=W.heap.size) U (ZWV W _);have c0:w2.cell? ⟨W.heap.size,0,none⟩=some .nilIface:=by simp[World.cell?,hblk]
  have f0:w2.frozen? ⟨W.heap.size,0,none⟩=false:=by simp[World.frozen?,hblk]
  go_wp2_with fail;obtain⟨hP3,hK3⟩:=hP2.own ((Zb.alloc Pb _ _).trans hK2) (ZWS _) ZC c0 ZP1 0 (.iface n y);refine ZW4 (v:=.agg #[.iface n y]) (by simp[results,Tryz.results300,go_sem,c0]) rfl (.inl ⟨k',_,hle,HA.out,rfl,⟨n,y,rfl,m,t,q1,q2,q3,q4,q5,?_⟩,hP3,hK3⟩);exact(hR.JX ZPm 0 _).low ZPm
 ·have HA:Hid (ans (round query) (Zc ws k)=none):=hA;exact ZST
def EW(Pb:Nat)(ws:List RW)(k0 n0 k':Nat)(x:Value)(w':World):Prop:=∃t,D basic (sl ws k0 k') t/\Zl Pb n0 w' (.v x) t
theorem ZzI{u:T}{r:List T}(h:XI u=true):ans PK.ask (cmp::u::r)=ans (round query) r:=by
 cases u<;>first|exact absurd h ZPl|exact Zzj r|exact Zzi r
theorem ZIL(Pb:Nat)(ws:List RW)(k0 k n0:Nat)(W:World)(hP:PS Pb ws (k+1) W)(n:Nat)(y:Value)(t:Tr)(hk:k<ws.length)(hc:tok ws[k]=cmp)(hD:D expr (sl ws k0 k) t)(hR:Zl Pb n0 W (.v (.iface n y)) t)(hk0:k0<=k)(hn0:n0<=W.heap.size)
  (he:Xp Pb ws 229 expr (k+1))(hq:Xp Pb ws 64 query (k+1)):
  Calls prog 307 #[.pointer (some ⟨Pb,0,none⟩),.iface n y,.string ⟨(ws[k]).text.toArray⟩] W (YR Pb ws k (ans PK.ask (cmp::Zc ws (k+1))) (EW Pb ws k0 n0) W):=by
 have hok:=hP.ok;generalize hx:(ws[k]).text=sx;have HX:Hid ((ws[k]).text=sx):=hx;clear hx;have HC:Hid (tok ws[k]=cmp):=hc;clear hc;go_enter func307,ntmps307;go_wp2_with fail;refine(ZvE Pb ws (k+1) W.heap.size 2 ZcE XI _ (hP.keep (ZO _)) (ZbY W ZcE) ZPl ZPl ZPl ZPl ZPl ZPl).mono ?_;rintro e w1 ⟨k2,s,rfl,hs,hP1,hK1⟩;have hK1:Zb Pb W w1:=(Zb.alloc Pb _ _).trans hK1;rcases hs with⟨hk1,hp,rfl,hs,hne⟩|⟨hno,rfl,rfl⟩
 ·have hne':(s== [])=false:=by simpa using hne
  have HY:Hid (XI (tok ws[k+1])=true/\s=(ws[k+1]).text):=⟨hp,hs⟩;have Zt:Hid (ans PK.ask (cmp::Zc ws (k+1))=ans (round query) (Zc ws (k+2))):=by show _=_;rw[Za4 hk1,ZzI hp]
  clear hs hp hne;go_wp2_with fail;refine(ZkT Pb ws (k+2) _ hP1 (hq.mono U)).mono ?_;rintro e w2 (⟨k',x,hle,hA,rfl,⟨n2,y2,rfl,hQ⟩,hP2,hK2⟩|⟨hA,b,rfl,h1,h2,h3⟩)
  ·have HA:Hid (ans PK.ask (cmp::Zc ws (k+1))=some (Zc ws k')):=Zt.out.trans hA;have HR:Hid (EW Pb ws k0 n0 k' (.iface 341 (.agg #[.iface n2 y2,.iface n y,.string ⟨sx.toArray⟩,.string ⟨s.toArray⟩])) w2):=by
    obtain⟨o,c,a,t2,h1,h2,h3,h4,h5⟩:=hQ.split;refine⟨nd {kind:=s,sign:=sx} (l2 t t2),?_,Zl.Zgk ?_ (hR.keep (hK1.trans hK2)) (h5.low (ZW0 hn0 hK1.size))⟩
    ·rw[QR ws hk0 (show k<=k' by omega),Yj hk U,Yj hk1 U,h3,HY.out.2,<-HX.out];exact .QX HC.out HY.out.1 h1 h2 hD h4
    ·rw[HY.out.2];exact ZdR (p:=XI) (hok _ (ZWX hk1)) HY.out.1 ZPl ZPl ZPl ZPl
   clear hA Zt hQ;exact ZUD
  ·exact ZUW
 ·have Zt:Hid (ans PK.ask (cmp::Zc ws (k+1))=ans (P expr) (Zc ws (k+1))):=Zzk _ (fun u r' e=>hno u (Ji e));clear hno;go_wp2_with fail;refine(he (k+1) w1 (ZWS _) hP1).mono ?_;rintro e w2 (⟨k',x,hle,hA,rfl,⟨t2,hD2,hR2⟩,hP2,hK2⟩|⟨hA,b,rfl,h1,h2,h3⟩)
  ·obtain⟨n2,y2,rfl⟩:=hR2.iface;have HA:Hid (ans PK.ask (cmp::Zc ws (k+1))=some (Zc ws k')):=Zt.out.trans hA;have HR:Hid (EW Pb ws k0 n0 k' (.iface 322 (.agg #[.iface n y,.string ⟨sx.toArray⟩,.iface n2 y2])) w2):=by
    refine⟨nd {kind:= [99,111,109,112,97,114,101],sign:=sx} (l2 t t2),?_,Zl.compare (hR.keep (hK1.trans hK2)) (hR2.low (ZW0 hn0 hK1.size))⟩;rw[QR ws hk0 (show k<=k' by omega),Yj hk U,<-HX.out];exact .J9 HC.out hD hD2
   clear hA Zt;exact ZUD
  ·exact ZUW
end
section
open T NT PK
def ZrP:List Za:= [[61], [60,62], [60], [60,61], [62], [62,61]]
theorem ZzM{Pb:Nat}{ws:List RW}{k0 k n0:Nat}{w':World}{n:Nat}{y:Value}{t:Tr}(hD:D expr (sl ws k0 k) t)(hR:Zl Pb n0 w' (.v (.iface n y)) t)(hk0:k0<=k)(h1:hd ws k=some Qe)(h2:hd ws (k+1)=some null):EW Pb ws k0 n0 (k+2) (.iface 325 (.agg #[.iface n y,.bool false])) w':=by
 have l1:=Yu h1;have l2:=Yu h2;refine⟨_,?_,Zl.isNull hR⟩;rw[QR ws hk0 (show k<=k+2 by omega),Yj l1 U,Zak l2];exact .VF (Yc h1 l1) (Yc h2 l2) hD
theorem ZzL{Pb:Nat}{ws:List RW}{k0 k n0:Nat}{w':World}{n:Nat}{y:Value}{t:Tr}(hD:D expr (sl ws k0 k) t)(hR:Zl Pb n0 w' (.v (.iface n y)) t)(hk0:k0<=k)(h1:hd ws k=some Qe)(h2:hd ws (k+1)=some T.not_)(h3:hd ws (k+2)=some null):EW Pb ws k0 n0 (k+3) (.iface 325 (.agg #[.iface n y,.bool true])) w':=by
 have l1:=Yu h1;have l2:=Yu h2;have l3:=Yu h3;refine⟨_,?_,Zl.isNull hR⟩;rw[QR ws hk0 (show k<=k+3 by omega),Yj l1 U,Yj l2 U,Zak l3];exact .VE (Yc h1 l1) (Yc h2 l2) (Yc h3 l3) hD
theorem ZzJ{Pb:Nat}{ws:List RW}{k0 k n0 k':Nat}{w':World}{n n2:Nat}{y y2:Value}{t:Tr}(hD:D expr (sl ws k0 k) t)(hR:Zl Pb n0 w' (.v (.iface n y)) t)(hk0:k0<=k)(h1:hd ws k=some T.Yt)(hle:k+1<=k')(hQ:Zbi Pb ws query (k+1) n0 k' (.iface n2 y2) w'):EW Pb ws k0 n0 k' (.iface 338 (.agg #[.iface n2 y2,.iface n y,.bool false])) w':=by
 have l1:=Yu h1;obtain⟨o,c,a,t2,e1,e2,e3,e4,e5⟩:=hQ.split;refine⟨_,?_,Zl.Yt hR e5⟩;rw[QR ws hk0 (show k<=k' by omega),Yj l1 U,e3];exact .VC (Yc h1 l1) e1 e2 hD e4
theorem ZzK{Pb:Nat}{ws:List RW}{k0 k n0 k':Nat}{w':World}{n n2:Nat}{y y2:Value}{t:Tr}(hD:D expr (sl ws k0 k) t)(hR:Zl Pb n0 w' (.v (.iface n y)) t)(hk0:k0<=k)(h1:hd ws k=some T.not_)(h2:hd ws (k+1)=some T.Yt)(hle:k+2<=k')(hQ:Zbi Pb ws query (k+2) n0 k' (.iface n2 y2) w'):EW Pb ws k0 n0 k' (.iface 338 (.agg #[.iface n2 y2,.iface n y,.bool true])) w':=by
 have l1:=Yu h1;have l2:=Yu h2;obtain⟨o,c,a,t2,e1,e2,e3,e4,e5⟩:=hQ.split;refine⟨_,?_,Zl.Yt hR e5⟩;rw[QR ws hk0 (show k<=k' by omega),Yj l1 U,Yj l2 U,e3];exact .VD (Yc h1 l1) (Yc h2 l2) e1 e2 hD e4
theorem Zbi.low{Pb:Nat}{ws:List RW}{nt:NT}{k n0 n1 k':Nat}{x:Value}{w':World}(h:Zbi Pb ws nt k n0 k' x w')(hn:n1<=n0):Zbi Pb ws nt k n1 k' x w':=by
 obtain⟨m,t,h1,h2,h3,h4,h5,h6⟩:=h;exact⟨m,t,h1,h2,h3,h4,h5,h6.low hn⟩
theorem ZI0(Pb:Nat)(ws:List RW)(k0 k n0:Nat)(W:World)(hP:PS Pb ws k W)(n:Nat)(y:Value)(t:Tr)(hD:D expr (sl ws k0 k) t)(hR:Zl Pb n0 W (.v (.iface n y)) t)(hk0:k0<=k)(hn0:n0<=W.heap.size)
  (he:Xp Pb ws 229 expr (k+1))(hq:Xp Pb ws 64 query (k+1)):
  Calls prog 303 #[.pointer (some ⟨Pb,0,none⟩),.iface n y] W (YR Pb ws k (ans PK.ask (Zc ws k)) (EW Pb ws k0 n0) W):=by
 have hok:=hP.ok;go_enter func303,ntmps303;go_wp2_with fail;refine(Ee Pb ws k [105,115] Qe _ hP ZPl).mono ?_;rintro e w1 ⟨hK1,⟨hi,rfl,hP1⟩|⟨hi,rfl,hP1⟩⟩
 ·have Hi:Hid (hd ws k=some Qe):=hi;clear hi;go_wp2_with fail;refine(Ee Pb ws (k+1) [110,111,116] not_ _ hP1 ZPl).mono ?_;rintro e w2 ⟨hK2,⟨hn,rfl,hP2⟩|⟨hn,rfl,hP2⟩⟩
  ·have Hn:Hid (hd ws (k+1)=some not_):=hn;clear hn;go_wp2_with fail;refine(ZcS Pb ws (k+2) [110,117,108,108] null _ hP2 ZPl).mono ?_;rintro e w3 (⟨hl,rfl,hP3,hK3⟩|⟨hl,b,rfl,h1,h2,h3⟩)
   ·have XP:=hR.keep ((hK1.trans hK2).trans hK3);have HQ:Hid (EW Pb ws k0 n0 (k+3) (.iface 325 (.agg #[.iface n y,.bool true])) w3):=ZzL hD XP hk0 Hi.out Hn.out hl;have HA:Hid (ans PK.ask (Zc ws k)=some (Zc ws (k+3))):=by show _=_;rw[XW Hi.out,XW Hn.out,ZqR,Um hl]
    clear hl;go_wp2_with fail;go_ret;exact .inl ⟨k+3,_,U,HA.out,rfl,HQ.out,hP3,(hK1.trans hK2).trans hK3⟩
   ·have HA:Hid (ans PK.ask (Zc ws k)=none):=by show _=_;rw[XW Hi.out,XW Hn.out,ZqR,KW hl]
    exact ZSX
  ·have Hn:Hid (hd ws (k+1)≠some not_):=hn;clear hn;go_wp2_with fail;refine(ZcS Pb ws (k+1) [110,117,108,108] null _ hP2 ZPl).mono ?_;rintro e w3 (⟨hl,rfl,hP3,hK3⟩|⟨hl,b,rfl,h1,h2,h3⟩)
   ·have XP:=hR.keep ((hK1.trans hK2).trans hK3);have HQ:Hid (EW Pb ws k0 n0 (k+2) (.iface 325 (.agg #[.iface n y,.bool false])) w3):=ZzM hD XP hk0 Hi.out hl;have HA:Hid (ans PK.ask (Zc ws k)=some (Zc ws (k+2))):=by show _=_;rw[XW Hi.out,ZqQ _ (Zlh Hn.out),Um hl]
    clear hl;go_wp2_with fail;go_ret;exact .inl ⟨k+2,_,U,HA.out,rfl,HQ.out,hP3,(hK1.trans hK2).trans hK3⟩
   ·have HA:Hid (ans PK.ask (Zc ws k)=none):=by show _=_;rw[XW Hi.out,ZqQ _ (Zlh Hn.out),KW hl]
    exact ZSX
 ·have Hi:Hid (hd ws k≠some Qe):=hi;clear hi;go_wp2_with fail;refine(ZvE Pb ws k w1.heap.size 6 ZrP (·==cmp) _ (hP1.keep (ZO _)) (ZbY w1 ZrP) ZPl ZPl ZPl ZPl ZPl ZPl).mono ?_;rintro e w2 ⟨k2,s,rfl,hs,hP2,hK2⟩;have hK2:Zb Pb W w2:=hK1.trans ((Zb.alloc Pb _ _).trans hK2);rcases hs with⟨hk1,hp,rfl,hs,hne⟩|⟨hno,rfl,rfl⟩
  ·have hne':(s== [])=false:=by simpa using hne
   have hcm:tok ws[k]=cmp:=by simpa using hp
   have hcall:=ZIL Pb ws k0 k n0 w2 hP2 n y t hk1 hcm hD (hR.keep hK2) hk0 (ZW0 hn0 hK2.size) he hq;rw[<-hs]at hcall;have Zt:Hid (ans PK.ask (Zc ws k)=ans PK.ask (cmp::Zc ws (k+1))):=by show _=_;rw[Za4 hk1,hcm]
   clear hs hp hne hcm;go_wp2_with fail;refine hcall.mono ?_;rintro e w3 (⟨k',x,hle,hA,rfl,hQ,hP3,hK3⟩|⟨hA,b,rfl,h1,h2,h3⟩)
   ·obtain⟨n3,y3,rfl⟩:∃n y,x= .iface n y:=by obtain⟨_,_,hR⟩:=hQ;exact hR.iface
    have HA:Hid (ans PK.ask (Zc ws k)=some (Zc ws k')):=Zt.out.trans hA;clear hA Zt;go_wp2_with fail;go_ret;exact .inl ⟨k',_,hle,HA.out,rfl,hQ,hP3,hK2.trans hK3⟩
   ·have HA:Hid (ans PK.ask (Zc ws k)=none):=Zt.out.trans hA;exact ZSN
  ·have Hno:Hid (hd ws k2≠some cmp):=fun e=>by have:=hno _ e;simp at this
   clear hno;go_wp2_with fail;refine(Ee Pb ws k2 [110,111,116] not_ _ hP2 ZPl).mono ?_;rintro e w3 ⟨hK3,⟨hn,rfl,hP3⟩|⟨hn,rfl,hP3⟩⟩
   ·have Hn:Hid (hd ws k2=some not_):=hn;clear hn;go_wp2_with fail;refine(ZcS Pb ws (k2+1) [105,110] T.Yt _ hP3 ZPl).mono ?_;rintro e w4 (⟨hl,rfl,YP,hK4⟩|⟨hl,b,rfl,h1,h2,h3⟩)
    ·have Hl:Hid (hd ws (k2+1)=some T.Yt):=hl;have Zt:Hid (ans PK.ask (Zc ws k2)=ans (round query) (Zc ws (k2+2))):=by show _=_;rw[XW Hn.out,ZqS,Um hl,Option.bind_some]
     clear hl;go_wp2_with fail;refine(ZkT Pb ws (k2+2) _ YP (hq.mono U)).mono ?_;rintro e w5 (⟨k',x,hle,hA,rfl,⟨n2,y2,rfl,hQ⟩,Xy,Yg⟩|⟨hA,b,rfl,h1,h2,h3⟩)
     ·have HA:Hid (ans PK.ask (Zc ws k2)=some (Zc ws k')):=Zt.out.trans hA;have hKK:=((hK2.trans hK3).trans hK4);have HQ:Hid (EW Pb ws k0 n0 k' (.iface 338 (.agg #[.iface n2 y2,.iface n y,.bool true])) w5):=ZzK hD (hR.keep (hKK.trans Yg)) hk0 Hn.out Hl.out hle (hQ.low (ZW0 hn0 hKK.size));clear hA Zt hQ;exact ZUC
     ·have HA:Hid (ans PK.ask (Zc ws k2)=none):=Zt.out.trans hA;clear hA Zt;exact ZUr
    ·have HA:Hid (ans PK.ask (Zc ws k2)=none):=by show _=_;rw[XW Hn.out,ZqS,KW hl];rfl
     clear hl;exact ZUs
   ·have HE:Hid (ans PK.ask (Zc ws k2)=(Zz T.Yt (Zc ws k2)).bind (ans (round query))):=by
     refine Zzl _ (fun u r e=>?_);have:=Ji e;exact⟨fun h=>Hi.out (by rw[this,h]),fun h=>Hno.out (by rw[this,h]),fun h=>hn (by rw[this,h])⟩
    clear hn;go_wp2_with fail;refine(ZcS Pb ws k2 [105,110] T.Yt _ hP3 ZPl).mono ?_;rintro e w4 (⟨hl,rfl,YP,hK4⟩|⟨hl,b,rfl,h1,h2,h3⟩)
    ·have Hl:Hid (hd ws k2=some T.Yt):=hl;have Zt:Hid (ans PK.ask (Zc ws k2)=ans (round query) (Zc ws (k2+1))):=by show _=_;rw[HE.out,Um hl,Option.bind_some]
     clear hl;go_wp2_with fail;refine(ZkT Pb ws (k2+1) _ YP (hq.mono U)).mono ?_;rintro e w5 (⟨k',x,hle,hA,rfl,⟨n2,y2,rfl,hQ⟩,Xy,Yg⟩|⟨hA,b,rfl,h1,h2,h3⟩)
     ·have HA:Hid (ans PK.ask (Zc ws k2)=some (Zc ws k')):=Zt.out.trans hA;have hKK:=((hK2.trans hK3).trans hK4);have HQ:Hid (EW Pb ws k0 n0 k' (.iface 338 (.agg #[.iface n2 y2,.iface n y,.bool false])) w5):=ZzJ hD (hR.keep (hKK.trans Yg)) hk0 Hl.out hle (hQ.low (ZW0 hn0 hKK.size));clear hA Zt hQ HE;exact ZUC
     ·have HA:Hid (ans PK.ask (Zc ws k2)=none):=Zt.out.trans hA;clear hA Zt HE;exact ZUr
    ·have HA:Hid (ans PK.ask (Zc ws k2)=none):=by show _=_;rw[HE.out,KW hl];rfl
     clear hl HE;exact ZUs
theorem ZIC(Pb:Nat)(ws:List RW)(k:Nat)(W:World)(hP:PS Pb ws k W)(he:Xp Pb ws 229 expr k)(hc:Xp Pb ws 185 cnd (k+1))(hq:Xp Pb ws 64 query (k+1)):
  Calls prog 287 #[.pointer (some ⟨Pb,0,none⟩)] W (YR Pb ws k (ans (P basic) (Zc ws k)) (Part Pb ws basic k W.heap.size) W):=by
 have Xi:∀(fn:Fn) (first cap:Array Value) (w:World),(Instr.makeFunc fn first cap).run prog w= .ok (.func fn first cap) w:=fun _ _ _ _=>rfl;have hok:=hP.ok;go_enter func287,ntmps287;go_wp2_with fail;refine(Ee Pb ws k [101,120,105,115,116,115] T.Xu _ hP ZPl).mono ?_;rintro e w1 ⟨hK1,⟨hi,rfl,hP1⟩|⟨hi,rfl,hP1⟩⟩
 ·have Hi:Hid (hd ws k=some T.Xu):=hi;have Zt:Hid (ans (P basic) (Zc ws k)=ans (round query) (Zc ws (k+1))):=by show _=_;rw[XW hi,Zzn]
  clear hi;go_wp2_with fail;refine(ZkT Pb ws (k+1) _ hP1 (hq.mono U)).mono ?_;rintro e w5 (⟨k',x,hle,hA,rfl,⟨n2,y2,rfl,hQ⟩,Xy,Yg⟩|⟨hA,b,rfl,h1,h2,h3⟩)
  ·have HA:Hid (ans (P basic) (Zc ws k)=some (Zc ws k')):=Zt.out.trans hA;have HQ:Hid (Part Pb ws basic k W.heap.size k' (.iface 335 (.agg #[.iface n2 y2])) w5):=by
    have l1:=Yu Hi.out;obtain⟨o,c,a,t2,e1,e2,e3,e4,e5⟩:=hQ.split;refine⟨_,?_,Zl.Xu (e5.low hK1.size)⟩;rw[Yj l1 U,e3];exact .VB (Yc Hi.out l1) e1 e2 e4
   clear hA Zt hQ;go_wp2_with fail;go_ret;exact .inl ⟨k',_,U,HA.out,rfl,HQ.out,Xy,hK1.trans Yg⟩
  ·have HA:Hid (ans (P basic) (Zc ws k)=none):=Zt.out.trans hA;exact ZSM
 ·have HE:Hid (ans (P basic) (Zc ws k)=if YX 0 (Zc ws k)then ans (round cnd) (Zc ws k)else(ans (P expr) (Zc ws k)).bind (ans PK.ask)):=Zzm _ (Zlh hi);clear hi;go_wp2_with fail;refine(ZIX Pb ws k _ hP1).mono ?_;rintro e w2 ⟨rfl,hB2⟩;have hP2:=hP1.keep hB2;have hK2:=hK1.trans (Zb.of Pb hB2);change Hid (ans (P basic) (Zc ws k)=if YX 0 ((ws.drop k).map tok)then ans (round cnd) (Zc ws k)else(ans (P expr) (Zc ws k)).bind (ans PK.ask))at HE;cases ho:YX 0 ((ws.drop k).map tok)with
  |true=>
   have Zt:Hid (ans (P basic) (Zc ws k)=ans (round cnd) (Zc ws k)):=by show _=_;rw[HE.out,ho];rfl
   clear HE;go_wp2_with fail;refine(ZI2 Pb ws k _ hP2 hc).mono ?_;rintro e w5 (⟨k',x,hle,hA,rfl,hQ,Xy,Yg⟩|⟨hA,b,rfl,h1,h2,h3⟩)
   ·obtain⟨o,c,a,t2,e1,e2,e3,e4,e5⟩:=hQ.split;obtain⟨n2,y2,rfl⟩:=e5.iface;have HA:Hid (ans (P basic) (Zc ws k)=some (Zc ws k')):=Zt.out.trans hA;have HQ:Hid (Part Pb ws basic k W.heap.size k' (.iface n2 y2) w5):=by
     refine⟨_,?_,e5.low hK2.size⟩;rw[e3];exact .VG e1 e2 e4
    clear hA Zt hQ e3;go_wp2_with fail;go_ret;exact .inl ⟨k',_,U,HA.out,rfl,HQ.out,Xy,hK2.trans Yg⟩
   ·have HA:Hid (ans (P basic) (Zc ws k)=none):=Zt.out.trans hA;exact ZSN
  |false=>
   have Zt:Hid (ans (P basic) (Zc ws k)=(ans (P expr) (Zc ws k)).bind (ans PK.ask)):=by show _=_;rw[HE.out,ho];rfl
   clear HE;go_wp2_with fail;refine(he k _ (ZWS _) hP2).mono ?_;rintro e w3 (⟨k1,x,hle,hA,rfl,⟨t,hD,hR⟩,hP3,hK3⟩|⟨hA,b,rfl,h1,h2,h3⟩)
   ·obtain⟨n,y,rfl⟩:=hR.iface;have HA1:Hid (ans (P basic) (Zc ws k)=ans PK.ask (Zc ws k1)):=by show _=_;rw[Zt.out,hA,Option.bind_some]
    clear hA Zt;have Zng:=hK2.trans hK3;go_wp2_with fail;refine(ZI0 Pb ws k k1 W.heap.size _ hP3 n y t hD (hR.low hK2.size) hle Zng.size (he.mono U) (hq.mono U)).mono ?_;rintro e w4 (⟨k',x,hle2,hA,rfl,⟨t2,hD2,hR2⟩,YP,hK4⟩|⟨hA,b,rfl,h1,h2,h3⟩)
    ·obtain⟨n2,y2,rfl⟩:=hR2.iface;have HA:Hid (ans (P basic) (Zc ws k)=some (Zc ws k')):=HA1.out.trans hA;clear hA HA1;go_wp2_with fail;go_ret;exact .inl ⟨k',_,U,HA.out,rfl,⟨t2,hD2,hR2⟩,YP,Zng.trans hK4⟩
    ·have HA:Hid (ans (P basic) (Zc ws k)=none):=HA1.out.trans hA;clear hA HA1;go_wp2;exact⟨rfl,.inr ⟨HA.out,b,rfl,h1,h2,Zng.trans h3⟩⟩
   ·have HA:Hid (ans (P basic) (Zc ws k)=none):=by show _=_;rw[Zt.out,hA];rfl
    exact ZSN
theorem ZIW(Pb:Nat)(ws:List RW)(k:Nat)(W:World)(hP:PS Pb ws k W)(hn:Xp Pb ws 266 neg (k+1))(hb:Xp Pb ws 287 basic k):
  Calls prog 266 #[.pointer (some ⟨Pb,0,none⟩)] W (YR Pb ws k (ans (P neg) (Zc ws k)) (Part Pb ws neg k W.heap.size) W):=by
 go_enter func266,ntmps266;go_wp2_with fail;refine(Ee Pb ws k [110,111,116] T.not_ _ hP ZPl).mono ?_;rintro e w1 ⟨hK1,⟨hi,rfl,hP1⟩|⟨hi,rfl,hP1⟩⟩
 ·have Hi:Hid (hd ws k=some T.not_):=hi;have Zt:Hid (ans (P neg) (Zc ws k)=ans (P neg) (Zc ws (k+1))):=by show _=_;rw[XW hi,ZzA]
  clear hi;go_wp2_with fail;refine(hn (k+1) _ (ZWS _) hP1).mono ?_;rintro e w2 (⟨k',x,hle,hA,rfl,⟨t,hD,hR⟩,hP2,hK2⟩|⟨hA,b,rfl,h1,h2,h3⟩)
  ·obtain⟨n,y,rfl⟩:=hR.iface;have HA:Hid (ans (P neg) (Zc ws k)=some (Zc ws k')):=Zt.out.trans hA;have HQ:Hid (Part Pb ws neg k W.heap.size k' (.iface 315 (.agg #[.iface n y])) w2):=by
    have l1:=Yu Hi.out;refine⟨_,?_,Zl.not_ (hR.low hK1.size)⟩;rw[Yj l1 U];exact .UD (Yc Hi.out l1) hD
   exact ZSP
  ·exact ZUV
 ·have Zt:Hid (ans (P neg) (Zc ws k)=ans (P basic) (Zc ws k)):=Zzz _ (Zlh hi);clear hi;go_wp2_with fail;refine(hb k _ (ZWS _) hP1).mono ?_;rintro e w2 (⟨k',x,hle,hA,rfl,⟨t,hD,hR⟩,hP2,hK2⟩|⟨hA,b,rfl,h1,h2,h3⟩)
  ·obtain⟨n,y,rfl⟩:=hR.iface;have HA:Hid (ans (P neg) (Zc ws k)=some (Zc ws k')):=Zt.out.trans hA;clear hA Zt;go_wp2_with fail;go_ret;exact .inl ⟨k',_,U,HA.out,rfl,⟨t,.UC hD,hR.low hK1.size⟩,hP2,hK1.trans hK2⟩
  ·exact ZUV
end
end Go.Proofs.YthmlacabmlghbaaGreatDoor
