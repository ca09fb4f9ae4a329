import Derived.Test.YthmlacabmlghbaaGreatDoorBgJa30
import Derived.Test.YthmlacabmlghbaaGreatDoorBgJa39
set_option maxRecDepth 100000
set_option maxHeartbeats 8000000
set_option linter.unusedSimpArgs false
set_option linter.unusedVariables false
namespace Go.Proofs.YthmlacabmlghbaaGreatDoor
open Go.Proofs.Tryz
theorem ZUn{p:Prop}(h:p:=by go_wp2;exact⟨rfl,.inl ⟨HN.out,b,rfl,h1,h2,h3⟩⟩):p:=h
open Go.RowKit
section
open T NT PK
theorem ZBz{ws:List RW}{k:Nat}(h1:hd ws k≠some lp)(h2:hd ws k≠some Yk):ans (P core) (Zc ws k)=none:=by
 cases e:Zc ws k with
 |nil=>exact Zzp
 |cons u r=>exact Zzq (fun h=>h1 (by rw[Ji e,h])) (fun h=>h2 (by rw[Ji e,h]))
def St3(Pb:Nat)(ws:List RW)(k:Nat)(W:World)(b:Bool)(wx:World):Prop:=∃k3 c i ti,k<k3/\X0 Pb ws W k3 wx b i (.slice none 0 0) .nilIface (.slice none 0 0) .nilIface/\Zfd Pb (W.heap.size+1) wx c i ti/\Hid (ans (P core) (Zc ws k)=(Zz YA (Zc ws k3)).bind (ans (P tail)))/\
 Hid (∀k' tt,hd ws k3=some YA->k3+1<=k'->D tail (sl ws (k3+1) k') tt->D core (sl ws k k') (XV c b ti tt))
def St6(Pb:Nat)(ws:List RW)(k:Nat)(W:World)(b:Bool)(wx:World):Prop:=∃k6 c i f x ti tf tw,k<k6/\X0 Pb ws W k6 wx b i f x (.slice none 0 0) .nilIface/\Zfd Pb (W.heap.size+1) wx c i ti/\Zfg Pb (W.heap.size+1) wx f tf/\Es Pb (W.heap.size+1) wx x tw/\Hid (ans (P core) (Zc ws k)=Zcf (Zc ws k6))/\
 Hid (∀k' g h,Behind ws k6 k' g h->D core (sl ws k k') (XV c b ti (ZV tf g tw h)))
theorem ZI5(Pb:Nat)(ws:List RW)(k:Nat)(W:World)(hP:PS Pb ws k W)(hlp:hd ws k≠some lp)(he:QW Pb ws 229 expr (k+1))(hc:Xp Pb ws 185 cnd (k+1)):
  Calls prog 140 #[.pointer (some ⟨Pb,0,none⟩)] W (YR Pb ws k (ans (P core) (Zc ws k)) (Part Pb ws core k W.heap.size) W):=by
 have Xi:∀(fn:Fn) (first cap:Array Value) (w:World),(Instr.makeFunc fn first cap).run prog w= .ok (.func fn first cap) w:=fun _ _ _ _=>rfl;have ZC:=hP.lt;have Hlp:Hid (hd ws k≠some lp):=hlp;clear hlp;have hS0:X0 Pb ws W k (W.alloc (.cells #[.bool false,.slice none 0 0,.slice none 0 0,.nilIface,.slice none 0 0,.nilIface] 217)) false (.slice none 0 0) (.slice none 0 0) .nilIface (.slice none 0 0) .nilIface:=⟨hP.keep (ZO _),Zb.alloc Pb _ _,ZWV W _⟩;go_enter func140,ntmps140;go_wp2_with fail;generalize W.alloc (.cells #[.bool false,.slice none 0 0,.slice none 0 0,.nilIface,.slice none 0 0,.nilIface] 217)=w0 at hS0 ⊢;refine(ZcS Pb ws k [115,101,108,101,99,116] Yk _ hS0.ps ZPl).mono ?_;rintro e w1 (⟨hs,rfl,hP1,hK1⟩|⟨hs,bb,rfl,h1,h2,h3⟩)
 ·have Hs:Hid (hd ws k=some Yk):=hs;clear hs;have hS1:=hS0.keep hK1 hP1 ZC;go_wp2_with fail;refine(Ziw Pb ws (k+1) [100,105,115,116,105,110,99,116] ZU _ hP1 ZPl).mono ?_;rintro e w2 ⟨b,k1,rfl,Hb,hP2,hK2⟩;have hS2:=hS1.keep hK2 hP2 ZC;have ZOf:k<k1:=by rcases Hb.out with⟨_,_,h⟩|⟨_,_,h⟩<;>omega
  obtain⟨c0,c1,c2,c3,c4,c5,cf⟩:=hS2.cells;have cf0:=cf 0;have hS3:=hS2.set0 ZC b;go_wp2_with fail;generalize w2.setCell ⟨W.heap.size,0,none⟩ (.bool b)=w3 at hS3 ⊢;clear c0 c1 c2 c3 c4 c5 cf cf0;refine(Ziw Pb ws k1 [42] T.star _ hS3.ps ZPl).mono ?_;rintro e w4 ⟨b2,k2,rfl,Hb2,YP,hK4⟩;have hS4:=hS3.keep hK4 YP ZC;go_upto_if 11 with fail
  go_cut [] (fun wx=>St3 Pb ws k W b wx);case first=>
   rcases Hb2.out with⟨rfl,hst,rfl⟩|⟨rfl,hst,rfl⟩
   ·go_wp2_with fail;go_meet;case rel=>exact⟨k1+1,true,_,.nil,U,hS4,⟨[],.inl ⟨rfl,rfl,rfl⟩,fun _ _ _=>.EI⟩,ZKW Hs.out Hb.out hst,fun k' tt hf hle hT=>ZBC Hs.out Hb.out hst hf hle hT⟩
   ·have Zt:Hid (ans (P core) (Zc ws k)=(ans (P items) (Zc ws k2)).bind fun r=>(Zz YA r).bind (ans (P tail))):=ZKV Hs.out Hb.out hst;clear hst;go_wp2_with fail;refine(ZIT Pb ws k2 _ YP (fun k' W' hk' ZhC=>ZIR Pb ws k' W' ZhC (he.mono U))).mono ?_;rintro e w5 (⟨k3,x,hle,hA,rfl,⟨l,t,hne,hL,hR,hD⟩,Xy,Yg⟩|⟨hA,bb,rfl,h1,h2,h3⟩)
    ·have HA:Hid (ans (P core) (Zc ws k)=(Zz YA (Zc ws k3)).bind (ans (P tail))):=by show _=_;rw[Zt.out,hA,Option.bind_some]
     have HD:Hid (D items (sl ws k2 k3) (nd {kind:= [114,111,119]} t)):=hD;have hS5:=hS4.keep Yg Xy ZC;have hsz:W.heap.size+1<=w4.heap.size:=(ZWU.1 hS4.ob).1;have hL5:=hL.low hsz;obtain⟨c0,c1,c2,c3,c4,c5,cf⟩:=hS5.cells;have cf1:=cf 1;have hS6:=hS5.set1 ZC x;have hL6:=hL5.JX (ZXJ _) 1 x;obtain⟨g,cap,hx,_⟩:=hL;subst hx;clear hA Zt hD;go_wp2_with fail;go_meet;case rel=>exact⟨k3,false,_,t,U,hS6,⟨l,.inr ⟨rfl,hne,hL6⟩,hR⟩,HA,fun k' tt hf ZDV hT=>ZBA Hs.out Hb.out HD.out hle hf ZDV hT⟩
    ·have HA:Hid (ans (P core) (Zc ws k)=none):=by show _=_;rw[Zt.out,hA];rfl
     clear hA Zt;go_wp2;exact⟨rfl,.inr ⟨HA.out,bb,rfl,h1,h2,hS4.kp.trans h3⟩⟩
  case rest=>
   obtain⟨k3,c,i,ti,hk3,hS5,hI,HA3,HD3⟩:=hcut;clear hS4 hS3 hS2 hS1 hS0 hK4 hK2 hK1 YP hP2 hP1 Hb Hb2;go_wp2_with fail;refine(ZcS Pb ws k3 [102,114,111,109] YA _ hS5.ps ZPl).mono ?_;rintro e w6 (⟨hf,rfl,hP6,hK6⟩|⟨hf,bb,rfl,h1,h2,h3⟩)
   ·have Hf:Hid (hd ws k3=some YA):=hf;have Q7:Hid (ans (P core) (Zc ws k)=ans (P tail) (Zc ws (k3+1))):=by show _=_;rw[HA3.out,Um hf,Option.bind_some]
    clear hf HA3;have hS6:=hS5.keep hK6 hP6 ZC;have hI6:=hI.same (fun x l h=>h.keep hK6);go_wp2_with fail;refine(ZIU Pb ws (k3+1) _ hP6 (fun k' W' hk' ZhC=>ZI6 Pb ws k' W' ZhC)).mono ?_;rintro e w7 (⟨k5,x,hle,hA,rfl,⟨l,tf,hne,hL,hR,hD⟩,hP7,hK7⟩|⟨hA,bb,rfl,h1,h2,h3⟩)
    ·have XL:Hid (ans (P core) (Zc ws k)=tailA (Zc ws k5)):=by show _=_;rw[Q7.out,Zq4,hA,Option.bind_some]
     have HD5:Hid (D sources (sl ws (k3+1) k5) (nd {kind:= [114,111,119]} tf)):=hD;have hS7:=hS6.keep hK7 hP7 ZC;have hsz:W.heap.size+1<=w6.heap.size:=(ZWU.1 hS6.ob).1;have hI7:=(hI6.same (fun x l h=>h.keep hK7)).same (fun y l h=>h.JX (ZXJ _) 2 x);have hF7:Zfg Pb (W.heap.size+1) (w7.setCell ⟨W.heap.size,2,none⟩ x) x tf:=⟨l,hne,(hL.low hsz).JX (ZXJ _) 2 x,hR⟩;obtain⟨c0,c1,c2,c3,c4,c5,cf⟩:=hS7.cells;have cf2:=cf 2;have hS8:=hS7.set2 ZC x;obtain⟨g,cap,hx,_⟩:=hL;subst hx;clear hA Q7 hD hI hI6 hS5 hS6 hR;go_wp2_with fail;generalize w7.setCell ⟨W.heap.size,2,none⟩ (.slice (some ⟨g,0,none⟩) l.length cap)=w8 at hS8 hI7 hF7 ⊢;generalize Value.slice (some ⟨g,0,none⟩) l.length cap=fv at hS8 hF7;clear c0 c1 c2 c3 c4 c5 cf cf2 hS7 hK7 hP7;refine(Ziw Pb ws k5 [119,104,101,114,101] Y2 _ hS8.ps ZPl).mono ?_;rintro e w9 ⟨b3,k5',rfl,Hb3,hP9,hK9⟩;have hS9:=hS8.keep hK9 hP9 ZC;have hI9:=hI7.same (fun x l h=>h.keep hK9);have hF9:=hF7.same (fun x l h=>h.keep hK9);go_upto_if 25 with fail
     go_cut [] (fun wx=>St6 Pb ws k W b wx);case first=>
      rcases Hb3.out with⟨rfl,hw,rfl⟩|⟨rfl,hw,rfl⟩
      ·have Hw:Hid (hd ws k5=some Y2):=hw;have HA6:Hid (ans (P core) (Zc ws k)=(ans (P cnd) (Zc ws (k5+1))).bind Zcf):=by show _=_;rw[XL.out,ZMh hw]
       clear hw XL;go_wp2_with fail;refine(hc (k5+1) _ U hP9).mono ?_;rintro e w10 (⟨k6,x,ZDW,hA,rfl,⟨tw,hD,hR⟩,Zj8,Zct⟩|⟨hA,bb,rfl,h1,h2,h3⟩)
       ·obtain⟨n,y,rfl⟩:=hR.iface;have HA7:Hid (ans (P core) (Zc ws k)=Zcf (Zc ws k6)):=by show _=_;rw[HA6.out,hA,Option.bind_some]
        have HD7:Hid (D cnd (sl ws (k5+1) k6) tw):=hD;clear hA HA6 hD;have Zen:=hS9.keep Zct Zj8 ZC;have ZEo:W.heap.size+1<=w9.heap.size:=(ZWU.1 hS9.ob).1;have Zj4:=(hI9.same (fun x l h=>h.keep Zct)).same (fun x l h=>h.JX (ZXJ _) 3 (.iface n y));have Zj0:=(hF9.same (fun x l h=>h.keep Zct)).same (fun x l h=>h.JX (ZXJ _) 3 (.iface n y));have Zkd:Es Pb (W.heap.size+1) (w10.setCell ⟨W.heap.size,3,none⟩ (.iface n y)) (.iface n y) tw:=.inr ((hR.low ZEo).JX (ZXJ _) 3 _);obtain⟨c0,c1,c2,c3,c4,c5,cf⟩:=Zen.cells;have cf3:=cf 3;have ZhF:=Zen.ZKZ ZC (.iface n y);go_wp2_with fail;go_meet;case rel=>exact⟨k6,c,i,fv,_,ti,tf,tw,U,ZhF,Zj4,Zj0,Zkd,HA7,fun k' g h hB=>HD3.out k' _ Hf.out ZSq (ZMj HD5.out U Hw.out HD7.out ZDW hB)⟩
       ·have HA:Hid (ans (P core) (Zc ws k)=none):=by show _=_;rw[HA6.out,hA];rfl
        clear hA HA6;go_wp2;exact⟨rfl,.inr ⟨HA.out,bb,rfl,h1,h2,hS9.kp.trans h3⟩⟩
      ·have HA7:Hid (ans (P core) (Zc ws k)=Zcf (Zc ws k5')):=by show _=_;rw[XL.out,ZMg hw]
       clear hw XL;go_wp2_with fail;go_meet;case rel=>exact⟨k5',c,i,fv,.nilIface,ti,tf,.nil,U,hS9,hI9,hF9,.inl ⟨rfl,rfl⟩,HA7,fun k' g h hB=>HD3.out k' _ Hf.out ZSq (ZMi HD5.out U hB)⟩
     case rest=>
      clear hS9 hI9 hF9 hS8 hI7 hF7 hK9 hP9 XL HD5 HD3 hK6 hP6;obtain⟨k6,c,i,f,x,ti,tf,tw,hk6,hS,hI,hF,hW,HA,HD⟩:=hcut;go_wp2_with fail;refine(Ziw Pb ws k6 [103,114,111,117,112] group _ hS.ps ZPl).mono ?_;rintro e w9 ⟨b4,k6',rfl,Hb4,hP9,hK9⟩;have hS9:=hS.keep hK9 hP9 ZC;have hI9:=hI.same (fun x l h=>h.keep hK9);have hF9:=hF.same (fun x l h=>h.keep hK9);have hW9:=hW.keep hK9;clear hS hI hF hW hK9;rcases Hb4.out with⟨rfl,hg,rfl⟩|⟨rfl,hg,rfl⟩
      ·have Hg:Hid (hd ws k6=some group):=hg;have HA1:Hid (ans (P core) (Zc ws k)=(Zz Y7 (Zc ws (k6+1))).bind fun r=>(ans (P Zu) r).bind Zed):=by show _=_;rw[HA.out,ZyZ hg]
       clear hg HA Hb4;go_wp2_with fail;refine(ZcS Pb ws (k6+1) [98,121] Y7 _ hP9 ZPl).mono ?_;rintro e w10 (⟨hb,rfl,Zj8,Zct⟩|⟨hb,bb,rfl,h1,h2,h3⟩)
       ·have Hby:Hid (hd ws (k6+1)=some Y7):=hb;have HA2:Hid (ans (P core) (Zc ws k)=(ans (P Zu) (Zc ws (k6+2))).bind Zed):=by show _=_;rw[HA1.out,Um hb,Option.bind_some]
        clear hb HA1;have Zen:=hS9.keep Zct Zj8 ZC;have Zj4:=hI9.same (fun x l h=>h.keep Zct);have Zj0:=hF9.same (fun x l h=>h.keep Zct);have Zkd:=hW9.keep Zct;clear hS9 hI9 hF9 hW9 Zct;go_wp2_with fail;refine(ZIS Pb ws (k6+2) _ Zj8 (fun k' W' hk' ZhC=>Zvy Pb ws k' W' ZhC)).mono ?_;rintro e Qu (⟨k7,gv,ZOj,hA,rfl,⟨l,tg,hne,hL,hR,hD⟩,Zs1,Zhw⟩|⟨hA,bb,rfl,h1,h2,h3⟩)
        ·have HA3:Hid (ans (P core) (Zc ws k)=Zed (Zc ws k7)):=by show _=_;rw[HA2.out,hA,Option.bind_some]
         have HD7:Hid (D Zu (sl ws (k6+2) k7) (nd {kind:= [114,111,119]} tg)):=hD;have hsz:W.heap.size+1<=w10.heap.size:=(ZWU.1 Zen.ob).1;have ZhF:=Zen.keep Zhw Zs1 ZC;have Znd:=(Zj4.same (fun x l h=>h.keep Zhw)).same (fun x l h=>h.JX (ZXJ _) 4 gv);have Zm7:=(Zj0.same (fun x l h=>h.keep Zhw)).same (fun x l h=>h.JX (ZXJ _) 4 gv);have Znt:=(Zkd.keep Zhw).JX (ZXJ _) 4 gv;have Zj3:Zgm Pb (W.heap.size+1) (Qu.setCell ⟨W.heap.size,4,none⟩ gv) gv tg:=⟨l,.inr ⟨hne,(hL.low hsz).JX (ZXJ _) 4 gv⟩,hR⟩;obtain⟨c0,c1,c2,c3,c4,c5,cf⟩:=ZhF.cells;have cf4:=cf 4;have ZhG:=ZhF.ZK0 ZC gv;obtain⟨gg,cap,hx,_⟩:=hL;subst hx;clear hA HA2 hD hR Zen Zj4 Zj0 Zkd;go_wp2_with fail;generalize Qu.setCell ⟨W.heap.size,4,none⟩ (.slice (some ⟨gg,0,none⟩) l.length cap)=w12 at ZhG Znd Zm7 Znt Zj3 ⊢;generalize Value.slice (some ⟨gg,0,none⟩) l.length cap=gv at ZhG Zj3;clear c0 c1 c2 c3 c4 c5 cf cf4 ZhF Zhw Zs1;refine(Ziw Pb ws k7 [104,97,118,105,110,103] having _ ZhG.ps ZPl).mono ?_;rintro e w13 ⟨b5,k7',rfl,Hb5,Zs2,Zft⟩;have Zeo:=ZhG.keep Zft Zs2 ZC;have Zne:=Znd.same (fun x l h=>h.keep Zft);have Zm8:=Zm7.same (fun x l h=>h.keep Zft);have Znu:=Znt.keep Zft;have Znb:=Zj3.same (fun x l h=>h.keep Zft);clear ZhG Znd Zm7 Znt Zj3 Zft;rcases Hb5.out with⟨rfl,hh,rfl⟩|⟨rfl,hh,rfl⟩
         ·have Hh:Hid (hd ws k7=some having):=hh;have Q7:Hid (ans (P core) (Zc ws k)=ans (P cnd) (Zc ws (k7+1))):=by show _=_;rw[HA3.out,ZCR hh]
          clear hh HA3 Hb5;go_wp2_with fail;refine(hc (k7+1) _ U Zs2).mono ?_;rintro e w14 (⟨k8,hv,ZOk,hA,rfl,⟨th,hD,hR⟩,ZDf,Zhx⟩|⟨hA,bb,rfl,h1,h2,h3⟩)
          ·obtain⟨n,y,rfl⟩:=hR.iface;have XL:Hid (ans (P core) (Zc ws k)=some (Zc ws k8)):=Q7.out.trans hA;have ZEn:W.heap.size+1<=w13.heap.size:=(ZWU.1 Zeo.ob).1;have Zs9:=Zeo.keep Zhx ZDf ZC;have Zj5:=(Zne.same (fun x l h=>h.keep Zhx)).same (fun x l h=>h.JX (ZXJ _) 5 (.iface n y));have Zj1:=(Zm8.same (fun x l h=>h.keep Zhx)).same (fun x l h=>h.JX (ZXJ _) 5 (.iface n y));have ZDm:=(Znu.keep Zhx).JX (ZXJ _) 5 (.iface n y);have ZC5:=(Znb.same (fun x l h=>h.keep Zhx)).same (fun x l h=>h.JX (ZXJ _) 5 (.iface n y));have ZC9:Es Pb (W.heap.size+1) (w14.setCell ⟨W.heap.size,5,none⟩ (.iface n y)) (.iface n y) th:=.inr ((hR.low ZEn).JX (ZXJ _) 5 _);have HD8:Hid (D core (sl ws k k8) (XV c b ti (ZV tf tg tw th))):=HD.out k8 tg th (.inr ⟨Hg.out,Hby.out,U,by
            have l7:=Yu Hh.out;rw[QR ws (show k6+2<=k7 by omega) (show k7<=k8 by omega),Yj l7 U];exact .Us (Yc Hh.out l7) HD7.out hD⟩)
           obtain⟨c0,c1,c2,c3,c4,c5,cf⟩:=Zs9.cells;have cf5:=cf 5;have Zta:=Zs9.ZK1 ZC (.iface n y);clear hA Q7 hD hR Zeo Zne Zm8 Znu Znb;go_wp2_with fail;go_ret;exact .inl ⟨k8,_,U,XL.out,rfl,⟨_,HD8.out,(Zpd Zj5 Zj1 ZC5 ZDm ZC9).low U⟩,Zta.ps,Zta.kp⟩
          ·have XL:Hid (ans (P core) (Zc ws k)=none):=Q7.out.trans hA;clear hA Q7;go_wp2;exact⟨rfl,.inr ⟨XL.out,bb,rfl,h1,h2,Zeo.kp.trans h3⟩⟩
         ·have Q7:Hid (ans (P core) (Zc ws k)=some (Zc ws k7')):=by show _=_;rw[HA3.out,ZCS hh]
          have HD8:Hid (D core (sl ws k k7') (XV c b ti (ZV tf tg tw .nil))):=HD.out k7' tg .nil (.inr ⟨Hg.out,Hby.out,U,.Ur HD7.out⟩);obtain⟨c0,c1,c2,c3,c4,c5,cf⟩:=Zeo.cells;clear hh HA3 Hb5;go_wp2_with fail;go_ret;exact .inl ⟨k7',_,U,Q7.out,rfl,⟨_,HD8.out,(Zpd Zne Zm8 Znb Znu (.inl ⟨rfl,rfl⟩)).low U⟩,Zeo.ps,Zeo.kp⟩
        ·have XL:Hid (ans (P core) (Zc ws k)=none):=by show _=_;rw[HA2.out,hA];rfl
         clear hA HA2;go_wp2;exact⟨rfl,.inr ⟨XL.out,bb,rfl,h1,h2,Zen.kp.trans h3⟩⟩
       ·have XL:Hid (ans (P core) (Zc ws k)=none):=by show _=_;rw[HA1.out,KW hb];rfl
        clear hb HA1;go_wp2;exact⟨rfl,.inr ⟨XL.out,bb,rfl,h1,h2,hS9.kp.trans h3⟩⟩
      ·have Q7:Hid (ans (P core) (Zc ws k)=some (Zc ws k6')):=by show _=_;rw[HA.out,Zy0 hg]
       have HD8:Hid (D core (sl ws k k6') (XV c b ti (ZV tf .nil tw .nil))):=HD.out k6' .nil .nil (.inl ⟨rfl,hg,rfl,rfl⟩);obtain⟨c0,c1,c2,c3,c4,c5,cf⟩:=hS9.cells;clear hg HA Hb4;go_wp2_with fail;go_ret;exact .inl ⟨k6',_,U,Q7.out,rfl,⟨_,HD8.out,(Zpd hI9 hF9 ⟨[],.inl ⟨rfl,rfl⟩,fun _ _ _=>.Zdl⟩ hW9 (.inl ⟨rfl,rfl⟩)).low U⟩,hS9.ps,hS9.kp⟩
    ·have HA:Hid (ans (P core) (Zc ws k)=none):=by show _=_;rw[Q7.out,Zq4,hA];rfl
     clear hA Q7;go_wp2;exact⟨rfl,.inr ⟨HA.out,bb,rfl,h1,h2,hS6.kp.trans h3⟩⟩
   ·have HA:Hid (ans (P core) (Zc ws k)=none):=by show _=_;rw[HA3.out,KW hf];rfl
    clear hf HA3;go_wp2;exact⟨rfl,.inr ⟨HA.out,bb,rfl,h1,h2,hS5.kp.trans h3⟩⟩
 ·have HA:Hid (ans (P core) (Zc ws k)=none):=ZBz Hlp.out hs;clear hs;go_wp2;exact⟨rfl,.inr ⟨HA.out,bb,rfl,h1,h2,hS0.kp.trans h3⟩⟩
theorem ZIN(Pb:Nat)(ws:List RW)(k:Nat)(W:World)(hP:PS Pb ws k W)(hq:Xp Pb ws 64 query (k+1))(he:QW Pb ws 229 expr (k+1))(hc:Xp Pb ws 185 cnd (k+1)):
  Calls prog 93 #[.pointer (some ⟨Pb,0,none⟩)] W (YR Pb ws k (ans (P core) (Zc ws k)) (Part Pb ws core k W.heap.size) W):=by
 have Xi:∀(fn:Fn) (first cap:Array Value) (w:World),(Instr.makeFunc fn first cap).run prog w= .ok (.func fn first cap) w:=fun _ _ _ _=>rfl;have hok:=hP.ok;go_enter func93,ntmps93;go_wp2_with fail;refine(ZkO Pb ws k W.heap.size 1 [[40]] _ (hP.keep (ZO _)) (ZbY W [[40]]) ZPm).mono ?_;rintro e w4 ⟨rfl,hB4⟩;have YP:=(hP.keep (ZO _)).keep hB4;have hK4:Zb Pb W w4:=(Zb.alloc Pb _ _).trans (Zb.of Pb hB4);rw[JG (s:= [40]) (t:=lp) ZPl hok];by_cases ho:hd ws k=some lp
 ·have Zt:Hid (ans (P core) (Zc ws k)=ans (round query) (Zc ws k)):=by show _=_;rw[XW ho,Zzo]
  rw[ZXX ho];clear ho;go_wp2_with fail;refine(ZvD Pb ws k _ YP hq).mono ?_;rintro e w5 (⟨k',x,hle,hA,rfl,hQ,Xy,Yg⟩|⟨hA,b,rfl,h1,h2,h3⟩)
  ·obtain⟨o,c,a,t2,e1,e2,e3,e4,e5⟩:=hQ.split;obtain⟨n2,y2,rfl⟩:=e5.iface;have HA:Hid (ans (P core) (Zc ws k)=some (Zc ws k')):=Zt.out.trans hA;have HQ:Hid (Part Pb ws core k W.heap.size k' (.iface n2 y2) w5):=by
    refine⟨_,?_,e5.low hK4.size⟩;rw[e3];exact .U4 e1 e2 e4
   exact ZSK
  ·have HA:Hid (ans (P core) (Zc ws k)=none):=Zt.out.trans hA;exact ZSO
 ·have Ho:Hid (hd ws k≠some lp):=ho;rw[ZXD ho];clear ho;go_wp2_with fail;refine(ZI5 Pb ws k _ YP Ho.out he hc).mono ?_;rintro e w6 (⟨k',x,hle,hA,rfl,⟨t,hD,hR⟩,hP6,hK6⟩|⟨hA,b,rfl,h1,h2,h3⟩)
  ·obtain⟨n2,y2,rfl⟩:=hR.iface;have HA:Hid (ans (P core) (Zc ws k)=some (Zc ws k')):=hA;clear hA;go_wp2_with fail;go_ret;exact .inl ⟨k',_,hle,HA.out,rfl,⟨t,hD,hR.low hK4.size⟩,hP6,hK4.trans hK6⟩
  ·have HA:Hid (ans (P core) (Zc ws k)=none):=hA;clear hA;go_wp2;exact⟨rfl,.inr ⟨HA.out,b,rfl,h1,h2,hK4.trans h3⟩⟩
structure Zgl (Pb:Nat) (ws:List RW) (k:Nat):Prop where
 query:Xp Pb ws 64 NT.query k
 core:Xp Pb ws 93 NT.core k
 cond:Xp Pb ws 185 NT.cnd k
 ZF:Xp Pb ws 233 NT.ZF k
 neg:Xp Pb ws 266 NT.neg k
 basic:Xp Pb ws 287 NT.basic k
 expr:QW Pb ws 229 NT.expr k
 term:QW Pb ws 264 NT.term k
 factor:QW Pb ws 286 NT.factor k
theorem Zf0{Pb:Nat}{ws:List RW}{f:Nat}{nt:NT}{k:Nat}(h:Xp Pb ws f nt (k+1))(h0:∀W,PS Pb ws k W->Calls prog f #[.pointer (some ⟨Pb,0,none⟩)] W (YR Pb ws k (ans (P nt) (Zc ws k)) (Part Pb ws nt k W.heap.size) W)):Xp Pb ws f nt k:=fun j W hj hP=>by
 by_cases e:j=k
 ·subst e;exact h0 W hP
 ·exact h j W U hP
theorem ZoT{Pb:Nat}{ws:List RW}{f:Nat}{nt:NT}{k:Nat}(h:QW Pb ws f nt (k+1))(h0:∀W,PS Pb ws k W->Calls prog f #[.pointer (some ⟨Pb,0,none⟩)] W (YR Pb ws k (ans (P nt) (Zc ws k)) (Vy ws nt k) W)):QW Pb ws f nt k:=fun j W hj hP=>by
 by_cases e:j=k
 ·subst e;exact h0 W hP
 ·exact h j W U hP
theorem Zze{Pb:Nat}{ws:List RW}{k:Nat}(h:Zgl Pb ws (k+1)):Zgl Pb ws k:=by
 have f:=ZoT h.factor (fun W hP=>ZIP Pb ws k W hP h.factor h.expr);have t:=ZoT h.term (fun W hP=>ZI7 Pb ws k W hP f);have e:=ZoT h.expr (fun W hP=>ZIO Pb ws k W hP t);have b:=Zf0 h.basic (fun W hP=>ZIC Pb ws k W hP e.rds h.cond h.query);have n:=Zf0 h.neg (fun W hP=>ZIW Pb ws k W hP h.neg b);have j:=Zf0 h.ZF (fun W hP=>ZIM Pb ws k W hP n);have c:=Zf0 h.cond (fun W hP=>ZIK Pb ws k W hP j);have o:=Zf0 h.core (fun W hP=>ZIN Pb ws k W hP h.query h.expr h.cond);have q:=Zf0 h.query (fun W hP=>ZIY Pb ws k W hP o);exact⟨q,o,c,j,n,b,e,t,f⟩
theorem Zzc{Pb:Nat}{ws:List RW}{k:Nat}(h:ws.length<k):Zgl Pb ws k:=by
 have no:∀j W,k<=j->PS Pb ws j W->False:=fun j W hj hP=>by have:=hP.le;omega
 exact⟨fun j W hj hP=>(no j W hj hP).elim,fun j W hj hP=>(no j W hj hP).elim,fun j W hj hP=>(no j W hj hP).elim,fun j W hj hP=>(no j W hj hP).elim,fun j W hj hP=>(no j W hj hP).elim,fun j W hj hP=>(no j W hj hP).elim,fun j W hj hP=>(no j W hj hP).elim,fun j W hj hP=>(no j W hj hP).elim,fun j W hj hP=>(no j W hj hP).elim⟩
theorem Zzd(Pb:Nat)(ws:List RW):Zgl Pb ws 0:=by
 have h:∀n,Zgl Pb ws (ws.length+1-n):=by
  intro n;induction n with
  |zero=>exact Zzc U
  |succ n ih=>
   by_cases hn:n<ws.length+1
   ·rw[show ws.length+1-n=(ws.length+1-(n+1))+1 from U]at ih;exact Zze ih
   ·rw[show ws.length+1-(n+1)=ws.length+1-n from U];exact ih
 have:=h (ws.length+1);rwa [Nat.sub_self]at this
end
section
open T NT PK
def ZyN(W:World):Except Nat (List RW)->Ending->World->Prop
 | .error n,e,w'=>XD W.heap.size 2 n W e w'
 | .ok l,e,w'=>(¬G query (l.map tok)/\XD W.heap.size 3 0 W e w')\/(G query (l.map tok)/\deep l=true/\XD W.heap.size 4 0 W e w')\/(G query (l.map tok)/\deep l=false/\Below W.heap.size W w'/\∃Pb n y t,e= .returned (.iface n y)/\D query l t/\Zl Pb W.heap.size w' (.v (.iface n y)) t)
theorem ZvR:∀(l:List RW) (i:Nat) (h:i<l.length),(Kq l)[i*3]? =some (.int .i64 (YQ l[i]))/\(Kq l)[i*3+1]? =some (.string ⟨(Y1 l[i]).toArray⟩)/\(Kq l)[i*3+2]? =some (QI l[i])
 |w::l,0,h=>by simp[Kq,ZkU]
 |w::l,i+1,h=>by
  have ih:=ZvR l i ZPv;have e:∀j,(Kq (w::l))[j+3]? =(Kq l)[j]? :=fun j=>by simp[Kq,ZkU]
  exact ZWA
theorem ZIq{W:World}{B:Nat}{v:Value}{l:List RW}(h:W.ownsRow B 173 3 v l.length (Kq l)):∃a cap,v= .slice a l.length cap/\l.length<=cap/\Zdc W.heap.size W a l:=by
 rcases h.2 with⟨rfl,h0⟩|⟨g,cap,cur,rfl,_,hh,hc,_⟩
 ·exact⟨none,0,by rw[h0],U,fun i hi=>U⟩
 ·have hlt:=(ZWU.1 hh).1;refine⟨_,cap,rfl,hc,fun i hi=>⟨g,rfl,U,?_⟩⟩;obtain⟨e1,e2,e3⟩:=ZvR l i hi;exact ZU3
theorem ZJm{W:World}{a:Option Addr}{l:List RW}{cap:Nat}(hw:Zdc W.heap.size W a l)(hc:l.length<=cap)(hok:∀w∈l,Yi w)(hl:l.length<=400):PS W.heap.size l 0 (W.alloc (.cells #[.slice a l.length cap,.int .i64 0] 169)):=by
 have hn:=ZWV W (.cells #[.slice a l.length cap,.int .i64 0] 169);refine⟨hl,hok,ZW8 _,⟨a,cap,hn,fun i hi=>?_⟩,fun a' cap' e=>?_⟩
 ·obtain⟨g,e,hg,c1,c2,c3⟩:=hw i hi;have hk:=Zb.alloc W.heap.size W (.cells #[.slice a l.length cap,.int .i64 0] 169);exact⟨g,e,hg,hk.cell hg c1,hk.cell hg c2,hk.cell hg c3⟩
 ·rw[hn]at e;simp at e;omega
theorem Zri{n0 Pb:Nat}{W w w':World}(h:Below n0 W w)(hK:Zb Pb w w')(hP:n0<=Pb)(hn:n0<=w.heap.size):Below n0 W w':=
 ⟨hK.os.trans h.os,hK.tape.trans h.tape,hK.output.trans h.output,ZW0 h.size hK.size,fun g hg=>(hK.block g U U).trans (h.block g hg)⟩
theorem Zrf{Pb n0:Nat}{W w:World}{e:Ending}{w':World}(h:Below n0 W w)(hP:n0<=Pb)(hn:n0<=w.heap.size)(hb:QM Pb w e w'):XD n0 3 0 W e w':=by
 obtain⟨b,h1,h2,h3,h4⟩:=hb;exact⟨b,h1,h2,h3,Zri h h4 hP hn⟩
theorem PS.slice{Pb:Nat}{ws:List RW}{k:Nat}{W:World}(h:PS Pb ws k W):∃wa cap,W.cell? ⟨Pb,0,none⟩=some (.slice wa ws.length cap)/\Zdc Pb W wa ws:=by
 obtain⟨wa,cap,h1,_,_,h4⟩:=h.cells;exact⟨wa,cap,h1,h4⟩
theorem ZIz(s:Za)(W:World)(hs:s.length<=90000)(hE:Zbm W)(hSp:UZ W):
  Calls prog 30 #[.string ⟨s.toArray⟩] W (ZyN W (XB s)):=by
 have hrd:=fun w hE hSp=>ZMW s w hs hE hSp;have X9:Hid (∀l,XB s= .ok l->(∀w∈l,Yi w)/\l.length<=400):=fun l h=>by
  obtain⟨h1,h2,h3⟩:=ZfZ h;exact⟨h1,U⟩
 generalize XB s=R at X9 hrd ⊢;go_enter func30,ntmps30;go_wp2_with fail;refine(hrd _ hE hSp).mono ?_;cases R with
 |error n=>
  rintro e w1 ⟨b,rfl,h1,h2,h3⟩;go_wp2;exact⟨rfl,b,rfl,h1,h2,h3⟩
 |ok l=>
  rintro e w1 ⟨v,rfl,hown,hB1⟩;obtain⟨hok,hlen⟩:=X9.out l rfl;obtain⟨a,cap,rfl,hcap,hw⟩:=ZIq hown;have hP0:=ZJm hw hcap hok hlen;have hsz:=hB1.size;have hBa:Below W.heap.size W (w1.alloc (.cells #[.slice a l.length cap,.int .i64 0] 169)):=hB1.alloc hsz _;clear hrd X9 hown hw;generalize ZC:w1.heap.size=Pb at hP0 hsz;go_wp2_with fail;generalize w1.alloc (.cells #[.slice a l.length cap,.int .i64 0] 169)=w2 at hP0 hBa ⊢;have hsz2:=hBa.size;refine((Zzd Pb l).query 0 w2 (ZWS _) hP0).mono ?_;rintro e w3 (⟨k,x,_,hA,rfl,⟨t,hD,hR⟩,hP3,hK3⟩|⟨hA,hb⟩)
  ·obtain⟨n,y,rfl⟩:=hR.iface;have HA:Hid (ans (P query) (Zc l 0)=some (Zc l k)):=hA;have HD:Hid (D query (sl l 0 k) t):=hD;clear hA hD;have hB3:=Zri hBa hK3 hsz hsz2;go_wp2_with fail;refine(Ziv Pb l k _ hP3).mono ?_;rintro e w4 ⟨rfl,hB4⟩;have YP:=hP3.keep hB4;have Zfp:=hB3.trans (hB4.mono hB3.size);unfold Ko;have f0:=fun w=>ZmS (XA l k) ⟨(Qq l k).toArray⟩ (Ju l k) (ZcO l k) w;by_cases hk:k<l.length
   ·have hne:(XA l k==0)=false:=by
     have:XA l k≠0:=by
      rw[(ZeK hk).1];unfold YQ;split
      ·decide
      ·split<;>decide
     exact ZWN
    have HN:Hid (¬G query (l.map tok)):=fun hG=>by
     have h1:=(Zmf _).2 hG;have h2:ans (P query) (Zc l 0)=some []:=h1;rw[HA.out]at h2;have h3:=congrArg List.length (ZXc h2);rw[ZcX]at h3;simp at h3;omega
    go_wp2_with fail;refine(Zoy Pb _).mono ?_;rintro e w5 hb;obtain⟨b,rfl,h1,h2,h3⟩:=Zrf Zfp hsz Zfp.size hb;exact ZUn
   ·have hkl:k=l.length:=by have:=hP3.le;omega
    have he:(XA l k==0)=true:=by rw[(ZeL hk).1];rfl
    have HG:Hid (G query (l.map tok)):=by
     refine(Zmf _).1 ?_;have h2:=HA.out;rw[ZpA hk]at h2;exact h2
    have HD2:Hid (D query l t):=by
     have h2:=HD.out;rw[hkl,ZLc]at h2;exact h2
    obtain⟨wa,cap',c0,hw'⟩:=YP.slice;have hR4:=(hR.low hsz2).keep (Zb.of Pb hB4);clear hk hkl HA HD;go_wp2_with fail;refine(ZIJ l Pb wa cap' _ hw' hok hlen).mono ?_;rintro e w5 (⟨hd,rfl,X4⟩|⟨hd,hb⟩)
    ·have Hd:Hid (deep l=false):=hd;clear hd;go_wp2_with fail;go_ret;exact .inr (.inr ⟨HG.out,Hd.out,Zfp.trans (X4.mono Zfp.size),Pb,n,y,t,rfl,HD2.out,hR4.keep (Zb.of Pb X4)⟩)
    ·have Hd:Hid (deep l=true):=hd;clear hd;obtain⟨b,rfl,h1,h2,h3⟩:=hb;go_wp2;exact⟨rfl,.inr (.inl ⟨HG.out,Hd.out,b,rfl,h1,h2,Zfp.trans (h3.mono Zfp.size)⟩)⟩
  ·have HN:Hid (¬G query (l.map tok)):=fun hG=>by
    have h1:=(Zmf _).2 hG;have h2:ans (P query) (Zc l 0)=some []:=h1;rw[hA]at h2;cases h2
   clear hA;obtain⟨b,rfl,h1,h2,h3⟩:=Zrf hBa hsz hsz2 hb;exact ZUn
end
section
open Go.Shelf
attribute [local go_sem] Oper.semAt_some
theorem ZLt(s:Za)(w:World)(hs:s.length<=90000):
  Calls prog 53 #[.string ⟨s.toArray⟩] w fun e w'=>e= .returned (.string ⟨s.toArray⟩)/\Below w.heap.size w w':=by
 go_enter func53,ntmps53;go_wp2_with fail;refine(Tryz.stringslite_Clone ⟨s.toArray⟩ _ ZQW).mono ?_;rintro e w' ⟨rfl,hB⟩;go_wp2;go_ret;exact⟨rfl,hB⟩
def ZmJ(s:Za)(n0:Nat)(W:World)(e:Ending)(W':World):Prop:=
 Below n0 W W'/\((YZ s= -1/\∃M,e= .returned (.map (some M))/\n0<=M/\∃st B,Vd YI ⟨[],none, []⟩ (ZX s)=some st/\n0<=B/\E8 B W' M st.names st.tabs)\/(0<=YZ s/\∃b,e= .panicked (thrown b)/\W'.cell? ⟨b,0,none⟩=some (.int .i64 1)/\W'.cell? ⟨b,1,none⟩=some (.int .i64 (YZ s))))
theorem ZLC(s:Za)(W:World)(hs:s.length<=90000)(hlong:s.length>4000):
  Calls prog 24 #[.string ⟨s.toArray⟩] W fun e W'=>ZmJ s W.heap.size W e W':=by
 have HD:Hid (YZ s=0):=by show YZ s=0;unfold YZ;rw[ZWR hlong]
 refine Zg8 func24 rfl ?_;simp only[ntmps24,ZXY,List.length_cons,List.length_nil,Nat.reduceAdd,Nat.reduceSub,ZXZ,Array.replicate_zero,ZX0,ZX1,List.nil_append,List.cons_append];refine QK (QL ?_);go_wp2;refine QK (QL ?_);go_wp2_with fail;refine(ZdS 1 0 _).mono ?_;rintro e w' ⟨rfl,rfl⟩;go_wp2;refine ZG6 rfl ⟨(ZWT _ W).alloc (ZWS _) _,.inr ⟨by rw[HD.out];omega,W.heap.size,rfl,ZPm,by rw[HD.out];simp⟩⟩
theorem ZLB(s:Za)(W:World)(hs:s.length<=4000)(hS:UZ W)(Uv:Vx W)(hG:13<=W.heap.size):
  Calls prog 24 #[.string ⟨s.toArray⟩] W fun e W'=>ZmJ s W.heap.size W e W':=by
 have hmm:=@run_makeMap prog;have Xi:∀(fn:Fn) (first cap:Array Value) (w:World),(Instr.makeFunc fn first cap).run prog w= .ok (.func fn first cap) w:=fun _ _ _ _=>rfl;have hlen:¬(4000:Int)<(s.length:Int):=U
 refine Zg8 func24 rfl ?_;simp only[ntmps24,ZXY,List.length_cons,List.length_nil,Nat.reduceAdd,Nat.reduceSub,ZXZ,Array.replicate_zero,ZX0,ZX1,List.nil_append,List.cons_append];refine QK (QL ?_);go_wp2;refine QK (QL ?_);go_wp2;refine QK (QL ?_);go_wp2_with fail;refine(ZMZ _ (hS.below ((ZWT _ W).alloc (ZWS _) _) hG)).mono ?_;rintro e w2 ⟨rfl,hK,hB2,hsz2⟩;go_wp2;refine QK (QK (QL ?_));go_wp2_with fail;refine(ZLt s _ U).mono ?_;rintro e w3 ⟨rfl,hB3⟩;go_wp2;refine Zlo ?_;have hN1:(W.alloc (.map #[] 0)).heap.size=W.heap.size+1:=ZPm
 rw[hN1]at hK hB2 hsz2;obtain⟨R,hRe⟩:∃R,w2.heap.size=R:=⟨_,rfl⟩;rw[hRe]at hsz2 hB3 ⊢;have hw4:((w2.alloc (.cells #[.int .i64 0,.map (some W.heap.size),.pointer none,.map (some (W.heap.size+1))] 138)).alloc (.cells #[.pointer (some ⟨R,0,none⟩)] 133)).heap.size=R+2:=by simp;omega
 rw[hw4]at hB3;have hs3:R+2<=w3.heap.size:=by have:=hB3.size;rw[hw4]at this;exact this
 have lo3:∀b,b<R->w3.heap[b]? =w2.heap[b]? :=fun b hb=>(hB3.block b U).trans ((ZXa _ _ b ZPo).trans (ZXa _ _ b U));have XP:w3.heap[R]? =some (.cells #[.int .i64 0,.map (some W.heap.size),.pointer none,.map (some (W.heap.size+1))] 138 (0,0)):=by
  refine(hB3.block R U).trans ((ZXa _ _ R ZPo).trans ?_);rw[<-hRe];exact ZWV w2 _
 have Zs8:w3.heap[R+1]? =some (.cells #[.pointer (some ⟨R,0,none⟩)] 133 (0,0)):=by
  refine(hB3.block (R+1) U).trans ?_;have:=ZWV (w2.alloc (.cells #[.int .i64 0,.map (some W.heap.size),.pointer none,.map (some (W.heap.size+1))] 138)) (.cells #[.pointer (some ⟨R,0,none⟩)] 133);rw[World.size_alloc,hRe]at this;exact this
 have hM3:w3.heap[W.heap.size]? =some (.map #[] 0):=(lo3 _ U).trans ((hB2.block _ U).trans (ZWV W _));have hK3:Xv w3 (W.heap.size+1) 100 YI:=JV hK (lo3 _ U);have VP:Below W.heap.size W w3:=by
  have h1:Below W.heap.size W w2:=((ZWT _ W).alloc (ZWS _) _).trans (hB2.mono U);have h2:Below W.heap.size W ((w2.alloc (.cells #[.int .i64 0,.map (some W.heap.size),.pointer none,.map (some (W.heap.size+1))] 138)).alloc (.cells #[.pointer (some ⟨R,0,none⟩)] 133)):=(h1.alloc U _).alloc ZPo _;exact h2.trans (hB3.mono U)
 obtain⟨w5,Js⟩:∃w5,((w3.alloc (.cells #[.string ⟨s.toArray⟩] 9)).alloc (.cells #[.string ⟨#[10]⟩] 9)).alloc (.cells #[.int .i64 0] 3)=w5:=⟨_,rfl⟩;rw[Js];have hs5:w5.heap.size=w3.heap.size+3:=by rw[<-Js];simp
 have k0:w5.heap[w3.heap.size]? =some (.cells #[.string ⟨s.toArray⟩] 9 (0,0)):=by rw[<-Js];exact(Za3 w3.heap _ _ _).1
 have k1:w5.heap[w3.heap.size+1]? =some (.cells #[.string ⟨#[10]⟩] 9 (0,0)):=by rw[<-Js];exact(Za3 w3.heap _ _ _).2.1
 have k2:w5.heap[w3.heap.size+2]? =some (.cells #[.int .i64 0] 3 (0,0)):=by rw[<-Js];exact(Za3 w3.heap _ _ _).2.2
 have lo5:∀b,b<w3.heap.size->w5.heap[b]? =w3.heap[b]? :=fun b hb=>by
  rw[<-Js];exact(ZXa _ _ b ZPo).trans ((ZXa _ _ b ZPo).trans (ZXa _ _ b hb))
 have X4:Below W.heap.size W w5:=by
  rw[<-Js];exact((VP.alloc U _).alloc ZPo _).alloc ZPo _
 have hR5:=(lo5 R U).trans XP;have Zka:=(lo5 (R+1) U).trans Zs8;have hM5:=(lo5 W.heap.size U).trans hM3;have Yg:Xv w5 (W.heap.size+1) 100 YI:=JV hK3 (lo5 _ U);clear Js lo3 XP Zs8 hM3 hK3 VP lo5 hK hB2 hB3 hw4 hRe hN1;obtain⟨Bs,hBs⟩:∃Bs,w3.heap.size=Bs:=⟨_,rfl⟩;rw[hBs]at hs3 hs5 k0 k1 k2;have hside:R<w5.heap.size/\W.heap.size<w5.heap.size/\W.heap.size+1<w5.heap.size/\R≠Bs/\W.heap.size≠Bs/\W.heap.size+1≠Bs:=U
 have Zhn:Bs<w5.heap.size:=U
 have low:∀pre A,Zbl W.heap.size R (W.heap.size+1) Bs pre w5 A->Below W.heap.size W A:=fun pre A h=>
  ⟨h.os.trans X4.os,h.tape.trans X4.tape,h.output.trans X4.output,by have:=h.size;omega,fun b hb=>(h.keep b U U U U).trans (X4.block b hb)⟩
 have Zp8:Hid (∀pre A,Zbl W.heap.size R (W.heap.size+1) Bs pre w5 A->Below W.heap.size W A):=low;have HNV:Hid (Vx W):=Uv;have hll:=Zrm s;clear low Uv hS;refine ZNd Bs (Bs+1) (Bs+2) s (fun pre A=>Zbl W.heap.size R (W.heap.size+1) Bs pre w5 A) (fun ch A=>∃b,ch=thrown b/\A.cell? ⟨b,0,none⟩=some (.int .i64 1)/\A.cell? ⟨b,1,none⟩=some (.int .i64 (YZ s))/\0<=YZ s/\Below W.heap.size W A/\A.heap[w5.heap.size]? =some (.deferred (some [])))
  func24 (by rw[<-hBs];rfl) rfl U U U (by simp[World.cell?,k0]) (by simp[World.frozen?,k0]) (by simp[World.cell?,k1]) (by simp[World.cell?,k2]) ?_ ?_ ?_ ?_ ?_ ?_
 ·intro pre A v h;exact h.same ZPm rfl rfl rfl hside Zhn (fun b _ hb _ _=>ZXf A ⟨Bs,0,none⟩ v b hb)
 ·intro pre A n h;have hd:=ZW (ZWT A.heap.size A) n;exact h.same hd.size hd.os hd.tape hd.output hside Zhn (fun b _ _ _ _=>by rw[heap_drewN])
 ·have lo:∀b,b<w5.heap.size->∀(tmps:Array Value) (ps:Array Tmp) (U2 bd:Code),(Qg w5 24 tmps ps U2 bd).heap[b]? =w5.heap[b]? :=fun b hb _ _ _ _=>ZbQ hb;have Zt8:∀(tmps:Array Value) (ps:Array Tmp) (U2 bd:Code),(Qg w5 24 tmps ps U2 bd).heap.size=w5.heap.size+2:=fun _ _ _ _=>by simp[Qg]
  refine⟨⟨⟨[],none, []⟩,rfl,⟨U,U,U,U,U,U,?_,List.nodup_nil,?_,?_,⟨rfl, [],rfl,Zxe ((lo _ U ..).trans hM5),fun p hp=>by cases hp⟩,⟨_,(lo R U ..).trans hR5,rfl⟩⟩⟩,rfl,rfl,rfl,?_,fun b hb _ _ _=>lo b hb ..⟩
  ·rw[Zt8];exact ZTg
  ·exact⟨#[],0,(lo _ U ..).trans hM5,⟨ZPm,MapKept.stamped_empty 0,ZPm⟩,ZWS _,rfl⟩
  ·exact JV Yg (lo _ U ..)
  ·rw[Zt8];exact ZTg
 ·intro pre x post A rb A2 hJ hl ZP hL hD;have hJ2:Zbl W.heap.size R (W.heap.size+1) Bs pre w5 A2:=hJ.same (ZYa ZP.size.symm) ZP.os ZP.tape ZP.output hside Zhn (fun b _ _ hb _=>ZP.block b hb);obtain⟨st,hst,hI⟩:=hJ2.st;have hb1:A2.cell? ⟨R+1,0,none⟩=some (.pointer (some ⟨R,0,none⟩)):=by
   have:=(hJ2.keep (R+1) U U U U).trans Zka;simp[World.cell?,this]
  obtain⟨v,hR,_⟩:=hI.last;have c0:A2.cell? ⟨R,0,none⟩=some (.int .i64 pre.length):=ZPH
  have f0:A2.frozen? ⟨R,0,none⟩=false:=by simp[World.frozen?,hR]
  have hxl:x.length<=90000:=by
   have:=Zrn (s:=s) (x:=x) (by rw[<-hl];simp);omega
  have hpl:pre.length+1<=4001:=by
   have:=congrArg List.length hl;exact ZWH
  have hb3:(A2.setCell ⟨R,0,none⟩ (.int .i64 (pre.length+1))).cell? ⟨R+1,0,none⟩=some (.pointer (some ⟨R,0,none⟩)):=(ZXb (a:=⟨R+1,0,none⟩) (ZXf A2 ⟨R,0,none⟩ _ (R+1) (by show R+1≠R;omega))).trans hb1;have HF1:Hid (A2.heap[Bs]? =A.heap[Bs]?/\A2.heap[Bs+1]? =A.heap[Bs+1]?/\A2.heap[Bs+2]? =A.heap[Bs+2]?):=⟨ZP.block _ U,ZP.block _ U,ZP.block _ U⟩;have HJ2:Hid (Zbl W.heap.size R (W.heap.size+1) Bs pre w5 A2):=hJ2;have HL2:Hid (A2.heap[w5.heap.size+1]? =some (.loop rb)):=hL;have HD2:Hid (A2.heap[w5.heap.size]? =some (.deferred (some []))):=hD;have HST:Hid (Vd YI ⟨[],none, []⟩ pre=some st):=hst;have HLN:Hid (pre++x::post=ZX s):=hl;have hI3:RInv (w5.heap.size+2) R W.heap.size (W.heap.size+1) YI (pre.length+1) st (A2.setCell ⟨R,0,none⟩ (.int .i64 (pre.length+1))):=hI.line;have HI3:Hid (RInv (w5.heap.size+2) R W.heap.size (W.heap.size+1) YI (pre.length+1) st (A2.setCell ⟨R,0,none⟩ (.int .i64 (pre.length+1)))):=hI3;have ZOA:w5.heap.size+2<=A2.heap.size:=hJ2.size;clear hJ hJ2 hst hI hR hl ZP hL hD hI3 k0 k1 k2 hR5 Zka hM5 Yg;refine ZdL rfl ZPS ?_;go_wp2;try refine⟨trivial,?_⟩
  refine wpIn_block ?_;refine wpIn_seq ?_;refine ZdL rfl ZPS ?_;go_wp2;have ZtJ:Below W.heap.size W (A2.setCell ⟨R,0,none⟩ (.int .i64 (pre.length+1))):=(Zp8.out pre A2 HJ2.out).setCell (p:=⟨R,0,none⟩) (show W.heap.size<=R by omega) _;have ZD7:=HNV.out.below ZtJ hG;refine ZdL rfl ZPS ?_;go_wp2_with fail;refine(ZJN (w5.heap.size+2) R W.heap.size (W.heap.size+1) YI (pre.length+1) st x _ hxl HI3.out ZD7 U).mono ?_;rintro e A4 (⟨st',h1,rfl,h3,h4⟩|⟨h1,b,rfl,hb0,hbl,hB3⟩)
  ·have H1:Hid (Xm YI st x=some st'):=h1;clear h1;go_wp2;have lo4:∀b,b<w5.heap.size+2->b≠R->b≠W.heap.size->A4.heap[b]? =A2.heap[b]? :=fun b hb h1 h2=>(h4.block b hb h1 h2).trans (ZXf A2 ⟨R,0,none⟩ _ b h1);have hs4:A2.heap.size<=A4.heap.size:=by have:=h4.size;simp at this;exact this
   have hJ4:Zbl W.heap.size R (W.heap.size+1) Bs (pre++ [x]) w5 A4:=by
    refine⟨⟨st',ZqC YI x pre _ st st' HST.out H1.out,?_⟩,h4.os.trans HJ2.out.os,h4.tape.trans HJ2.out.tape,h4.output.trans HJ2.out.output,U,fun b hb1 hb2 hb3 hb4=>(lo4 b U hb2 hb3).trans (HJ2.out.keep b hb1 hb2 hb3 hb4)⟩;rw[ZW9,List.length_singleton];exact h3
   refine⟨(lo4 _ U U U).trans HL2.out,(lo4 _ U U U).trans HD2.out,fun A' hO=>⟨?_,?_,?_,?_⟩⟩
   ·exact hJ4.same (ZYa hO.size.symm) hO.os hO.tape hO.output hside Zhn (fun b _ _ hb _=>hO.block b hb)
   ·exact(hO.block _ U).trans ((lo4 _ U U U).trans HF1.out.1)
   ·exact(hO.block _ U).trans ((lo4 _ U U U).trans HF1.out.2.1)
   ·exact(hO.block _ U).trans ((lo4 _ U U U).trans HF1.out.2.2)
  ·have HRD:Hid (YZ s=(pre.length:Int)+1):=by
    show YZ s=_;rw[Zr3 s U,<-HLN.out,Zwl YI x post pre _ st 0 HST.out h1];simp
   clear h1;go_wp2;refine⟨rfl,b,rfl,hb0,?_,?_,?_,?_⟩
   ·rw[HRD.out];exact hbl
   ·rw[HRD.out];omega
   ·exact ZtJ.trans (hB3.mono U)
   ·have y1:=(hB3.block w5.heap.size U).trans ((ZXf A2 ⟨R,0,none⟩ _ w5.heap.size (by show w5.heap.size≠R;omega)).trans HD2.out);first|exact y1|(rw[<-hs5];exact y1)
 ·intro A A2 hJ ZP hD;have hJ2:Zbl W.heap.size R (W.heap.size+1) Bs (ZX s) w5 A2:=hJ.same (ZYa ZP.size.symm) ZP.os ZP.tape ZP.output hside Zhn (fun b _ _ hb _=>ZP.block b hb);obtain⟨st,hst,hI⟩:=hJ2.st;have hb1:A2.cell? ⟨R+1,0,none⟩=some (.pointer (some ⟨R,0,none⟩)):=by
   have:=(hJ2.keep (R+1) U U U U).trans Zka;simp[World.cell?,this]
  obtain⟨v,hR,_⟩:=hI.last;have c1:A2.cell? ⟨R,1,none⟩=some (.map (some W.heap.size)):=ZPH
  have HRD:Hid (YZ s= -1):=by
   show YZ s=_;rw[Zr3 s U];exact Zwm YI _ _ st 0 hst
  have HB:Hid (Below W.heap.size W A2):=Zp8.out _ A2 hJ2;have HTM:Hid (Vd YI ⟨[],none, []⟩ (ZX s)=some st/\E8 (w5.heap.size+2) A2 W.heap.size st.names st.tabs):=⟨hst,hI.tabs⟩;have HD2:Hid (A2.heap[w5.heap.size]? =some (.deferred (some []))):=hD;clear hJ hJ2 hst hI hR ZP hD k0 k1 k2 hR5 Zka hM5 Yg;refine QL ?_;go_wp2;have hlow:=HB.out;have y1:=HD2.out;try rw[hs5]at y1
  refine ZkJ (v:=.map (some W.heap.size)) y1 (by simp[results,Tryz.results24]) ⟨?_,.inl ⟨HRD.out,_,rfl,ZWS _,st,w5.heap.size+2,HTM.out.1,U,HTM.out.2.keep (ZXz U) (fun b _ hb=>ZXz U)⟩⟩;exact ZTT
 ·rintro ch A ⟨b,rfl,hb0,hb1,hd0,hBl,hD⟩;have hbD:b≠w5.heap.size:=by
   intro e;rw[e]at hb0;simp[World.cell?,hD]at hb0
  refine Zor rfl hD ⟨⟨hBl.os,hBl.tape,hBl.output,by rw[Za1];exact hBl.size,fun k hk=>(ZXz U).trans (hBl.block k hk)⟩,.inr ⟨hd0,b,rfl,?_,?_⟩⟩
  ·exact(ZXb (a:=⟨b,0,none⟩) (ZXz hbD)).trans hb0
  ·exact(ZXb (a:=⟨b,1,none⟩) (ZXz hbD)).trans hb1
theorem ZLA(s:Za)(W:World)(hs:s.length<=90000)(hS:UZ W)(Uv:Vx W)(hG:13<=W.heap.size):
  Calls prog 24 #[.string ⟨s.toArray⟩] W fun e W'=>ZmJ s W.heap.size W e W':=by
 by_cases h:s.length>4000
 ·exact ZLC s W hs h
 ·exact ZLB s W U hS Uv hG
end
end Go.Proofs.YthmlacabmlghbaaGreatDoor
