import Derived.Test.YthmlacabmlghbaaGreatDoorBgJa38
set_option maxRecDepth 100000
set_option maxHeartbeats 8000000
set_option linter.unusedSimpArgs false
set_option linter.unusedVariables false
namespace Go.Proofs.YthmlacabmlghbaaGreatDoor
open Go.Proofs.Tryz
open Go.RowKit
section
open T NT PK
def ZgN(l:List (Value×Value))(t:Tr):Prop:=∀Pb n0 W,Zl Pb n0 W (.srs l) t
def ZyP(Pb:Nat)(ws:List RW)(k n0 k':Nat)(x:Value)(w':World):Prop:=∃l t,l≠ []/\Lay Pb n0 w' x l/\ZgN l t/\D sources (sl ws k k') (nd {kind:= [114,111,119]} t)
theorem ZHg{ws:List RW}{k1:Nat}(h:hd ws k1≠some comma):ans (R sources) (Zc ws k1)=some (Zc ws k1):=by
 cases e:Zc ws k1 with
 |nil=>exact Zdf sources ZPm
 |cons u r=>rw[ZqN,ZWQ (fun hu=>h ZPR)]
theorem Zu8{ws:List RW}{k1:Nat}(h:hd ws k1=some comma):ans (R sources) (Zc ws k1)=(ans (P source) (Zc ws (k1+1))).bind (ans (R sources)):=by
 rw[XW h,ZqN,ZWR rfl]
theorem ZIU(Pb:Nat)(ws:List RW)(k:Nat)(W:World)(hP:PS Pb ws k W)(hq:∀k' W',k<=k'->PS Pb ws k' W'->Calls prog 184 #[.pointer (some ⟨Pb,0,none⟩)] W' (YR Pb ws k' (ans (P source) (Zc ws k')) (Zl8 ws k') W')):
  Calls prog 183 #[.pointer (some ⟨Pb,0,none⟩),.func (.func 184) #[.pointer (some ⟨Pb,0,none⟩)] #[]] W (YR Pb ws k (ans (P sources) (Zc ws k)) (ZyP Pb ws k W.heap.size) W):=by
 have hok:=hP.ok;have hlen:=hP.len;have ZC:=hP.lt;obtain⟨i0,hi0,hz0,hz1,hz2⟩:=ZXd Tryz.ZEM;go_enter func183,ntmps183;go_wp2_with fail;refine(hq k W (ZWS _) hP).mono ?_;rintro e w1 (⟨k1,x,hle,hA,rfl,⟨n,s,rfl,hD⟩,hP1,hK1⟩|⟨hA,b,rfl,h1,h2,h3⟩)
 ·have HA1:Hid (ans (P sources) (Zc ws k)=ans (R sources) (Zc ws k1)):=by show _=_;rw[Zq3,hA,Option.bind_some]
  have HD:Hid (D sources (sl ws k k1) (nd {kind:= [114,111,119]} (l1 (nd {kind:= [115,111,117,114,99,101],text:=n,Zx:=s} .nil)))):=.Ei hD;have ZbB:=Zd1 hA;rw[ZcX,ZcX]at ZbB;clear hA hD;unfold Zv;have hl1:=hP1.le;have hR1:ZgN [(.string ⟨n.toArray⟩,.string ⟨s.toArray⟩)] (l1 (nd {kind:= [115,111,117,114,99,101],text:=n,Zx:=s} .nil)):=fun _ _ _=>.ZbT .ZeR;have hown:(w1.alloc (.cells #[.string ⟨n.toArray⟩,.string ⟨s.toArray⟩] 304)).ownsRow W.heap.size 304 2 (.slice (some ⟨w1.heap.size,0,none⟩) 1 1) 1 (Qb [(.string ⟨n.toArray⟩,.string ⟨s.toArray⟩)]):=World.ownsRow_lit w1 #[.string ⟨n.toArray⟩,.string ⟨s.toArray⟩] 1 hK1.size ZPq rfl;go_wp2_with fail;go_loopg [5] (ws.length-k1+1) (fun gk pv wr=>∃(k1:Nat) (l:List (Value×Value)) (t:Tr),gk=ws.length-k1+1/\k1<=ws.length/\k<=k1/\l≠ []/\l.length<=k1/\(∀p∈l,∀n,p.1≠.int .i64 n)/\wr.ownsRow W.heap.size 304 2 pv l.length (Qb l)/\Hid (D sources (sl ws k k1) (nd {kind:= [114,111,119]} t))/\ZgN l t/\Hid (ans (P sources) (Zc ws k)=ans (R sources) (Zc ws k1))/\PS Pb ws k1 wr/\Zb Pb W wr);case atStart=>exact⟨k1,_,_,rfl,hl1,hle,ZPm,ZPo,ZRJ,hown,HD,hR1,HA1,hP1.keep (ZO _),hK1.trans (Zb.alloc Pb _ _)⟩
  case round=>
   obtain⟨k1,l,t,rfl,hl1,hle,hne,hll,hni,hown,HD,hR,HA1,hP1,hK⟩:=hrel;go_wp2_with fail;refine(Ee Pb ws k1 [44] comma _ hP1 ZPl).mono ?_;rintro e w2 ⟨hK2,⟨hi,rfl,hP2⟩|⟨hi,rfl,hP2⟩⟩
   ·have Hi:Hid (hd ws k1=some comma):=hi;clear hi;go_wp2_with fail;refine(hq (k1+1) _ U hP2).mono ?_;rintro e w3 (⟨k3,x,hle3,hA3,rfl,⟨n3,s3,rfl,hD3⟩,hP3,hK3⟩|⟨hA3,b,rfl,h1,h2,h3⟩)
    ·unfold Zv;have hown3:=ZfR hown (hK2.trans hK3) ZC;have ZM:=hK.trans (hK2.trans hK3);have hl3:=hP3.le;have Zn1:=ZM.size;have ZaM:=hown3.alloc (.cells #[.string ⟨n3.toArray⟩,.string ⟨s3.toArray⟩] 304);have ZhB:=hP3.keep (ZO (.cells #[.string ⟨n3.toArray⟩,.string ⟨s3.toArray⟩] 304));have Zhv:=ZM.trans (Zb.alloc Pb w3 (.cells #[.string ⟨n3.toArray⟩,.string ⟨s3.toArray⟩] 304));have XL:Hid (ans (P sources) (Zc ws k)=ans (R sources) (Zc ws k3)):=by show _=_;rw[HA1.out,Zu8 Hi.out,hA3,Option.bind_some]
     have HD5:Hid (D sources (sl ws k k3) (nd {kind:= [114,111,119]} (t.snoc (nd {kind:= [115,111,117,114,99,101],text:=n3,Zx:=s3} .nil)))):=by
      show D _ _ _;have lc:=Yu Hi.out;rw[QR ws (show k<=k1 by omega) (show k1<=k3 by omega),Yj lc U];exact .UI (Yc Hi.out lc) HD.out hD3
     have hR5:ZgN (l++ [(.string ⟨n3.toArray⟩,.string ⟨s3.toArray⟩)]) (t.snoc (nd {kind:= [115,111,117,114,99,101],text:=n3,Zx:=s3} .nil)):=fun _ _ _=>(hR _ _ _).ZLl;have hne5:l++ [(.string ⟨n3.toArray⟩,.string ⟨s3.toArray⟩)]≠ []:=ZPm
     have ZhV:∀p∈l++ [((.string ⟨n3.toArray⟩,.string ⟨s3.toArray⟩):Value×Value)],∀n,p.1≠.int .i64 n:=by
      intro p hp n;rcases ZXt.1 hp with hp|hp
      ·exact hni p hp n
      ·simp at hp;rw[hp];simp
     have hrow:=Zo7 ZaM hne hni ZC;have EG:Qb (l++ [((.string ⟨n3.toArray⟩,.string ⟨s3.toArray⟩):Value×Value)])=Qb l++ [.string ⟨n3.toArray⟩,.string ⟨s3.toArray⟩]:=by simp[Qb]
     have HC5:Hid (Qb (l++ [((.string ⟨n3.toArray⟩,.string ⟨s3.toArray⟩):Value×Value)])=Qb l++ [.string ⟨n3.toArray⟩,.string ⟨s3.toArray⟩]):=EG;have HL5:Hid ((l++ [((.string ⟨n3.toArray⟩,.string ⟨s3.toArray⟩):Value×Value)]).length=l.length+1):=by show _=_;simp
     clear EG hA3 hD3 HA1 HD hR;go_wp2_with (at_builtin;go_must (refine ZXg _ rfl _ _ 212 rfl W.heap.size 304 i0 (.agg #[.string ⟨#[]⟩,.string ⟨#[]⟩]) 2 32 underlying212 hi0 hz0 hz1 hz2 rfl ZPl _ _ _ rfl ZaM ⟨w3.heap.size,0,none⟩ 1 1 [.string ⟨n3.toArray⟩,.string ⟨s3.toArray⟩] rfl rfl (ZmW _ _ _ _) ZPA ZPq U ZPo ?_);intro v' w5 hown' hgrow _);go_roundg (ws.length-k3+1);case measure=>omega
     case rel=>exact ZT0
    ·have HA:Hid (ans (P sources) (Zc ws k)=none):=by show _=_;rw[HA1.out,Zu8 Hi.out,hA3];rfl
     exact ZSS
   ·have HA:Hid (ans (P sources) (Zc ws k)=some (Zc ws k1)):=by show _=_;rw[HA1.out,ZHg hi]
    exact ZU0
 ·have HA:Hid (ans (P sources) (Zc ws k)=none):=by show _=_;rw[Zq3,hA];rfl
  exact ZSU
def ZgL(l:List (Value×Value))(t:Tr):Prop:=∀Pb n0 W,Zl Pb n0 W (.cls l) t
def Zxx(Pb:Nat)(ws:List RW)(k n0 k':Nat)(x:Value)(w':World):Prop:=∃l t,l≠ []/\Lay Pb n0 w' x l/\ZgL l t/\D Zu (sl ws k k') (nd {kind:= [114,111,119]} t)
theorem ZHf{ws:List RW}{k1:Nat}(h:hd ws k1≠some comma):ans (R Zu) (Zc ws k1)=some (Zc ws k1):=by
 cases e:Zc ws k1 with
 |nil=>exact Zdf Zu ZPm
 |cons u r=>rw[ZqI,ZWQ (fun hu=>h ZPR)]
theorem Zu7{ws:List RW}{k1:Nat}(h:hd ws k1=some comma):ans (R Zu) (Zc ws k1)=(ans (P column) (Zc ws (k1+1))).bind (ans (R Zu)):=by
 rw[XW h,ZqI,ZWR rfl]
theorem ZIS(Pb:Nat)(ws:List RW)(k:Nat)(W:World)(hP:PS Pb ws k W)(hq:∀k' W',k<=k'->PS Pb ws k' W'->Calls prog 187 #[.pointer (some ⟨Pb,0,none⟩)] W' (YR Pb ws k' (ans (P column) (Zc ws k')) (ZiN ws k') W')):
  Calls prog 186 #[.pointer (some ⟨Pb,0,none⟩),.func (.func 187) #[.pointer (some ⟨Pb,0,none⟩)] #[]] W (YR Pb ws k (ans (P Zu) (Zc ws k)) (Zxx Pb ws k W.heap.size) W):=by
 have hok:=hP.ok;have hlen:=hP.len;have ZC:=hP.lt;obtain⟨i0,hi0,hz0,hz1,hz2⟩:=ZXd Tryz.ZEF;go_enter func186,ntmps186;go_wp2_with fail;refine(hq k W (ZWS _) hP).mono ?_;rintro e w1 (⟨k1,x,hle,hA,rfl,⟨n,s,rfl,hD⟩,hP1,hK1⟩|⟨hA,b,rfl,h1,h2,h3⟩)
 ·have HA1:Hid (ans (P Zu) (Zc ws k)=ans (R Zu) (Zc ws k1)):=by show _=_;rw[ZqV,hA,Option.bind_some]
  have HD:Hid (D Zu (sl ws k k1) (nd {kind:= [114,111,119]} (l1 (nd {kind:= [99,111,108,117,109,110],Zd:=n,text:=s} .nil)))):=.KU hD;have ZbB:=Zd1 hA;rw[ZcX,ZcX]at ZbB;clear hA hD;unfold Zv;have hl1:=hP1.le;have hR1:ZgL [(.string ⟨n.toArray⟩,.string ⟨s.toArray⟩)] (l1 (nd {kind:= [99,111,108,117,109,110],Zd:=n,text:=s} .nil)):=fun _ _ _=>.Zbr .Zdl;have hown:(w1.alloc (.cells #[.string ⟨n.toArray⟩,.string ⟨s.toArray⟩] 344)).ownsRow W.heap.size 344 2 (.slice (some ⟨w1.heap.size,0,none⟩) 1 1) 1 (Qb [(.string ⟨n.toArray⟩,.string ⟨s.toArray⟩)]):=World.ownsRow_lit w1 #[.string ⟨n.toArray⟩,.string ⟨s.toArray⟩] 1 hK1.size ZPq rfl;go_wp2_with fail;go_loopg [5] (ws.length-k1+1) (fun gk pv wr=>∃(k1:Nat) (l:List (Value×Value)) (t:Tr),gk=ws.length-k1+1/\k1<=ws.length/\k<=k1/\l≠ []/\l.length<=k1/\(∀p∈l,∀n,p.1≠.int .i64 n)/\wr.ownsRow W.heap.size 344 2 pv l.length (Qb l)/\Hid (D Zu (sl ws k k1) (nd {kind:= [114,111,119]} t))/\ZgL l t/\Hid (ans (P Zu) (Zc ws k)=ans (R Zu) (Zc ws k1))/\PS Pb ws k1 wr/\Zb Pb W wr);case atStart=>exact⟨k1,_,_,rfl,hl1,hle,ZPm,ZPo,ZRJ,hown,HD,hR1,HA1,hP1.keep (ZO _),hK1.trans (Zb.alloc Pb _ _)⟩
  case round=>
   obtain⟨k1,l,t,rfl,hl1,hle,hne,hll,hni,hown,HD,hR,HA1,hP1,hK⟩:=hrel;go_wp2_with fail;refine(Ee Pb ws k1 [44] comma _ hP1 ZPl).mono ?_;rintro e w2 ⟨hK2,⟨hi,rfl,hP2⟩|⟨hi,rfl,hP2⟩⟩
   ·have Hi:Hid (hd ws k1=some comma):=hi;clear hi;go_wp2_with fail;refine(hq (k1+1) _ U hP2).mono ?_;rintro e w3 (⟨k3,x,hle3,hA3,rfl,⟨n3,s3,rfl,hD3⟩,hP3,hK3⟩|⟨hA3,b,rfl,h1,h2,h3⟩)
    ·unfold Zv;have hown3:=ZfR hown (hK2.trans hK3) ZC;have ZM:=hK.trans (hK2.trans hK3);have hl3:=hP3.le;have Zn1:=ZM.size;have ZaM:=hown3.alloc (.cells #[.string ⟨n3.toArray⟩,.string ⟨s3.toArray⟩] 344);have ZhB:=hP3.keep (ZO (.cells #[.string ⟨n3.toArray⟩,.string ⟨s3.toArray⟩] 344));have Zhv:=ZM.trans (Zb.alloc Pb w3 (.cells #[.string ⟨n3.toArray⟩,.string ⟨s3.toArray⟩] 344));have XL:Hid (ans (P Zu) (Zc ws k)=ans (R Zu) (Zc ws k3)):=by show _=_;rw[HA1.out,Zu7 Hi.out,hA3,Option.bind_some]
     have HD5:Hid (D Zu (sl ws k k3) (nd {kind:= [114,111,119]} (t.snoc (nd {kind:= [99,111,108,117,109,110],Zd:=n3,text:=s3} .nil)))):=by
      show D _ _ _;have lc:=Yu Hi.out;rw[QR ws (show k<=k1 by omega) (show k1<=k3 by omega),Yj lc U];exact .Ud (Yc Hi.out lc) HD.out hD3
     have hR5:ZgL (l++ [(.string ⟨n3.toArray⟩,.string ⟨s3.toArray⟩)]) (t.snoc (nd {kind:= [99,111,108,117,109,110],Zd:=n3,text:=s3} .nil)):=fun _ _ _=>(hR _ _ _).ZBF;have hne5:l++ [(.string ⟨n3.toArray⟩,.string ⟨s3.toArray⟩)]≠ []:=ZPm
     have ZhV:∀p∈l++ [((.string ⟨n3.toArray⟩,.string ⟨s3.toArray⟩):Value×Value)],∀n,p.1≠.int .i64 n:=by
      intro p hp n;rcases ZXt.1 hp with hp|hp
      ·exact hni p hp n
      ·simp at hp;rw[hp];simp
     have hrow:=Zo7 ZaM hne hni ZC;have EG:Qb (l++ [((.string ⟨n3.toArray⟩,.string ⟨s3.toArray⟩):Value×Value)])=Qb l++ [.string ⟨n3.toArray⟩,.string ⟨s3.toArray⟩]:=by simp[Qb]
     have HC5:Hid (Qb (l++ [((.string ⟨n3.toArray⟩,.string ⟨s3.toArray⟩):Value×Value)])=Qb l++ [.string ⟨n3.toArray⟩,.string ⟨s3.toArray⟩]):=EG;have HL5:Hid ((l++ [((.string ⟨n3.toArray⟩,.string ⟨s3.toArray⟩):Value×Value)]).length=l.length+1):=by show _=_;simp
     clear EG hA3 hD3 HA1 HD hR;go_wp2_with (at_builtin;go_must (refine ZXg _ rfl _ _ 215 rfl W.heap.size 344 i0 (.agg #[.string ⟨#[]⟩,.string ⟨#[]⟩]) 2 32 underlying215 hi0 hz0 hz1 hz2 rfl ZPl _ _ _ rfl ZaM ⟨w3.heap.size,0,none⟩ 1 1 [.string ⟨n3.toArray⟩,.string ⟨s3.toArray⟩] rfl rfl (ZmW _ _ _ _) ZPA ZPq U ZPo ?_);intro v' w5 hown' hgrow _);go_roundg (ws.length-k3+1);case measure=>omega
     case rel=>exact ZT0
    ·have HA:Hid (ans (P Zu) (Zc ws k)=none):=by show _=_;rw[HA1.out,Zu7 Hi.out,hA3];rfl
     exact ZSS
   ·have HA:Hid (ans (P Zu) (Zc ws k)=some (Zc ws k1)):=by show _=_;rw[HA1.out,ZHf hi]
    exact ZU0
 ·have HA:Hid (ans (P Zu) (Zc ws k)=none):=by show _=_;rw[ZqV,hA];rfl
  exact ZSU
end
section
open T NT PK
def ZgP(ws:List RW)(k:Nat)(t:T)(b:Bool)(k2:Nat):Prop:=b=true/\hd ws k=some t/\k2=k+1\/b=false/\hd ws k≠some t/\k2=k
theorem Ziw(Pb:Nat)(ws:List RW)(k:Nat)(s:Za)(t:T)(W:World)(hP:PS Pb ws k W)(hs:spells s t=true):
  Calls prog 142 #[.pointer (some ⟨Pb,0,none⟩),.string ⟨s.toArray⟩] W fun e w'=>∃b k2,e= .returned (.bool b)/\Hid (ZgP ws k t b k2)/\PS Pb ws k2 w'/\Zb Pb W w':=by
 refine(Ee Pb ws k s t W hP hs).mono ?_;rintro e w1 ⟨hK,⟨hf,rfl,hP1⟩|⟨hf,rfl,hP1⟩⟩
 ·exact⟨true,k+1,rfl,.inl ⟨rfl,hf,rfl⟩,hP1,hK⟩
 ·exact⟨false,k,rfl,.inr ⟨rfl,hf,rfl⟩,hP1,hK⟩
structure X0 (Pb:Nat) (ws:List RW) (W:World) (k:Nat) (w:World) (b:Bool) (i f x g h:Value):Prop where
 ps:PS Pb ws k w
 kp:Zb Pb W w
 ob:w.heap[W.heap.size]? =some (.cells #[.bool b,i,f,x,g,h] 217 (0,0))
theorem X0.keep{Pb:Nat}{ws:List RW}{W:World}{k k':Nat}{w w':World}{b:Bool}{i f x g h:Value}(hs:X0 Pb ws W k w b i f x g h)(hK:Zb Pb w w')(hP:PS Pb ws k' w')(ZC:Pb<W.heap.size):X0 Pb ws W k' w' b i f x g h:=
 ⟨hP,hs.kp.trans hK,hK.obj U hs.ob⟩
theorem X0.cells{Pb:Nat}{ws:List RW}{W:World}{k:Nat}{w:World}{b:Bool}{i f x g h:Value}(hs:X0 Pb ws W k w b i f x g h):w.cell? ⟨W.heap.size,0,none⟩=some (.bool b)/\w.cell? ⟨W.heap.size,1,none⟩=some i/\w.cell? ⟨W.heap.size,2,none⟩=some f/\w.cell? ⟨W.heap.size,3,none⟩=some x/\w.cell? ⟨W.heap.size,4,none⟩=some g/\w.cell? ⟨W.heap.size,5,none⟩=some h/\(∀o,w.frozen? ⟨W.heap.size,o,none⟩=false):=by
 have ho:=hs.ob;exact⟨ZQo,ZQo,ZQo,ZQo,ZQo,ZQo,fun o=>by simp only[World.frozen?,ho];rfl⟩
theorem X0.ps2{Pb:Nat}{ws:List RW}{W:World}{k:Nat}{w:World}{b:Bool}{i f x g h:Value}(hs:X0 Pb ws W k w b i f x g h)(ZC:Pb<W.heap.size)(o:Nat)(v:Value):PS Pb ws k (w.setCell ⟨W.heap.size,o,none⟩ v)/\Zb Pb W (w.setCell ⟨W.heap.size,o,none⟩ v):=
 hs.ps.own hs.kp (ZWS _) ZC hs.cells.1 ZP1 o v
theorem X0.set0{Pb:Nat}{ws:List RW}{W:World}{k:Nat}{w:World}{b:Bool}{i f x g h:Value}(hs:X0 Pb ws W k w b i f x g h)(ZC:Pb<W.heap.size)(c:Bool):X0 Pb ws W k (w.setCell ⟨W.heap.size,0,none⟩ (.bool c)) c i f x g h:=
 ⟨(hs.ps2 ZC 0 _).1,(hs.ps2 ZC 0 _).2,Xn hs.ob⟩
theorem X0.set1{Pb:Nat}{ws:List RW}{W:World}{k:Nat}{w:World}{b:Bool}{i f x g h:Value}(hs:X0 Pb ws W k w b i f x g h)(ZC:Pb<W.heap.size)(v:Value):X0 Pb ws W k (w.setCell ⟨W.heap.size,1,none⟩ v) b v f x g h:=
 ⟨(hs.ps2 ZC 1 _).1,(hs.ps2 ZC 1 _).2,Xn hs.ob⟩
theorem X0.set2{Pb:Nat}{ws:List RW}{W:World}{k:Nat}{w:World}{b:Bool}{i f x g h:Value}(hs:X0 Pb ws W k w b i f x g h)(ZC:Pb<W.heap.size)(v:Value):X0 Pb ws W k (w.setCell ⟨W.heap.size,2,none⟩ v) b i v x g h:=
 ⟨(hs.ps2 ZC 2 _).1,(hs.ps2 ZC 2 _).2,Xn hs.ob⟩
theorem X0.ZKZ{Pb:Nat}{ws:List RW}{W:World}{k:Nat}{w:World}{b:Bool}{i f x g h:Value}(hs:X0 Pb ws W k w b i f x g h)(ZC:Pb<W.heap.size)(v:Value):X0 Pb ws W k (w.setCell ⟨W.heap.size,3,none⟩ v) b i f v g h:=
 ⟨(hs.ps2 ZC 3 _).1,(hs.ps2 ZC 3 _).2,Xn hs.ob⟩
theorem X0.ZK0{Pb:Nat}{ws:List RW}{W:World}{k:Nat}{w:World}{b:Bool}{i f x g h:Value}(hs:X0 Pb ws W k w b i f x g h)(ZC:Pb<W.heap.size)(v:Value):X0 Pb ws W k (w.setCell ⟨W.heap.size,4,none⟩ v) b i f x v h:=
 ⟨(hs.ps2 ZC 4 _).1,(hs.ps2 ZC 4 _).2,Xn hs.ob⟩
theorem X0.ZK1{Pb:Nat}{ws:List RW}{W:World}{k:Nat}{w:World}{b:Bool}{i f x g h:Value}(hs:X0 Pb ws W k w b i f x g h)(ZC:Pb<W.heap.size)(v:Value):X0 Pb ws W k (w.setCell ⟨W.heap.size,5,none⟩ v) b i f x g v:=
 ⟨(hs.ps2 ZC 5 _).1,(hs.ps2 ZC 5 _).2,Xn hs.ob⟩
theorem Lay.keep{Pb n0:Nat}{W W':World}{x:Value}{l:List (Value×Value)}(h:Lay Pb n0 W x l)(hK:Zb Pb W W'):Lay Pb n0 W' x l:=h.same fun g o v _ hg hc=>hK.cell hg hc
theorem Lay.JX{Pb n0:Nat}{W:World}{x:Value}{l:List (Value×Value)}(h:Lay Pb n0 W x l){b:Nat}(hb:b<n0)(o:Nat)(v:Value):Lay Pb n0 (W.setCell ⟨b,o,none⟩ v) x l:=
 h.same fun g o' v' hg _ hc=>(World.cell?_setCell_far W ⟨b,o,none⟩ ⟨g,o',none⟩ v (fun e=>by have:b=g:=e;omega)).trans hc
def Zfd(Pb n0:Nat)(w:World)(c:Bool)(i:Value)(t:Tr):Prop:=∃is,(c=true/\i= .slice none 0 0/\is= []\/c=false/\is≠ []/\Lay Pb n0 w i is)/\ZgM is t
def Zfg(Pb n0:Nat)(w:World)(f:Value)(t:Tr):Prop:=∃fs,fs≠ []/\Lay Pb n0 w f fs/\ZgN fs t
def Zgm(Pb n0:Nat)(w:World)(g:Value)(t:Tr):Prop:=∃gs,(g= .slice none 0 0/\gs= []\/gs≠ []/\Lay Pb n0 w g gs)/\ZgL gs t
def Es(Pb n0:Nat)(w:World)(x:Value)(t:Tr):Prop:=x= .nilIface/\t= .nil\/Zl Pb n0 w (.v x) t
theorem Zfd.same{Pb n0:Nat}{w w':World}{c:Bool}{i:Value}{t:Tr}(h:Zfd Pb n0 w c i t)(hL:∀x l,Lay Pb n0 w x l->Lay Pb n0 w' x l):Zfd Pb n0 w' c i t:=by
 obtain⟨is,h1,h2⟩:=h;exact⟨is,h1.imp id (fun⟨a,b,c⟩=>⟨a,b,hL _ _ c⟩),h2⟩
theorem Zfg.same{Pb n0:Nat}{w w':World}{i:Value}{t:Tr}(h:Zfg Pb n0 w i t)(hL:∀x l,Lay Pb n0 w x l->Lay Pb n0 w' x l):Zfg Pb n0 w' i t:=by
 obtain⟨is,h1,h2,h3⟩:=h;exact⟨is,h1,hL _ _ h2,h3⟩
theorem Zgm.same{Pb n0:Nat}{w w':World}{i:Value}{t:Tr}(h:Zgm Pb n0 w i t)(hL:∀x l,Lay Pb n0 w x l->Lay Pb n0 w' x l):Zgm Pb n0 w' i t:=by
 obtain⟨is,h1,h2⟩:=h;exact⟨is,h1.imp id (fun⟨a,b⟩=>⟨a,hL _ _ b⟩),h2⟩
theorem Es.keep{Pb n0:Nat}{w w':World}{i:Value}{t:Tr}(h:Es Pb n0 w i t)(hK:Zb Pb w w'):Es Pb n0 w' i t:=h.imp id (fun r=>r.keep hK)
theorem Es.JX{Pb n0:Nat}{w:World}{i:Value}{t:Tr}(h:Es Pb n0 w i t){b:Nat}(hb:b<n0)(o:Nat)(v:Value):Es Pb n0 (w.setCell ⟨b,o,none⟩ v) i t:=h.imp id (fun r=>r.JX hb o v)
theorem Es.parts{Pb n0:Nat}{w:World}{x:Value}{t:Tr}(h:Es Pb n0 w x t):(x= .nilIface/\t= .nil\/x≠.nilIface/\t.isNode=true)/\(x≠.nilIface->Zl Pb n0 w (.v x) t):=by
 rcases h with⟨rfl,rfl⟩|h
 ·exact⟨.inl ⟨rfl,rfl⟩,fun e=>absurd rfl e⟩
 ·obtain⟨n,y,rfl⟩:=h.iface;exact⟨.inr ⟨ZPm,h.node⟩,fun _=>h⟩
theorem Zpd{Pb n0:Nat}{w:World}{b c:Bool}{i f x g h:Value}{ti tf tw tg th:Tr}(h1:Zfd Pb n0 w c i ti)(h2:Zfg Pb n0 w f tf)(h3:Zgm Pb n0 w g tg)(h4:Es Pb n0 w x tw)(h5:Es Pb n0 w h th):
  Zl Pb n0 w (.v (.iface 217 (.agg #[.bool b,i,f,x,g,h]))) (XV c b ti (ZV tf tg tw th)):=by
 obtain⟨is,a1,a2⟩:=h1;obtain⟨fs,b1,b2,b3⟩:=h2;obtain⟨gs,c1,c2⟩:=h3;exact Zl.select a1 ⟨b1,b2⟩ c1 (a2 _ _ _) (b3 _ _ _) (c2 _ _ _) h4.parts.1 h5.parts.1 h4.parts.2 h5.parts.2
def Behind(ws:List RW)(k6 k':Nat)(g h:Tr):Prop:=k'=k6/\hd ws k6≠some group/\g= .nil/\h= .nil\/hd ws k6=some group/\hd ws (k6+1)=some Y7/\k6+2<=k'/\D Z6 (sl ws (k6+2) k') (ZV .nil g .nil h)
theorem ZMi{ws:List RW}{a k5 k':Nat}{tf g h:Tr}(hD:D sources (sl ws a k5) (nd {kind:= [114,111,119]} tf))(ha:a<=k5)(hB:Behind ws k5 k' g h):D tail (sl ws a k') (ZV tf g .nil h):=by
 rcases hB with⟨rfl,_,rfl,rfl⟩|⟨h1,h2,h3,h4⟩
 ·exact .UM hD
 ·have l1:=Yu h1;have l2:=Yu h2;rw[QR ws ha (show k5<=k' by omega),Yj l1 U,Yj l2 U];exact .UL (Yc h1 l1) (Yc h2 l2) hD h4
theorem ZMj{ws:List RW}{a k5 k6 k':Nat}{tf g h tw:Tr}(hD:D sources (sl ws a k5) (nd {kind:= [114,111,119]} tf))(ha:a<=k5)(hw:hd ws k5=some Y2)(hC:D cnd (sl ws (k5+1) k6) tw)(hk:k5+1<=k6)(hB:Behind ws k6 k' g h):D tail (sl ws a k') (ZV tf g tw h):=by
 have l1:=Yu hw;rcases hB with⟨rfl,_,rfl,rfl⟩|⟨h1,h2,h3,h4⟩
 ·rw[QR ws ha (show k5<=k' by omega),Yj l1 U];exact .V5 (Yc hw l1) hD (.U1 hC)
 ·have l2:=Yu h1;have l3:=Yu h2;rw[QR ws ha (show k5<=k' by omega),Yj l1 U,QR ws hk (show k6<=k' by omega),Yj l2 U,Yj l3 U];exact .V5 (Yc hw l1) hD (.Ub (Yc h1 l2) (Yc h2 l3) hC h4)
theorem ZBC{ws:List RW}{k k1 k':Nat}{b:Bool}{tt:Tr}(h0:hd ws k=some Yk)(h1:ZgP ws (k+1) ZU b k1)(h2:hd ws k1=some T.star)(h3:hd ws (k1+1)=some YA)(hle:k1+2<=k')(hT:D tail (sl ws (k1+2) k') tt):D core (sl ws k k') (XV true b .nil tt):=by
 have l0:=Yu h0;have l2:=Yu h2;have l3:=Yu h3;rcases h1 with⟨rfl,h1,rfl⟩|⟨rfl,h1,rfl⟩
 ·have l1:=Yu h1;rw[Yj l0 U,Yj l1 U,Yj l2 U,Yj l3 U];exact .Uf (Yc h0 l0) (Yc h1 l1) (Yc h2 l2) (Yc h3 l3) hT
 ·rw[Yj l0 U,Yj l2 U,Yj l3 U];exact .Ue (Yc h0 l0) (Yc h2 l2) (Yc h3 l3) hT
theorem ZBA{ws:List RW}{k k1 k3 k':Nat}{b:Bool}{ti tt:Tr}(h0:hd ws k=some Yk)(h1:ZgP ws (k+1) ZU b k1)(hI:D items (sl ws k1 k3) (nd {kind:= [114,111,119]} ti))(h13:k1<=k3)(h3:hd ws k3=some YA)(hle:k3+1<=k')(hT:D tail (sl ws (k3+1) k') tt):D core (sl ws k k') (XV false b ti tt):=by
 have l0:=Yu h0;have l3:=Yu h3;rcases h1 with⟨rfl,h1,rfl⟩|⟨rfl,h1,rfl⟩
 ·have l1:=Yu h1;rw[Yj l0 U,Yj l1 U,QR ws h13 U,Yj l3 U];exact .VJ (Yc h0 l0) (Yc h1 l1) (Yc h3 l3) hI hT
 ·rw[Yj l0 U,QR ws h13 U,Yj l3 U];exact .VI (Yc h0 l0) (Yc h3 l3) hI hT
theorem ZKW{ws:List RW}{k k1:Nat}{b:Bool}(h0:hd ws k=some Yk)(h1:ZgP ws (k+1) ZU b k1)(h2:hd ws k1=some T.star):ans (P core) (Zc ws k)=(Zz YA (Zc ws (k1+1))).bind (ans (P tail)):=by
 rw[XW h0,ZqX];have e:skip ZU (Zc ws (k+1))=Zc ws k1:=by
  rcases h1 with⟨_,h,rfl⟩|⟨_,h,rfl⟩
  ·exact Zpi h
  ·exact Zph h
 rw[e,XW h2];rfl
theorem ZKV{ws:List RW}{k k1:Nat}{b:Bool}(h0:hd ws k=some Yk)(h1:ZgP ws (k+1) ZU b k1)(h2:hd ws k1≠some T.star):ans (P core) (Zc ws k)=(ans (P items) (Zc ws k1)).bind fun r=>(Zz YA r).bind (ans (P tail)):=by
 rw[XW h0,ZqX];have e:skip ZU (Zc ws (k+1))=Zc ws k1:=by
  rcases h1 with⟨_,h,rfl⟩|⟨_,h,rfl⟩
  ·exact Zpi h
  ·exact Zph h
 rw[e];have e2:Zpb (Zc ws k1)=ans (P items) (Zc ws k1):=by
  cases e:Zc ws k1 with
  |nil=>rfl
  |cons u r=>
   have hu:u≠T.star:=fun hu=>h2 ZPR;cases u<;>first|rfl|exact absurd rfl hu
 rw[e2]
theorem ZMh{ws:List RW}{k:Nat}(h:hd ws k=some Y2):tailA (Zc ws k)=(ans (P cnd) (Zc ws (k+1))).bind Zcf:=by
 rw[XW h];show ans (P after) _=_;rw[Zzh]
theorem ZMg{ws:List RW}{k:Nat}(h:hd ws k≠some Y2):tailA (Zc ws k)=Zcf (Zc ws k):=by
 cases e:Zc ws k with
 |nil=>rfl
 |cons u r=>
  have hu:u≠Y2:=fun hu=>h ZPR;cases u<;>first|rfl|exact absurd rfl hu
theorem Zy0{ws:List RW}{k:Nat}(h:hd ws k≠some group):Zcf (Zc ws k)=some (Zc ws k):=by
 cases e:Zc ws k with
 |nil=>rfl
 |cons u r=>
  have hu:u≠group:=fun hu=>h ZPR;cases u<;>first|rfl|exact absurd rfl hu
theorem ZyZ{ws:List RW}{k:Nat}(h:hd ws k=some group):Zcf (Zc ws k)=(Zz Y7 (Zc ws (k+1))).bind fun r=>(ans (P Zu) r).bind Zed:=by
 rw[XW h];show(Zz Y7 _).bind (ans (P Z6))=_;exact bind_congr fun x _=>Zzy x
theorem ZCR{ws:List RW}{k:Nat}(h:hd ws k=some having):Zed (Zc ws k)=ans (P cnd) (Zc ws (k+1)):=by
 rw[XW h];rfl
theorem ZCS{ws:List RW}{k:Nat}(h:hd ws k≠some having):Zed (Zc ws k)=some (Zc ws k):=by
 cases e:Zc ws k with
 |nil=>rfl
 |cons u r=>
  have hu:u≠having:=fun hu=>h ZPR;cases u<;>first|rfl|exact absurd rfl hu
end
end Go.Proofs.YthmlacabmlghbaaGreatDoor
