import Derived.Test.YtncnkiabjhhclaaGreatDoorBgKi
set_option maxRecDepth 100000
set_option maxHeartbeats 8000000
set_option linter.all false
namespace Go.Proofs.YtncnkiabjhhclaaGreatDoor
open Go.Proofs.Tryz
open Go.RowKit
def Mi.ob{et sl pt:TypeId}{zv:Value}(_:Mi et sl pt zv)(K:Nat)(cap:Array Value):Obj:=.cells #[.func (.func K) #[] cap] pt
def Mi.cut{et sl pt:TypeId}{zv:Value}(_:Mi et sl pt zv)(Wp:World)(l:List xE)(v8 v9:Value)(wx:World):Prop:=
 ∃b8 b9 g1 g2:Nat,v8= .pointer (some ⟨b8,0,none⟩)/\v9= .pointer (some ⟨b9,0,none⟩)/\wx.heap[b8]? =some (.cells #[.slice (some ⟨g1,0,none⟩) l.length l.length] sl)/\wx.heap[b9]? =some (.cells #[.slice (some ⟨g2,0,none⟩) l.length l.length] 389)/\wx.heap[g1]? =some (.cells (madeCells #[zv] l.length) et)/\wx.heap[g2]? =some (.cells (madeCells #[.int .i64 0] l.length) 47)/\Wp.heap.size<=g1/\Wp.heap.size<=g2/\vV Wp wx
def ZaR(fn:Nat)(et sl pt:TypeId)(sh:Value->Prop):Prop:=
 ∀(M:Md) (W:World) (l:List xE) (lv:Value) (q:Option Addr) (nt:TypeId) (ny:Value) (up:List xE) (sp:Bool) (K:Nat) (cap:Array Value) (ms:List Nat) (PV:Nat->Value->World->Prop) (Fa:l.length<=64) (Hu:ms.length=l.length) (hE:yH K) (hl:Cq W lv l) (zu:Ao W (.iface nt ny) up (.pointer q)) (hJ:M.J 0 W)
  (Gj:∀i v a b,M.X a.heap.size a b->PV i v a->PV i v b) (II:∀i v (a:World) (g o:Nat) (cu:Array Value) (ty:TypeId) (u:Value),PV i v a->a.heap[g]? =some (.cells cu ty)->ty∈ [et,47,218]->PV i v (a.setCell ⟨g,o,none⟩ u))
  (BC:∀(i:Nat) (hi:i<l.length) (W':World) (fp:Value),M.J i W'->Ao W' (.iface nt ny) (l[i]::up) fp->M.X W.heap.size W W'->Calls prog K (#[fp]++cap) W' λe W2=>∃v,e= .returned (.tuple #[v,.int .i64 (ms.getD i 0)])/\sh v/\PV i v W2/\M.X W'.heap.size W' W2/\M.J (i+1) W2) (hL:∀t∈ [et,47,218],t∈M.L:=by first|assumption|(intro t h;revert t;decide)),
  Calls prog fn #[.agg #[.slice none 0 0,.slice none 0 0,.pointer q,.iface nt ny,.bool sp],lv,.func (.func K) #[] cap] W λe W'=>∃(g1:Nat) (Au:Array Value),e= .returned (.tuple #[.slice (some ⟨g1,0,none⟩) l.length l.length,.int .i64 (xG ms)])/\M.X W.heap.size W W'/\M.J l.length W'/\W'.heap[g1]? =some (.cells Au et)/\(∀i,i<l.length->∃v,Au[i]? =some v/\PV i v W')/\W.heap.size<=g1
def Zmz{p:Prop}(h:p:=by
 intro M W l lv q nt ny up sp K cap ms PV Fa Hu hE hl zu hJ Gj II BC hL;have BD:=Jn;have HL:=vR hl;have HU:=vR zu;have HC:=vR BC;have RB:=vR Gj;have V7:=vR II;have HJ:=vR hJ;have HE:=vR hE;obtain⟨la,lc,rfl,zQ,_⟩:=hl;have Fv:=HMK l.length Z Z;have ZXw:=λw:World=>rJ (P:=prog) 389 47 (.int .i64 0) 8 underlying389 Tryz.ZMA rfl .i64 .i64 l.length Z Z w;clear zu BC Gj II hJ hE;first|go_enter func183,ntmps183|go_enter func248,ntmps248|go_enter func127,ntmps127
 go_upto_region 1 with fail
 have e3:=OI W (.cells #[.slice none 0 0,.slice none 0 0,.pointer q,.iface nt ny,.bool sp] 218) (.cells #[.slice la l.length lc] 257) (κ.ob K cap);have xA:=Ui W (.cells #[.slice none 0 0,.slice none 0 0,.pointer q,.iface nt ny,.bool sp] 218) (.cells #[.slice la l.length lc] 257) (κ.ob K cap);unfold Mi.ob at e3 xA;generalize yn:World.alloc (World.alloc (World.alloc _ _) _) _=Wp at *;obtain⟨o1,o2,o3⟩:=e3;have Hz:Wp.heap.size=W.heap.size+3:=by rw[<-yn];simp
 have Aa:=xH o2;clear yn;have hcA:∀o',(Wp.alloc o').cell? ⟨W.heap.size+1,0,none⟩=some (.slice la l.length lc):=λo'=>(uS Wp o' ⟨W.heap.size+1,0,none⟩ (show W.heap.size+1<Wp.heap.size by omega)).trans Aa;have HKP:Hid (∀w',vV Wp w'->w'.cell? ⟨W.heap.size+1,0,none⟩=some (.slice la l.length lc)):=λw' h=>wT h (show W.heap.size+1<Wp.heap.size by omega) Aa;go_cut [8,9] (κ.cut Wp l);case first=>
  go_region_held3 (λw'=>w'.cell? ⟨W.heap.size+1,0,none⟩=some (.slice la l.length lc)) (first|(exact HKP.out _ (by repeat (first|exact uQ _ _|refine FR ?_|refine Below.alloc ?_ (by simp[Bf];try omega) _|refine Below.setCell ?_ (by simp;try omega) _)))|go_keep) (fail);all_goals
   go_wp2_with fail;go_meet;unfold Mi.cut;refine⟨_,_,?_,?_,rfl,rfl,?_,?_,?_,?_,?_,?_,FR (ZED _ _ _ _ _)⟩;any_goals (first|exact(at4 Hz _ _ _ _).1|exact(at4 Hz _ _ _ _).2.1|exact(at4 Hz _ _ _ _).2.2.1|exact(at4 Hz _ _ _ _).2.2.2)
   all_goals omega
 case rest=>
  obtain⟨b8,b9,g1,g2,rfl,rfl,h8,h9,Fq,Cj,l1,l2,OW⟩:=hcut;obtain⟨wx,Ll⟩:∃wx,wx=wc:=⟨_,rfl⟩;subst Ll;have xX:vV W wx:=xA.trans (OW.mono xA.size);have x1:=(OW.block W.heap.size Z).trans o1;have x2:=(OW.block (W.heap.size+1) Z).trans o2;have x3:=(OW.block (W.heap.size+1+1) Z).trans o3;have HWK:=vR (HW M W wx l (.slice la l.length lc) q nt ny up sp K W.heap.size (W.heap.size+1) (W.heap.size+1+1) b8 b9 g1 g2 cap _ _ ms PV (M.below xX) Fa HE.out Z Z x1 x2 x3 h8 h9 Fq Cj bY bY HL.out HU.out (M.jb HJ.out xX) RB.out V7.out HC.out);have y2:=xH x2;have y4:=Uk x1;unfold vU at HWK;clear HKP hcA Aa o1 o2 o3 x1 x3;have ZWO:((l.length:Nat):Int)<=64:=Z
  have ES:Hid (∀w3 Au EZ (t:TypeId),M.X W.heap.size W w3->M.J l.length w3->w3.heap[g1]? =some (.cells Au t)->(∀i,i<l.length->∃v,Au[i]? =some v/\PV i v w3)->w3.heap[g2]? =some (.cells EZ 47)->(∀i,i<l.length->EZ[i]? =some (.int .i64 (ms.getD i 0)))->ZkM w3.drew (.slice (some ⟨g2,0,none⟩) l.length l.length) ms/\M.X W.heap.size W w3.drew/\M.J l.length w3.drew/\(∀i,i<l.length->∃v,Au[i]? =some v/\PV i v w3.drew)/\W.heap.size<=g1):=by
   intro w3 Au EZ t Lv He k1 CZ k2 yY;have ME:vV w3 w3.drew:=yF (uQ _ _) 1;refine⟨⟨_,l.length,by rw[Hu],Z,λi hi=>⟨g2,0,rfl,?_⟩⟩,M.trans Lv (M.mono (M.below ME) (M.size Lv)),M.jb He ME,λi hi=>?_,Z⟩
   ·have:=yY i Z;rw[qI,oW hi]at this;show w3.cell? _=_;simp only[World.cell?,k2,o9,this];rfl
   ·obtain⟨v,h1,h2⟩:=CZ i hi;exact⟨v,h1,RB.out i v _ _ (M.below ME) h2⟩
  have ZLO:sp=true\/sp=false:=by cases sp<;>simp
  rcases ZLO with rfl|rfl;all_goals
   go_wp2_with fail;refine HWK.out.mono ?_;rintro e w3 ⟨rfl,Lv,He,hv3,NR,Au,EZ,k1,k2,CZ,yY⟩;have ZX4:=xH hv3;have ZXu:=xH NR;obtain⟨q1,q2,q3,q4,q5⟩:=ES.out w3 Au EZ _ Lv He k1 CZ k2 yY;have HQ:=vR (oG q2 (oG q3 (oG q4 q5)));have P7:=vR (YV _ ms _ q1);have Yx:=vR k1;clear HWK CZ yY Lv He q1 q2 q3 q4 q5 ES;go_wp2_with fail;go_region_with (go_at_call 120;refine P7.out.mono ?_;rintro e w4 ⟨rfl,rfl⟩);all_goals
    go_wp2;go_ret2;exact⟨g1,Au,rfl,HQ.out.1,HQ.out.2.1,Yx.out,HQ.out.2.2.1,HQ.out.2.2.2⟩):p:=h
def ZG3:ZaR 183 396 393 246 (λv=>∃t:Nat,v= .int .i64 t):=by
 have κ:Mi 396 393 246 (.int .i64 0):=⟨⟩;have HW:=@ZG6;have HMK:=fun(n:Nat) h h' (w:World)=>rJ (P:=prog) 393 396 (.int .i64 0) 8 underlying393 Tryz.ZML rfl .i64 .i64 n h h' w;unfold ZaR;exact Zmz
end Go.Proofs.YtncnkiabjhhclaaGreatDoor
