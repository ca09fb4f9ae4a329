import Derived.Laws.EntriesVeiled
import Derived.Test.YthmlacabmlghbaaGreatDoorBgJa21
set_option maxRecDepth 100000
set_option maxHeartbeats 8000000
set_option linter.unusedSimpArgs false
set_option linter.unusedVariables false
namespace Go.Proofs.YthmlacabmlghbaaGreatDoor
open Go.Proofs.Tryz
theorem ZUd{p:Prop}(h:p:=by go_enter func120,ntmps120;go_wp2_with fail;go_ret;exact⟨ZQw,Zb.set _ _ _ _,by rw[HC.out];exact HI.out.set false⟩):p:=h
theorem ZUz{p:Prop}(h:p:=by go_wp2;go_ret;exact⟨_,_,_,rfl,(Below.refl _ _).alloc (Nat.le_refl _) _⟩):p:=h
theorem ZUi{p:Prop}(h:p:=by go_enter func252,ntmps252;go_wp2;go_ret;exact⟨⟨_,_,_,rfl⟩,rfl⟩):p:=h
theorem ZUf{p:Prop}(h:p:=by go_enter func164,ntmps164;go_wp2;go_ret;exact⟨_,_,_,rfl,(((Below.refl _ W).alloc (Nat.le_refl _) _).alloc ZPm _).alloc ZPo _⟩):p:=h
theorem ZUk{p:Prop}(h:p:=by go_enter func272,ntmps272;go_wp2;go_ret;exact⟨⟨_,_,_,rfl⟩,rfl⟩):p:=h
theorem ZUh{p:Prop}(h:p:=by go_enter func222,ntmps222;go_wp2_with fail;refine(Zod _ s).mono ?_;rintro e w1 ⟨x,y',z,rfl,hB⟩;go_wp2_with fail;go_ret;have h0:Below W.heap.size W ((W.alloc (.cells #[.func a b c] 327)).alloc (.cells #[.iface n y] 85)):=((Below.refl _ W).alloc (Nat.le_refl _) _).alloc ZPm _;have hs:=hB.size;simp at hs;exact⟨_,_,_,rfl,(((h0.trans (hB.mono ZPo)).alloc U _).alloc ZPo _).alloc ZPo _⟩):p:=h
open Go.RowKit
def Plain(ob:Obj):Prop:=∀cu ty fr,ob= .cells cu ty fr->ty≠161/\ty≠274/\ty≠452
theorem ZJk{cu:Array Value}{ty:TypeId}{fr:Nat×Nat}(h:ty≠161/\ty≠274/\ty≠452):Plain (.cells cu ty fr):=fun _ _ _ e=>by cases e;exact h
structure FX (nb C:Nat) (W W':World):Prop where
 os:W'.os=W.os
 tape:W'.tape=W.tape
 output:W'.output=W.output
 size:W.heap.size<=W'.heap.size
 low:∀g,g<nb->g≠C->g<W.heap.size->W'.heap[g]? =W.heap[g]?
 plain:∀(g:Nat) (ob:Obj),W.heap[g]? =some ob->Plain ob->W'.heap[g]? =some ob
theorem FX.refl(nb C:Nat)(W:World):FX nb C W W:=⟨rfl,rfl,rfl,ZWS _,fun _ _ _ _=>rfl,fun _ _ h _=>h⟩
theorem FX.trans{nb C:Nat}{a b c:World}(h:FX nb C a b)(k:FX nb C b c):FX nb C a c:=
 ⟨k.os.trans h.os,k.tape.trans h.tape,k.output.trans h.output,ZW0 h.size k.size,fun g h1 h2 h3=>(k.low g h1 h2 (ZXi h3 h.size)).trans (h.low g h1 h2 h3),fun g ob h1 h2=>k.plain g ob (h.plain g ob h1 h2) h2⟩
theorem FX.of_below{nb C:Nat}{W W':World}(h:Below W.heap.size W W'):FX nb C W W':=
 ⟨h.os,h.tape,h.output,h.size,fun g _ _ hl=>h.block g hl,fun g ob e _=>(h.block g (ZWU.1 e).1).trans e⟩
theorem FX.X6{nb C:Nat}{W W':World}(h:Zb C W W')(hc:∃cu fr,W.heap[C]? =some (.cells cu 161 fr)):FX nb C W W':=by
 refine⟨h.os,h.tape,h.output,h.size,fun g _ hg hl=>h.block g hg hl,fun g ob e hp=>?_⟩;refine(h.block g (fun eg=>?_) (ZWU.1 e).1).trans e;obtain⟨cu,fr,hc⟩:=hc;rw[eg,hc]at e;exact(hp cu _ fr (ZXc e).symm).1 rfl
theorem FX.keep{C:Nat}{W W':World}(h:FX W.heap.size C W W'):Zb C W W':=⟨h.os,h.tape,h.output,h.size,fun g hg hl=>h.low g hl hg hl⟩
theorem FX.mono{nb nb' C:Nat}{W W':World}(h:FX nb C W W')(hn:nb'<=nb):FX nb' C W W':=⟨h.os,h.tape,h.output,h.size,fun g h1 h2 h3=>h.low g (ZXi h1 hn) h2 h3,h.plain⟩
theorem FX.from{nb C:Nat}{W W1 W':World}(hB:Below W.heap.size W W1)(h:FX nb C W1 W'):FX nb C W W':=(FX.of_below hB).trans h
theorem FX.below{n nb C:Nat}{W0 W W':World}(h0:Below n W0 W)(h:FX nb C W W')(hn:n<=nb)(hC:n<=C)(hs:n<=W0.heap.size):Below n W0 W':=
 ⟨h.os.trans h0.os,h.tape.trans h0.tape,h.output.trans h0.output,ZW0 h0.size h.size,fun g hg=>(h.low g U U (by have:=h0.size;omega)).trans (h0.block g hg)⟩
theorem FX.obj{nb C:Nat}{W W':World}(h:FX nb C W W'){g:Nat}{cu:Array Value}{ty:TypeId}{fr:Nat×Nat}(e:W.heap[g]? =some (.cells cu ty fr))(ht:ty≠161/\ty≠274/\ty≠452):W'.heap[g]? =some (.cells cu ty fr):=h.plain g _ e (ZJk ht)
theorem FX.own{nb C:Nat}{W W':World}(h:FX nb C W W'){B ty sz n:Nat}{v:Value}{xs:List Value}(e:W.ownsRow B ty sz v n xs)(ht:ty≠161/\ty≠274/\ty≠452):W'.ownsRow B ty sz v n xs:=
 ZkN e (fun _ _ _ _ hc=>h.obj hc ht)
structure Y3 (W0:World) (C M:Nat) (clash:Bool) (W:World):Prop where
 low:Below W0.heap.size W0 W
 hC:W0.heap.size<=C
 obj:W.heap[C]? =some (.cells #[.map (some M),.bool clash] 161 (0,0))
theorem Y3.is{W0:World}{C M:Nat}{clash:Bool}{W:World}(h:Y3 W0 C M clash W):∃cu fr,W.heap[C]? =some (.cells cu 161 fr):=⟨_,_,h.obj⟩
theorem Y3.cells{W0:World}{C M:Nat}{clash:Bool}{W:World}(h:Y3 W0 C M clash W):W.cell? ⟨C,0,none⟩=some (.map (some M))/\W.cell? ⟨C,1,none⟩=some (.bool clash)/\W.frozen? ⟨C,1,none⟩=false:=by
 refine⟨?_,?_,?_⟩
 ·simp[World.cell?,h.obj]
 ·simp[World.cell?,h.obj]
 ·simp[World.frozen?,h.obj]
theorem Y3.below{W0:World}{C M:Nat}{clash:Bool}{W W':World}(h:Y3 W0 C M clash W)(hB:Below W.heap.size W W'):Y3 W0 C M clash W':=
 ⟨h.low.trans (hB.mono h.low.size),h.hC,(hB.block C (ZWU.1 h.obj).1).trans h.obj⟩
theorem Y3.set{W0:World}{C M:Nat}{clash:Bool}{W:World}(h:Y3 W0 C M clash W)(b:Bool):Y3 W0 C M b (W.setCell ⟨C,1,none⟩ (.bool b)):=
 ⟨h.low.setCell (p:=⟨C,1,none⟩) h.hC _,h.hC,Xn h.obj⟩
def U0(W:World)(v:Value)(xs:List XS):Prop:=
 ∃a cap,v= .slice a xs.length cap/\∀i (h:i<xs.length),∃g cu,a=some ⟨g,0,none⟩/\W.heap[g]? =some (.cells cu 268 (0,0))/\W.cell? ⟨g,i*3,none⟩=some (.string ⟨xs[i].name.toArray⟩)/\W.cell? ⟨g,i*3+1,none⟩=some (.pointer (some ⟨xs[i].T,0,none⟩))/\W.cell? ⟨g,i*3+2,none⟩=some (.int .i64 (ZR xs i))
def KJ(W:World)(v:Value)(ks:List Nat):Prop:=
 ∃a cap,v= .slice a ks.length cap/\∀i (h:i<ks.length),∃g cu,a=some ⟨g,0,none⟩/\W.heap[g]? =some (.cells cu 3 (0,0))/\W.cell? ⟨g,i,none⟩=some (.int .i64 (ks[i]:Int))
theorem U0.same{W W':World}{v:Value}{xs:List XS}(h:U0 W v xs)(hs:∀(g:Nat) (cu:Array Value),W.heap[g]? =some (.cells cu 268 (0,0))->W'.heap[g]? =some (.cells cu 268 (0,0))):U0 W' v xs:=by
 obtain⟨a,cap,rfl,hc⟩:=h;refine⟨a,cap,rfl,fun i hi=>?_⟩;obtain⟨g,cu,e,ho,c0,c1,c2⟩:=hc i hi;have hb:W'.heap[g]? =W.heap[g]? :=(hs g cu ho).trans ho.symm;exact⟨g,cu,e,hs g cu ho,(ZXb (a:=⟨g,i*3,none⟩) hb).trans c0,(ZXb (a:=⟨g,i*3+1,none⟩) hb).trans c1,(ZXb (a:=⟨g,i*3+2,none⟩) hb).trans c2⟩
theorem KJ.same{W W':World}{v:Value}{ks:List Nat}(h:KJ W v ks)(hs:∀(g:Nat) (cu:Array Value),W.heap[g]? =some (.cells cu 3 (0,0))->W'.heap[g]? =some (.cells cu 3 (0,0))):KJ W' v ks:=by
 exact ZVJ
structure Zqx (s:Sc) (xs:List XS) (ps:List (Nat×Nat)):Prop where
 keys:s.groups=ps.map fun p=>QP p.1 p.2
 ok:∀p∈ps,∃x,xs[p.1]? =some x/\p.2<x.Ze.length
structure Zgn (W:World) (m nb n:Nat) (sv av:Value) (s:Sc) (xs:List XS) (G:Nat) (kv mv:Value) (rb:Nat) (ps:List (Nat×Nat)):Prop where
 ge:nb<=G
 lt:G<n
 obj:W.heap[G]? =some (.cells #[kv,.pointer (some ⟨rb,0,none⟩),mv] 274 (0,0))
 keys:KJ W kv (ps.map fun p=>ZR xs p.1+p.2)
 is:Zqx s xs ps
 rows:W.heap[rb]? =some (.cells #[sv,av,.pointer none] 256 (0,0))
 made:∃k ys,k<=m/\W.ownsRow nb 452 2 mv k ys
 ZN:∀g,mv.ownBlock=some g->g<n
def ZbZ(W:World)(m nb n:Nat)(sv av:Value)(s:Sc)(xs:List XS)(gv:Value):Prop:=
 (s.phase≠YV/\gv= .pointer none)\/(s.phase=YV/\∃G kv mv rb ps,gv= .pointer (some ⟨G,0,none⟩)/\Zgn W m nb n sv av s xs G kv mv rb ps)
def Yv(W0 W:World)(m:Nat):List Sc->Nat->Nat->Value->Prop
 | [],_,_,v=>v= .pointer none
 |s::up,nb,n,v=>∃b sv av gv xs nb',v= .pointer (some ⟨b,0,none⟩)/\W.heap[b]? =some (.cells #[sv,av,gv] 256 (0,0))/\U0 W sv xs/\Xk s xs/\(∀x∈xs,∃B,Qi B W0 x.T x.Ze)/\nb<=n/\Yv W0 W m up nb' nb av/\ZbZ W m nb n sv av s xs gv
structure Zjb (W W':World):Prop where
 place:∀(g:Nat) (cu:Array Value),W.heap[g]? =some (.cells cu 256 (0,0))->W'.heap[g]? =some (.cells cu 256 (0,0))
 source:∀(g:Nat) (cu:Array Value),W.heap[g]? =some (.cells cu 268 (0,0))->W'.heap[g]? =some (.cells cu 268 (0,0))
 int:∀(g:Nat) (cu:Array Value),W.heap[g]? =some (.cells cu 3 (0,0))->W'.heap[g]? =some (.cells cu 3 (0,0))
theorem FX.stays{nb C:Nat}{W W':World}(h:FX nb C W W'):Zjb W W':=⟨fun _ _ e=>h.obj e ZPl,fun _ _ e=>h.obj e ZPl,fun _ _ e=>h.obj e ZPl⟩
theorem Zgn.same{W W':World}{m nb n:Nat}{sv av:Value}{s:Sc}{xs:List XS}{G:Nat}{kv mv:Value}{rb:Nat}{ps:List (Nat×Nat)}(h:Zgn W m nb n sv av s xs G kv mv rb ps)(hs:Zjb W W')(hg:∀(g:Nat) (cu:Array Value),g<n->W.heap[g]? =some (.cells cu 274 (0,0))->W'.heap[g]? =some (.cells cu 274 (0,0)))
  (ha:∀(g:Nat) (cu:Array Value),g<n->W.heap[g]? =some (.cells cu 452 (0,0))->W'.heap[g]? =some (.cells cu 452 (0,0))):Zgn W' m nb n sv av s xs G kv mv rb ps:=by
 obtain⟨k,ys,hk,ho⟩:=h.made;refine⟨h.ge,h.lt,hg _ _ h.lt h.obj,h.keys.same hs.int,h.is,hs.place _ _ h.rows,⟨k,ys,hk,ho.1,?_⟩,h.ZN⟩;rcases ho.2 with h0|⟨g,cap,cu,rfl,hb,hh,r⟩
 ·exact ZS4
 ·exact .inr ⟨g,cap,cu,rfl,hb,ha g cu (h.ZN g rfl) hh,r⟩
theorem Yv.same{W0 W W':World}{m:Nat}(hs:Zjb W W'):∀(ss:List Sc) (nb n:Nat) (v:Value),(∀(g:Nat) (cu:Array Value),g<n->W.heap[g]? =some (.cells cu 274 (0,0))->W'.heap[g]? =some (.cells cu 274 (0,0)))->
  (∀(g:Nat) (cu:Array Value),g<n->W.heap[g]? =some (.cells cu 452 (0,0))->W'.heap[g]? =some (.cells cu 452 (0,0)))->Yv W0 W m ss nb n v->Yv W0 W' m ss nb n v
 | [],_,_,_,_,_,h=>h
 |s::up,nb,n,v,hg,ha,h=>by
  obtain⟨b,sv,av,gv,xs,nb',e,ho,h1,h2,h3,hn,h4,h5⟩:=h;refine⟨b,sv,av,gv,xs,nb',e,hs.place _ _ ho,h1.same hs.source,h2,h3,hn,Yv.same hs up nb' nb av (fun g cu hl=>hg g cu U) (fun g cu hl=>ha g cu U) h4,?_⟩;rcases h5 with h5|⟨h5,G,kv,mv,rb,ps,e,h6⟩
  ·exact .inl h5
  ·exact .inr ⟨h5,G,kv,mv,rb,ps,e,h6.same hs hg ha⟩
theorem Yv.keep{W0 W W':World}{m nb n C:Nat}{ss:List Sc}{v:Value}(h:Yv W0 W m ss nb n v)(hK:Zb C W W')(hc:∃cu fr,W.heap[C]? =some (.cells cu 161 fr)):Yv W0 W' m ss nb n v:=by
 have hx:∀(g:Nat) (cu:Array Value) (ty:TypeId),W.heap[g]? =some (.cells cu ty (0,0))->ty≠161->W'.heap[g]? =some (.cells cu ty (0,0)):=fun g cu ty e ht=>by
  refine(hK.block g (fun eg=>?_) (ZWU.1 e).1).trans e;obtain⟨cu',fr,hc⟩:=hc;rw[eg,hc]at e;cases e;exact ht rfl
 exact Yv.same ⟨fun g cu e=>hx g cu _ e ZPl,fun g cu e=>hx g cu _ e ZPl,fun g cu e=>hx g cu _ e ZPl⟩ ss nb n v (fun g cu _ e=>hx g cu _ e ZPl) (fun g cu _ e=>hx g cu _ e ZPl) h
theorem Yv.below{W0 W W':World}{m nb n:Nat}{ss:List Sc}{v:Value}(h:Yv W0 W m ss nb n v)(hB:Below W.heap.size W W'):Yv W0 W' m ss nb n v:=by
 have hx:∀(g:Nat) (ob:Obj),W.heap[g]? =some ob->W'.heap[g]? =some ob:=fun g ob e=>(hB.block g (ZWU.1 e).1).trans e;exact Yv.same ⟨fun g cu e=>hx g _ e,fun g cu e=>hx g _ e,fun g cu e=>hx g _ e⟩ ss nb n v (fun g cu _ e=>hx g _ e) (fun g cu _ e=>hx g _ e) h
theorem ZbZ.wide{W:World}{m m' nb n n':Nat}{sv av:Value}{s:Sc}{xs:List XS}{gv:Value}(h:ZbZ W m nb n sv av s xs gv)(hm:m<=m')(hn:n<=n'):ZbZ W m' nb n' sv av s xs gv:=by
 rcases h with h|⟨h,G,kv,mv,rb,ps,e,h6⟩
 ·exact ZS3
 ·obtain⟨k,ys,hk,ho⟩:=h6.made;exact .inr ⟨h,G,kv,mv,rb,ps,e,h6.ge,ZXi h6.lt hn,h6.obj,h6.keys,h6.is,h6.rows,⟨k,ys,ZW0 hk hm,ho⟩,fun g hg=>ZXi (h6.ZN g hg) hn⟩
theorem Yv.wide{W0 W:World}:∀{m m':Nat} {ss:List Sc} {nb n n':Nat} {v:Value},Yv W0 W m ss nb n v->m<=m'->n<=n'->Yv W0 W m' ss nb n' v
 |m,m', [],nb,n,n',v,h,_,_=>h
 |m,m',s::up,nb,n,n',v,h,hm,hn=>by
  obtain⟨b,sv,av,gv,xs,nb',e,ho,h1,h2,h3,hnb,h4,h5⟩:=h;exact⟨b,sv,av,gv,xs,nb',e,ho,h1,h2,h3,ZW0 hnb hn,Yv.wide h4 hm (ZWS _),h5.wide hm hn⟩
theorem ZbL(w:World):
  Calls prog 125 #[.bool true] w fun e w'=>e= .returned (.tuple #[])/\w=w':=by
 go_enter func125,ntmps125;exact ZUB
theorem ZcI(w:World):
  Calls prog 125 #[.bool false] w fun e w'=>XD w.heap.size 5 0 w e w':=by
 go_enter func125,ntmps125;go_wp2_with fail;refine(ZdS 5 0 _).mono ?_;exact ZV5
theorem XD.Zsl{W0 W W':World}{k a:Int}{e:Ending}(h:XD W.heap.size k a W e W')(h0:Below W0.heap.size W0 W):XD W0.heap.size k a W0 e W':=by
 obtain⟨b,h1,h2,h3,h4⟩:=h;exact⟨b,h1,h2,h3,h0.trans (h4.mono h0.size)⟩
theorem ZkC(W0:World)(C M:Nat)(cl:Bool)(a b:Int)(W:World)(h:Y3 W0 C M cl W):
  Calls prog 120 #[.pointer (some ⟨C,0,none⟩),.int .i64 a,.int .i64 b] W fun e W'=>e= .returned (.int .i64 (Kr a b))/\Zb C W W'/\Y3 W0 C M (cl||QC a b) W':=by
 obtain⟨z0,z1,zf⟩:=h.cells;have HI:=(show Hid _ from h);clear h;by_cases ha:a=0
 ·subst ha;have HC:Hid (QC 0 b=false):=by show _=_;simp[QC]
  have HP:Hid (Kr 0 b=b):=by show _=_;simp[Kr]
  go_enter func120,ntmps120;go_wp2_with fail;go_ret;exact⟨ZQw,Zb.refl _ _,by rw[HC.out,ZYc];exact HI.out⟩
 ·have ha0:(a==0)=false:=by simpa using ha
  have HP:Hid (Kr a b=a):=by show _=_;simp[Kr,ha]
  cases cl with
  |true=>
   go_enter func120,ntmps120;go_wp2_with fail;go_ret;exact⟨ZQw,Zb.set _ _ _ _,HI.out.set true⟩
  |false=>
   by_cases hb:b=0
   ·subst hb;have HC:Hid (QC a 0=false):=by show _=_;simp[QC]
    exact ZUd
   ·have hb0:(b==0)=false:=by simpa using hb
    by_cases hab:a=b
    ·subst hab;have HC:Hid (QC a a=false):=by show _=_;simp[QC]
     exact ZUd
    ·have ZNZ:(a==b)=false:=by simpa using hab
     have HC:Hid (QC a b=true):=by show _=_;simp[QC,ha,hb,hab]
     have HV:Hid ((b != 0&&a != b)=true):=by show _=_;simp[hb,hab]
     go_enter func120,ntmps120;go_wp2_with fail;go_ret;exact⟨ZQw,Zb.set _ _ _ _,by rw[HC.out,HV.out];exact HI.out.set true⟩
def KC(W:World)(e:Ending)(W':World):Prop:=∃a b c,e= .returned (.func a b c)/\Below W.heap.size W W'
theorem Eb(fn:Fn)(first cap:Array Value)(w:World):(Instr.makeFunc fn first cap).run prog w= .ok (.func fn first cap) w:=rfl
theorem ZGc(W:World):Calls prog 163 #[] W (KC W):=by
 have Xi:=Eb;go_enter func163,ntmps163;go_wp2;go_ret;exact⟨_,_,_,rfl,ZWT _ _⟩
theorem ZuI(W:World)(a:Fn)(b c:Array Value):Calls prog 165 #[.func a b c] W (KC W):=by
 have Xi:=Eb;go_enter func165,ntmps165;exact ZUz
theorem ZGr(W:World)(a:Fn)(b c:Array Value):Calls prog 169 #[.func a b c] W (KC W):=by
 have Xi:=Eb;go_enter func169,ntmps169;exact ZUz
theorem ZGl(W:World)(n:TypeId)(y:Value):Calls prog 170 #[.iface n y] W (KC W):=by
 have Xi:=Eb;go_enter func170,ntmps170;exact ZUz
theorem Zoe(W:World)(n:TypeId)(y:Value):Calls prog 212 #[.iface n y] W (KC W):=by
 have Xi:=Eb;go_enter func212,ntmps212;exact ZUz
theorem ZuF(W:World)(o p:Int):Calls prog 214 #[.int .i64 o,.int .i64 p] W (KC W):=by
 have Xi:=Eb;go_enter func214,ntmps214;go_wp2;go_ret;exact⟨_,_,_,rfl,((ZWT _ _).alloc (ZWS _) _).alloc ZPm _⟩
theorem ZuG(W:World)(p:Int):Calls prog 255 #[.int .i64 p] W (KC W):=by
 have Xi:=Eb;go_enter func255,ntmps255;exact ZUz
theorem ZGD(W:World)(s:Za):Calls prog 252 #[.string ⟨s.toArray⟩] W fun e w'=>(∃a b c,e= .returned (.func a b c))/\W=w':=by
 have Xi:=Eb;have nb:∀x:Za,¬s=x->(s==x)=false:=fun x hx=>ZQN
 by_cases h1:s= [43]
 ·subst h1;exact ZUi
 have b1:=nb _ h1;by_cases h2:s= [45]
 ·subst h2;exact ZUi
 have b2:=nb _ h2;by_cases h3:s= [42]
 ·subst h3;exact ZUi
 have b3:=nb _ h3;by_cases h4:s= [47]
 ·subst h4;exact ZUi
 have b4:=nb _ h4;clear h1 h2 h3 h4 nb;exact ZUi
theorem ZuE(W:World)(s:Za)(a:Fn)(b c:Array Value)(a':Fn)(b' c':Array Value):Calls prog 217 #[.string ⟨s.toArray⟩,.func a b c,.func a' b' c'] W (KC W):=by
 have Xi:=Eb;go_enter func217,ntmps217;go_wp2_with fail;refine(ZGD _ s).mono ?_;rintro e w1 ⟨⟨x,y,z,rfl⟩,rfl⟩;go_wp2_with fail;go_ret;exact⟨_,_,_,rfl,(((ZWT _ W).alloc (ZWS _) _).alloc ZPm _).alloc ZPo _⟩
theorem ZGC(W:World)(a:Fn)(b c:Array Value):Calls prog 215 #[.func a b c] W (KC W):=by
 go_enter func215,ntmps215;go_wp2_with fail;refine(Zoe _ _ _).mono ?_;rintro e w1 ⟨x,y,z,rfl,hB⟩;go_wp2_with fail;refine(ZuE _ [45] _ _ _ _ _ _).mono ?_;rintro e w2 ⟨x',y',z',rfl,hB2⟩;go_wp2_with fail;go_ret;exact⟨_,_,_,rfl,hB.trans (hB2.mono hB.size)⟩
theorem ZGw(W:World)(s:Za)(a:Fn)(b c:Array Value)(a':Fn)(b' c':Array Value):Calls prog 164 #[.string ⟨s.toArray⟩,.func a b c,.func a' b' c'] W (KC W):=by
 have Xi:=Eb;by_cases h1:s= [97,110,100]
 ·subst h1;exact ZUf
 ·have b1:(s== [97,110,100])=false:=by simpa using h1
  clear h1;exact ZUf
theorem ZGm(W:World)(s:Za):Calls prog 272 #[.string ⟨s.toArray⟩] W fun e w'=>(∃a b c,e= .returned (.func a b c))/\W=w':=by
 have Xi:=Eb;have nb:∀x:Za,¬s=x->(s==x)=false:=fun x hx=>ZQN
 by_cases h1:s= [61]
 ·subst h1;exact ZUk
 have b1:=nb _ h1;by_cases h2:s= [60,62]
 ·subst h2;exact ZUk
 have b2:=nb _ h2;by_cases h3:s= [60]
 ·subst h3;exact ZUk
 have b3:=nb _ h3;by_cases h4:s= [60,61]
 ·subst h4;exact ZUk
 have b4:=nb _ h4;by_cases h5:s= [62]
 ·subst h5;exact ZUk
 have b5:=nb _ h5;clear h1 h2 h3 h4 h5 nb;exact ZUk
theorem Zod(W:World)(s:Za):Calls prog 247 #[.string ⟨s.toArray⟩] W (KC W):=by
 have Xi:=Eb;go_enter func247,ntmps247;go_wp2_with fail;refine(ZGm _ s).mono ?_;rintro e w1 ⟨⟨x,y,z,rfl⟩,rfl⟩;go_wp2_with fail;go_ret;exact⟨_,_,_,rfl,(ZWT _ W).alloc (ZWS _) _⟩
theorem ZGf(W:World)(s:Za)(a:Fn)(b c:Array Value)(a':Fn)(b' c':Array Value):Calls prog 211 #[.string ⟨s.toArray⟩,.func a b c,.func a' b' c'] W (KC W):=by
 have Xi:=Eb;go_enter func211,ntmps211;go_wp2_with fail;refine(Zod _ s).mono ?_;rintro e w1 ⟨x,y,z,rfl,hB⟩;go_wp2_with fail;go_ret;have h0:Below W.heap.size W ((W.alloc (.cells #[.func a b c] 327)).alloc (.cells #[.func a' b' c'] 327)):=((ZWT _ W).alloc (ZWS _) _).alloc ZPm _;exact⟨_,_,_,rfl,(h0.trans (hB.mono ZPo)).alloc (by have:=hB.size;simp at this;omega) _⟩
theorem ZGM(W:World)(a:Fn)(b c:Array Value)(s w:Za)(n:TypeId)(y:Value)(hw:w∈ZcE):Calls prog 222 #[.func a b c,.string ⟨s.toArray⟩,.string ⟨w.toArray⟩,.iface n y] W (KC W):=by
 have Xi:=Eb;have hw':w= [97,110,121]\/w= [97,108,108]:=by simpa[ZcE]using hw
 clear hw;rcases hw' with rfl|rfl
 ·exact ZUh
 ·exact ZUh
theorem Tryz.ZEE:(prog.info? 346).map (fun i=>(i.zero,i.size,i.bytes))=some (some (.agg #[.int .i64 0,.int .i64 0]),2,16):=by kernel_rfl
theorem Zld{B T:Nat}{W0:World}{Ze:List (Za×Int)}(ht:Qi B W0 T Ze):∃gc cap P rv,W0.heap[T]? =some (.cells #[.slice (some ⟨gc,0,none⟩) Ze.length cap,.map (some P),rv] 242 (0,0))/\gc<W0.heap.size/\T<W0.heap.size/\P<W0.heap.size/\
  (∀i (h:i<Ze.length),W0.cell? ⟨gc,i*2,none⟩=some (.string ⟨Ze[i].1.toArray⟩)/\W0.cell? ⟨gc,i*2+1,none⟩=some (.int .i64 Ze[i].2))/\Vv W0 P Ze.length (placesOf (Ze.map (·.1))):=by
 obtain⟨cv,P,rv,hP,ho,hc,hp,hr⟩:=ht.obj;have hpos:=ht.pos;rcases hc.2 with⟨_,h0⟩|⟨gc,JD,cur,rfl,_,hh,_⟩
 ·omega
 ·obtain⟨es,ck,hm⟩:=hp.obj;refine⟨gc,JD,P,rv,ho,(ZWU.1 hh).1,(ZWU.1 ho).1,(ZWU.1 hm).1,fun i hi=>?_,hp⟩;have hg:∀j u,(Ja Ze)[j]? =some u->W0.cell? ⟨gc,j,none⟩=some u:=fun j u hj=>by have:=hc.cells (g:=gc) rfl j u hj;rw[ZXE]at this;simpa using this
  have hcc:∀(l:List (Za×Int)) (i:Nat) (h:i<l.length),(Ja l)[i*2]? =some (.string ⟨l[i].1.toArray⟩)/\(Ja l)[i*2+1]? =some (.int .i64 l[i].2):=by
   intro l;induction l with
   |nil=>intro i h;cases h
   |cons x l ih=>
    intro i h;cases i with
    |zero=>exact⟨rfl,rfl⟩
    |succ i=>
     have:=ih i ZPv;have e:∀j,(Ja (x::l))[j+2]? =(Ja l)[j]? :=fun j=>by simp[Ja]
     rw[show(i+1)*2=i*2+2 from U,show i*2+2+1=i*2+1+2 from U,e,e];exact ZWN
  exact⟨hg _ _ (hcc Ze i hi).1,hg _ _ (hcc Ze i hi).2⟩
theorem Zw4(w:World)(o1:Obj)(a b:Value)(ty:TypeId):(((w.alloc o1).alloc (.cells #[a,b] ty)).drew).cell? ⟨w.heap.size+1,0,none⟩=some a/\(((w.alloc o1).alloc (.cells #[a,b] ty)).drew).cell? ⟨w.heap.size+1,1,none⟩=some b:=by
 have h:=ZWV (w.alloc o1) (.cells #[a,b] ty);have hs:(w.alloc o1).heap.size=w.heap.size+1:=ZPm
 rw[hs]at h;have h':(((w.alloc o1).alloc (.cells #[a,b] ty)).drew).heap[w.heap.size+1]? =some (.cells #[a,b] ty (0,0)):=h;generalize (((w.alloc o1).alloc (.cells #[a,b] ty)).drew)=W at h';exact⟨by simp[World.cell?,h'],by simp[World.cell?,h']⟩
theorem ZuJ(B:Nat)(W0:World)(nm:Za)(T:Nat)(Ze:List (Za×Int))(first i:Nat)(W:World)(ht:Qi B W0 T Ze)(hB:Below W0.heap.size W0 W)(hi:i<Ze.length)(hf:first<=1000):
  Calls prog 226 #[.agg #[.string ⟨nm.toArray⟩,.pointer (some ⟨T,0,none⟩),.int .i64 first],.int .i64 i] W fun e W'=>e= .returned (.agg #[.int .i64 ((first+i:Nat):Int),.int .i64 Ze[i].2])/\Below W.heap.size W W':=by
 obtain⟨gc,cap,P,rv,ho,hg,hT,hP,hcc,_⟩:=Zld ht;have hle:=ht.le;have t0:W.cell? ⟨T,0,none⟩=some (.slice (some ⟨gc,0,none⟩) Ze.length cap):=(hB.cell (p:=⟨T,0,none⟩) hT).trans ZP7;have t1:W.cell? ⟨gc,i*2+1,none⟩=some (.int .i64 Ze[i].2):=(hB.cell (p:=⟨gc,i*2+1,none⟩) hg).trans (hcc i hi).2;have Vk:T<W.heap.size:=ZXi hT hB.size;have hgl:gc<W.heap.size:=ZXi hg hB.size;generalize Ze[i].2=ty at *;have hil:(i:Int)<(Ze.length:Int):=U
 clear ht ho hcc hB;generalize Ze.length=nc at *;go_enter func226,ntmps226;go_wp2_with fail;have t0a:∀o1 o2,((W.alloc o1).alloc o2).cell? ⟨T,0,none⟩=some (.slice (some ⟨gc,0,none⟩) nc cap):=fun o1 o2=>(ZW6 _ o2 ⟨T,0,none⟩ ZPo).trans ((ZW6 W o1 ⟨T,0,none⟩ Vk).trans t0);have t1a:∀o1 o2,((W.alloc o1).alloc o2).cell? ⟨gc,i*2+1,none⟩=some (.int .i64 ty):=fun o1 o2=>(ZW6 _ o2 ⟨gc,i*2+1,none⟩ ZPo).trans ((ZW6 W o1 ⟨gc,i*2+1,none⟩ hgl).trans t1);have r0:∀(w:World) (o1:Obj) (a b:Value) (ty:TypeId),(((w.alloc o1).alloc (.cells #[a,b] ty)).drew).cell? ⟨w.heap.size+1,0,none⟩=some a:=fun w o1 a b ty=>(Zw4 w o1 a b ty).1;have r1:∀(w:World) (o1:Obj) (a b:Value) (ty:TypeId),(((w.alloc o1).alloc (.cells #[a,b] ty)).drew).cell? ⟨w.heap.size+1,1,none⟩=some b:=fun w o1 a b ty=>(Zw4 w o1 a b ty).2;go_region;go_wp2;refine ZW4 (v:=.agg #[.int .i64 (first+i:Int),.int .i64 ty]) (by simp[results,Tryz.results226,go_sem,r0,r1]) rfl ⟨ZPC,?_⟩;exact ZW (((ZWT _ W).alloc (ZWS _) _).alloc ZPm _) 1
theorem ZGo(kv:Value)(ks:List Nat)(v:Nat)(W:World)(h:KJ W kv ks)(hl:ks.length<=400):
  Calls prog 281 #[kv,.int .i64 v] W fun e w'=>(∃n:Int,e= .returned (.int .i64 n)/\ -1<=n/\n<=400/\(0<=n↔v∈ks))/\W=w':=by
 obtain⟨a,cap,rfl,hc⟩:=h;have HT:Hid (∀i (h:i<ks.length),∃g,a=some ⟨g,0,none⟩/\W.cell? ⟨g,i,none⟩=some (.int .i64 (ks[i]:Int))):=fun i hi=>by
  obtain⟨g,cu,e,_,c0⟩:=hc i hi;exact⟨g,e,c0⟩
 clear hc;go_enter func281,ntmps281;go_wp2_with fail;go_loopg [8] (ks.length+1) (fun gk iv wr=>∃k:Nat,k<=ks.length/\gk=ks.length-k+1/\iv= .int .i64 k/\W=wr/\Hid (∀j (hj:j<ks.length),j<k->v≠ks[j]));case atStart=>exact⟨0,U,U,rfl,rfl,fun j _ h=>U⟩
 case round=>
  obtain⟨k,hk,rfl,rfl,rfl,hno⟩:=hrel;by_cases hlt:k<ks.length
  ·obtain⟨g,rfl,q⟩:=HT.out k hlt;by_cases he:v=ks[k]
   ·have HM:Hid (v∈ks):=by show v∈ks;rw[he];exact ZWX hlt
    exact ZWB
   ·have he':((v:Int)==(ks[k]:Int))=false:=by simp;omega
    have HN:Hid (∀j (hj:j<ks.length),j<k+1->v≠ks[j]):=fun j hj h=>by
     by_cases e:j=k
     ·subst e;exact he
     ·exact hno.out j hj U
    clear he;generalize ks[k]=x at q he';go_wp2_with fail;go_roundg (ks.length-(k+1)+1);case measure=>omega
    case rel=>exact⟨k+1,U,rfl,ZPp,rfl,HN⟩
  ·have HM:Hid (v∉ks):=fun hm=>by
    exact ZVQ
   exact ZUQ
theorem ZGg(kv:Value)(ks:List Nat)(v:Nat)(W:World)(h:KJ W kv ks)(hl:ks.length<=400):
  Calls prog 257 #[kv,.int .i64 v] W fun e w'=>e= .returned (.bool (ks.contains v))/\W=w':=by
 obtain⟨a,cap,rfl⟩:∃a cap,kv= .slice a ks.length cap:=by obtain⟨a,c,e,_⟩:=h;exact⟨a,c,e⟩
 go_enter func257,ntmps257;go_wp2_with fail;refine(ZGo _ ks v _ h hl).mono ?_;rintro e w' ⟨⟨n,rfl,h1,h2,h3⟩,rfl⟩;have HC:Hid (ks.contains v=decide (0<=n)):=by
  show _=_;rw[ZXG,ZXw,h3];simp
 exact ZSJ
theorem ZGW{s:Sc}{xs:List XS}{ps:List (Nat×Nat)}(hs:Xk s xs)(hk:Zqx s xs ps){i c:Nat}{x:XS}(hx:xs[i]? =some x)(hc:c<x.Ze.length):(ps.map fun p=>ZR xs p.1+p.2).contains (ZR xs i+c)=s.groups.contains (QP i c):=by
 rw[hk.keys,ZXG,ZXI,ZXI,ZXj,ZXj];obtain⟨hi,rfl⟩:=ZXq.1 hx;have hle:=hs.le;constructor
 ·rintro⟨p,hp,e⟩;obtain⟨y,hy,hd⟩:=hk.ok p hp;obtain⟨hj,rfl⟩:=ZXq.1 hy;obtain⟨e1,e2⟩:=ZCx xs hj hi hd hc e;exact⟨p,hp,by rw[e1,e2]⟩
 ·rintro⟨p,hp,e⟩;obtain⟨y,hy,hd⟩:=hk.ok p hp;obtain⟨hj,rfl⟩:=ZXq.1 hy;have h1:=(hs.ok _ (ZWX hj)).le;have h2:=(hs.ok _ (ZWX hi)).le;obtain⟨e1,e2⟩:=ZGQ p.1 U p.2 U i U c U e;exact⟨p,hp,by rw[e1,e2]⟩
theorem ZGG(W0 W:World)(m nb n b:Nat)(sv av gv:Value)(s:Sc)(xs:List XS)(i c:Nat)(ty:Int)(x:XS)(ho:W.heap[b]? =some (.cells #[sv,av,gv] 256 (0,0)))(hs:Xk s xs)(hg:ZbZ W m nb n sv av s xs gv)(hx:xs[i]? =some x)(hc:c<x.Ze.length)(hgl:s.groups.length<=400):
  Calls prog 224 #[.pointer (some ⟨b,0,none⟩),.agg #[.int .i64 ((ZR xs i+c:Nat):Int),.int .i64 ty]] W fun e W'=>e= .returned (.bool (ZdO s i c))/\Below W.heap.size W W':=by
 have hbl:=(ZWU.1 ho).1;have c2:W.cell? ⟨b,2,none⟩=some gv:=ZP7
 rcases hg with⟨hp,rfl⟩|⟨hp,G,kv,mv,rb,ps,rfl,h6⟩
 ·have HE:Hid (ZdO s i c=true):=by show _=_;simp[ZdO,hp]
  clear hp;go_enter func224,ntmps224;go_wp2_with fail;have c2a:∀o,(W.alloc o).cell? ⟨b,2,none⟩=some (.pointer none):=fun o=>(ZW6 W o ⟨b,2,none⟩ hbl).trans c2;go_quiet (fail);go_wp2;go_ret;exact⟨ZQ3,ZW ((ZWT _ W).alloc (ZWS _) _) _⟩
 ·have hk:=ZGW hs h6.is hx hc;have HE:Hid (ZdO s i c=(ps.map fun p=>ZR xs p.1+p.2).contains (ZR xs i+c)):=by show _=_;rw[hk];simp[ZdO,hp]
  have hGl:=(ZWU.1 h6.obj).1;have g0:W.cell? ⟨G,0,none⟩=some kv:=ZRy
  have hkl:(ps.map fun p=>ZR xs p.1+p.2).length<=400:=by rw[ZW5];have:=congrArg List.length h6.is.keys;rw[ZW5]at this;omega
  have HK:Hid (∀w',Below W.heap.size W w'->KJ w' kv (ps.map fun p=>ZR xs p.1+p.2)):=fun w' hB=>h6.keys.same fun g cu e=>(hB.block g (ZWU.1 e).1).trans e;clear hk hp h6 hs;generalize (ps.map fun p=>ZR xs p.1+p.2)=ks at *;generalize ZR xs i+c=at_ at *;obtain⟨ka,kc,rfl⟩:∃a c,kv= .slice a ks.length c:=by obtain⟨a,c,e,_⟩:=HK.out W (ZWT _ _);exact⟨a,c,e⟩
  go_enter func224,ntmps224;go_wp2_with fail;have c2a:∀o,(W.alloc o).cell? ⟨b,2,none⟩=some (.pointer (some ⟨G,0,none⟩)):=fun o=>(ZW6 W o ⟨b,2,none⟩ hbl).trans c2;have g0a:∀o,(W.alloc o).cell? ⟨G,0,none⟩=some (.slice ka ks.length kc):=fun o=>(ZW6 W o ⟨G,0,none⟩ hGl).trans g0;go_quiet ((go_at_call 257;exact Calls.quiet_of_same ((ZGg _ ks at_ _ (HK.out _ (ZW ((ZWT _ W).alloc (ZWS _) _) _)) hkl).mono (fun _ _ h=>⟨h.1,h.2.symm⟩))));go_wp2;go_ret;exact⟨by rw[HE.out,ZYo];rfl,ZW ((ZWT _ W).alloc (ZWS _) _) _⟩
theorem Zxb(Zd text:Za)(s:Sc)(xs:List XS)(h:Xk s xs):∀k,k<=xs.length->(upTo Zd text s k).length<=6*k
 |0,_=>by simp[Zgi]
 |k+1,hk=>by
  have hnl:=h.Zwp;have hln:=h.len;rw[ZiI Zd text s k hnl U,ZW9];have ih:=Zxb Zd text s xs h k U;have h6:=(h.ok _ (ZWX (show k<xs.length by omega))).le;have h7:=Zjz text (s.tabs[k]' U).Ze 0;have h8:=(h.tabs k _ _ (ZW1 U) (ZW1 (show k<xs.length by omega))).1;rw[h8,ZW5]at h7;unfold U9;split
  ·simp;omega
  ·rw[ZW5,h8];omega
theorem ZHw{P n:Nat}{names:List Za}(hn:names.Nodup)(s:Za)(hs:s.length<=100000):
  (∃c:Nat,names[c]? =some s/\∀w,Vv w P n (placesOf names)->(Instr.lookup 238 (.map (some P)) (.string ⟨s.toArray⟩) true).run prog w= .ok (.tuple #[.int .i64 c,.bool true]) w)\/
  (s∉names/\∀w,Vv w P n (placesOf names)->(Instr.lookup 238 (.map (some P)) (.string ⟨s.toArray⟩) true).run prog w= .ok (.tuple #[.int .i64 0,.bool false]) w):=by
 by_cases hm:s∈names
 ·obtain⟨c,hc,rfl⟩:=ZX4 hm;refine .inl ⟨c,ZW1 hc,fun w h=>?_⟩;obtain⟨v,ps,hrun,hv⟩:=World.ownsMap.look_ok (R:=Zah) (D:=ET (placesOf names)) h KA underlying238 (Zxp w) rfl (Kz names[c] hs);rw[Zkf,ZoH,ZXI.2 hm]at hrun;rw[Zrc (by rw[ZoH];exact hn) (ZJj hc)]at hv;rw[Zsb hv]at hrun;exact hrun
 ·refine .inr ⟨hm,fun w h=>?_⟩;obtain⟨v,ps,hrun,hv⟩:=World.ownsMap.look_ok (R:=Zah) (D:=ET (placesOf names)) h KA underlying238 (Zxp w) rfl (Kz s hs);have hh:Maps.has (ET (placesOf names)) (YD s)=false:=by rw[Zkf,ZoH,ZYo];simpa using hm
  rw[hh]at hrun;rw[Maps.atKey_of_not_has hh]at hv;rw[Zsb (k:=0) hv]at hrun;exact hrun
theorem ZGB(W0 W:World)(b:Nat)(sv av gv:Value)(s:Sc)(xs:List XS)(Zd text:Za)(hB0:Below W0.heap.size W0 W)(ho:W.heap[b]? =some (.cells #[sv,av,gv] 256 (0,0)))(hsv:U0 W sv xs)(hs:Xk s xs)(ht:∀x∈xs,∃B,Qi B W0 x.T x.Ze)(htl:text.length<=90000):
  Calls prog 223 #[.pointer (some ⟨b,0,none⟩),.agg #[.string ⟨Zd.toArray⟩,.string ⟨text.toArray⟩]] W fun e W'=>
   ((∀up,Ye Zd text (s::up)=none)/\XD W.heap.size 5 0 W e W')\/((QF Zd s.names=true->hits Zd text s.names s.tabs 0≠ [])/\∃lv,e= .returned lv/\W'.ownsRow W.heap.size 346 2 lv (hits Zd text s.names s.tabs 0).length (ZbC xs (hits Zd text s.names s.tabs 0))/\Below W.heap.size W W'):=by
 have c0:W.cell? ⟨b,0,none⟩=some sv:=ZP7
 have hbl:=(ZWU.1 ho).1;obtain⟨sa,sc,rfl,hsc⟩:=hsv;have hlen:=hs.len;have hnl:=hs.Zwp;have hle:=hs.le;have HFU:Hid (hits Zd text s.names s.tabs 0=upTo Zd text s xs.length):=by show _=_;rw[<-hlen,<-hnl,ZpD Zd text s hnl]
 have EZ:Hid (∀w',Below W.heap.size W w'->∀k (hk:k<xs.length),∃g,sa=some ⟨g,0,none⟩/\w'.cell? ⟨g,k*3,none⟩=some (.string ⟨xs[k].name.toArray⟩)/\w'.cell? ⟨g,k*3+1,none⟩=some (.pointer (some ⟨xs[k].T,0,none⟩))/\w'.cell? ⟨g,k*3+2,none⟩=some (.int .i64 (ZR xs k))):=fun w' hB k hk=>by
  exact ZVM
 have HFL:Hid (∀k,ZR xs k<=6*k):=ZjI xs (fun x hx=>(hs.ok x hx).le);have hW0:Hid (∀w',Below W.heap.size W w'->Below W0.heap.size W0 w'):=fun w' hB=>hB0.trans (hB.mono hB0.size);have HS:=(show Hid _ from hs);have HT:=(show Hid _ from ht);clear hsc hs ht;obtain⟨i0,hi,hz0,hz1,hz2⟩:=ZXd Tryz.ZEE;go_enter func223,ntmps223;go_wp2_with fail;generalize Yb:W.alloc (.cells #[.string ⟨Zd.toArray⟩,.string ⟨text.toArray⟩] 344)=Wp;have ZE:Below W.heap.size W Wp:=by rw[<-Yb];exact(ZWT _ W).alloc (ZWS _) _
 have hsp:Wp.heap.size=W.heap.size+1:=by rw[<-Yb];simp
 have hnp:Wp.heap[W.heap.size]? =some (.cells #[.string ⟨Zd.toArray⟩,.string ⟨text.toArray⟩] 344 (0,0)):=by rw[<-Yb];exact ZWV W _
 have HCN:Hid (∀w',Below Wp.heap.size Wp w'->w'.cell? ⟨W.heap.size,0,none⟩=some (.string ⟨Zd.toArray⟩)/\w'.cell? ⟨W.heap.size,1,none⟩=some (.string ⟨text.toArray⟩)/\Below W.heap.size W w'):=fun w' hb=>by
  have h0:=(hb.block W.heap.size U).trans hnp;exact⟨by simp[World.cell?,h0],by simp[World.cell?,h0],ZE.trans (hb.mono U)⟩
 have hcb:Wp.cell? ⟨b,0,none⟩=some (.slice sa xs.length sc):=(ZE.cell (p:=⟨b,0,none⟩) hbl).trans c0;clear Yb hnp ZE c0;go_loopg [5,15] (xs.length+1) (fun gk lv iv wr=>∃k:Nat,k<=xs.length/\gk=xs.length-k+1/\iv= .int .i64 k/\wr.ownsRow Wp.heap.size 346 2 lv (upTo Zd text s k).length (ZbC xs (upTo Zd text s k))/\Below Wp.heap.size Wp wr/\Hid (QF Zd (s.names.take k)=true->upTo Zd text s k≠ []));case atStart=>exact⟨0,U,U,rfl,by rw[Zgi];exact ZXp _ _ _ _,ZWT _ _,by simp[Hid,QF]⟩
 case round=>
  obtain⟨k,hk,rfl,rfl,hown,hB,Qd⟩:=hrel;obtain⟨cn0,cn1,hBW⟩:=HCN.out wr hB;by_cases hlt:k<xs.length
  ·obtain⟨g,rfl,d0,d1,d2⟩:=EZ.out wr hBW k hlt;obtain⟨Bt,htk⟩:=HT.out xs[k] (ZWX hlt);obtain⟨gc,cap,P,rv,hTo,hgc,Vk,hPl,hcc,hval⟩:=Zld htk;have hkn:k<s.names.length:=by omega
   have hkt:k<s.tabs.length:=U
   have hTb:=HS.out.tabs k _ _ (ZW1 hkt) (ZW1 hlt);have hCk:=HS.out.ok _ (ZWX hlt);have hnm:s.names[k]=xs[k].name:=by
    have:=HS.out.names;simp only[this,ZYp]
   have hne:xs[k].name≠ []:=by rw[<-hnm];exact HS.out.ne _ (ZWX hkn)
   have HUS:Hid (upTo Zd text s (k+1)=upTo Zd text s k++U9 Zd text xs[k].name (xs[k].Ze.map (·.1)) k):=by
    show _=_;rw[ZiI Zd text s k hnl hkn,hnm,hTb.1]
   have HMI:Hid (QF Zd (s.names.take (k+1))=(QF Zd (s.names.take k)||decide (Zd≠ []/\Zd=xs[k].name))):=by
    show _=_;rw[ZXA hkn,hnm];unfold QF;by_cases h1:Zd= []<;>by_cases h2:Zd=xs[k].name<;>simp[h1,h2,ZYo]<;>(intros;assumption)
   have HLK:Hid (Zd=xs[k].name->text∉xs[k].Ze.map (·.1)->∀up,Ye Zd text (s::up)=none):=fun h1 h2 up=>
    ZzO HS.out.nd (k:=k) (by rw[ZW1 hkn,hnm,h1]) (by rw[h1];exact hne) (ZW1 hkt) (by rw[hTb.1];exact h2)
   have hwl:=hB.size;have hBa:∀ob n,Below Wp.heap.size Wp ((wr.alloc ob).drewN n):=fun ob n=>ZW (hB.alloc hwl _) n;have hT1:∀ob,(wr.alloc ob).cell? ⟨xs[k].T,1,none⟩=some (.map (some P)):=fun ob=>((hW0.out _ (HCN.out _ (hBa ob 0)).2.2).cell (p:=⟨xs[k].T,1,none⟩) Vk).trans ZRz;have hvs:∀ob n,Vv ((wr.alloc ob).drewN n) P xs[k].Ze.length (placesOf (xs[k].Ze.map (·.1))):=fun ob n=>V7 hval ((hW0.out _ (HCN.out _ (hBa ob n)).2.2).block P hPl);have hkf:=HFL.out k;have Xe:=(show Hid _ from htk);have hcn:=hCk.nd;have hc6:=hCk.le;have hlu:=Zxb Zd text s xs HS.out k U;clear htk hval hTo hcc hnm hTb Vk hPl;generalize hfk:ZR xs k=fk at *;have HFK:=(show Hid _ from hfk);clear hfk;go_wp2_with fail;generalize Zn:(Obj.cells #[.string ⟨xs[k].name.toArray⟩,.pointer (some ⟨xs[k].T,0,none⟩),.int .i64 fk] 268 (0,0))=ob;have hnb:(wr.alloc ob).heap[wr.heap.size]? =some (.cells #[.string ⟨xs[k].name.toArray⟩,.pointer (some ⟨xs[k].T,0,none⟩),.int .i64 fk] 268 (0,0)):=by rw[<-Zn];exact ZWV wr _
   obtain⟨e0,e1,e2,_⟩:=YW hnb;replace hT1:=hT1 ob;replace hvs:=hvs ob;obtain⟨cm0,cm1,Qm⟩:=HCN.out _ (hBa ob 0);replace cm0:(wr.alloc ob).cell? ⟨W.heap.size,0,none⟩=some (.string ⟨Zd.toArray⟩):=cm0;replace cm1:(wr.alloc ob).cell? ⟨W.heap.size,1,none⟩=some (.string ⟨text.toArray⟩):=cm1;have ZEy:Below W0.heap.size W0 (wr.alloc ob):=hW0.out _ Qm;have hBP:=hBa ob 0;replace hBP:Below Wp.heap.size Wp (wr.alloc ob):=hBP;have ZbF:=hown.alloc ob;clear hB hBW hown cn0 cn1 Zn hnb hBa Qm d0 d1 d2;rcases ZHw (P:=P) (n:=xs[k].Ze.length) hcn text U with⟨c,hc,hrun⟩|⟨hno,hrun⟩
   ·have hl:=fun n=>hrun _ (hvs n);have hl0:=hl 0;replace hl0:(Instr.lookup 238 (.map (some P)) (.string ⟨text.toArray⟩) true).run prog (wr.alloc ob)= .ok (.tuple #[.int .i64 c,.bool true]) (wr.alloc ob):=hl0;clear hrun hvs;generalize wr.alloc ob=w1 at *;go_quiet (fail);go_wp2_with fail;refine(ZbL _).mono ?_;rintro e w' ⟨rfl,rfl⟩;by_cases hA:Zd= []\/Zd=xs[k].name
    ·have HON:Hid (U9 Zd text xs[k].name (xs[k].Ze.map (·.1)) k= [(k,c)]):=ZDQ hcn hA hc;obtain⟨hci,hce⟩:=ZXq.1 hc;rw[ZW5]at hci;have HTA:Hid (ZeW xs (k,c)=xs[k].Ze[c].2):=Zw8 (ZW1 hlt) hci;have Ztn:=fun nq=>ZuJ Bt W0 xs[k].name xs[k].T xs[k].Ze fk c (w1.drewN nq) Xe.out (ZW ZEy nq) hci U;generalize xs[k].Ze[c].2=ty at Ztn HTA;have hsp2:((Zd== [])=true)\/((Zd== [])=false/\(Zd==xs[k].name)=true):=by
      rcases hA with h|h
      ·exact .inl ZPD
      ·by_cases h0:Zd= []
       ·exact .inl (by simp[h0])
       ·exact .inr ⟨by simpa using h0,ZPD⟩
     clear hA hce;rcases hsp2 with hb1|⟨hb1,hb2⟩;all_goals
      go_wp2_with fail;refine(Ztn _).mono ?_;rintro e w2 ⟨rfl,hB2⟩;have Zko:(w1.drewN nq).ownsRow Wp.heap.size 346 2 u5 (upTo Zd text s k).length (ZbC xs (upTo Zd text s k)):=ZbF;have hown2:=EC Zko hB2;have ED:Below Wp.heap.size Wp w2:=(ZW hBP nq).trans (hB2.mono (ZW hBP nq).size);have hs2:=ED.size;go_wp2_with (at_builtin;go_must (refine ZXg _ rfl _ _ 422 rfl Wp.heap.size 346 i0 (.agg #[.int .i64 0,.int .i64 0]) 2 16 underlying422 hi hz0 hz1 hz2 rfl ZPl _ _ _ rfl (hown2.alloc _) ⟨w2.heap.size,0,none⟩ 1 1 [.int .i64 ((fk+c:Nat):Int),.int .i64 ty] rfl rfl (Zjw _ _ _ _) ZPA ZPq U ZPo ?_);intro v' w6 hown' hgrow _);go_roundg (xs.length-(k+1)+1);case measure=>omega
      case rel=>
       have hb6:=XM ED hs2 hown2 hgrow;have hcells:ZbC xs [(k,c)]= [.int .i64 ((fk+c:Nat):Int),.int .i64 ty]:=by simp[ZbC,HFK.out,HTA.out]
       exact⟨k+1,U,rfl,ZPp,by rw[HUS.out,HON.out,ZDP,ZW9,hcells];exact hown',hb6,fun _=>by rw[HUS.out,HON.out];simp⟩
    ·have HON:Hid (U9 Zd text xs[k].name (xs[k].Ze.map (·.1)) k= []):=Ztx (.inl ⟨fun h=>hA (.inl h),fun h=>hA (.inr h)⟩);have hb1:(Zd== [])=false:=by simpa using fun h=>hA (.inl h)
     have hb2:(Zd==xs[k].name)=false:=by simpa using fun h=>hA (.inr h)
     have HMJ:Hid (QF Zd (s.names.take (k+1))=QF Zd (s.names.take k)):=by show _=_;rw[HMI.out];have hA2:¬Zd=xs[k].name:=fun h=>hA (.inr h);simp[hA2]
     clear hA;go_wp2_with fail;go_roundg (xs.length-(k+1)+1);case measure=>omega
     case rel=>
      exact⟨k+1,U,rfl,ZPp,ZR8,ZW hBP nq,fun h=>ZR9⟩
   ·have hl:=fun n=>hrun _ (hvs n);have hl0:=hl 0;replace hl0:(Instr.lookup 238 (.map (some P)) (.string ⟨text.toArray⟩) true).run prog (wr.alloc ob)= .ok (.tuple #[.int .i64 0,.bool false]) (wr.alloc ob):=hl0;clear hrun hvs;generalize wr.alloc ob=w1 at *;have HON:Hid (U9 Zd text xs[k].name (xs[k].Ze.map (·.1)) k= []):=Ztx (.inr hno);by_cases hA:Zd=xs[k].name
    ·have HAT:=(show Hid _ from HLK.out hA hno);have hb2:(Zd==xs[k].name)=true:=by simpa using hA
     have hb3:(Zd != xs[k].name)=false:=by simp[hA]
     clear hA;go_quiet (fail);go_wp2_with fail;refine(ZcI _).mono ?_;rintro e w' ⟨b',rfl,h0,h1,hB3⟩;have hBW1:=(HCN.out w1 hBP).2.2;go_wp2;exact⟨rfl,.inl ⟨HAT.out,b',rfl,h0,h1,(ZW hBW1 nq).trans (hB3.mono (ZW hBW1 nq).size)⟩⟩
    ·have hb2:(Zd==xs[k].name)=false:=by simpa using hA
     have HMJ:Hid (QF Zd (s.names.take (k+1))=QF Zd (s.names.take k)):=by show _=_;rw[HMI.out];simp[hA]
     clear hA;go_quiet (fail);go_wp2_with fail;refine(ZbL _).mono ?_;rintro e w' ⟨rfl,rfl⟩;go_wp2_with fail;go_roundg (xs.length-(k+1)+1);case measure=>omega
     case rel=>
      exact⟨k+1,U,rfl,ZPp,ZR8,ZW hBP nq,fun h=>ZR9⟩
  ·obtain rfl:k=xs.length:=by omega
   have UR:Hid (wr.ownsRow W.heap.size 346 2 u5 (hits Zd text s.names s.tabs 0).length (ZbC xs (hits Zd text s.names s.tabs 0))/\(QF Zd s.names=true->hits Zd text s.names s.tabs 0≠ [])):=by
    rw[HFU.out];refine⟨Zsu hown U,fun h=>Qd.out ?_⟩;rw[ZXB U];exact h
   clear hown Qd;go_wp2_with fail;go_ret;exact .inr ⟨UR.out.2,_,rfl,UR.out.1,hBW⟩
end Go.Proofs.YthmlacabmlghbaaGreatDoor
