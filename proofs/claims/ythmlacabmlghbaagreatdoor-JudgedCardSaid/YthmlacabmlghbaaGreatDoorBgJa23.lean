import Derived.Test.YthmlacabmlghbaaGreatDoorBgJa22
set_option maxRecDepth 100000
set_option maxHeartbeats 8000000
set_option linter.unusedSimpArgs false
set_option linter.unusedVariables false
namespace Go.Proofs.YthmlacabmlghbaaGreatDoor
open Go.Proofs.Tryz
theorem ZUg{p:Prop}(h:p:=by go_enter func213,ntmps213;go_wp2;go_ret;exact⟨rfl,rfl⟩):p:=h
theorem ZUo{p:Prop}(h:p:=by go_wp2;exact⟨rfl,.inl ⟨by(have h:rx=true:=hlo1);simp[Jr.or,h],b',rfl,h0,h1,hB3⟩⟩):p:=h
theorem ZUp{p:Prop}(h:p:=by go_wp2;exact⟨rfl,.inl ⟨by(have h:ry'=true:=hlo2);simp[Jr.or,h],b',rfl,h0,h1,hB3⟩⟩):p:=h
open Go.RowKit
theorem U5{w:World}{b:Nat}{x y:Value}{ty:TypeId}(h:w.heap[b]? =some (.cells #[x,y] ty (0,0))):w.cell? ⟨b,0,none⟩=some x/\w.cell? ⟨b,1,none⟩=some y/\w.frozen? ⟨b,0,none⟩=false/\w.frozen? ⟨b,1,none⟩=false:=by
 refine⟨?_,?_,?_,?_⟩
 ·simp[World.cell?,h]
 ·simp[World.cell?,h]
 ·simp[World.frozen?,h]
 ·simp[World.frozen?,h]
theorem ZbZ.below{W W':World}{m nb n:Nat}{sv av:Value}{s:Sc}{xs:List XS}{gv:Value}(h:ZbZ W m nb n sv av s xs gv)(hB:Below W.heap.size W W'):ZbZ W' m nb n sv av s xs gv:=by
 have hx:∀(g:Nat) (ob:Obj),W.heap[g]? =some ob->W'.heap[g]? =some ob:=fun g ob e=>(hB.block g (ZWU.1 e).1).trans e;rcases h with h|⟨h,G,kv,mv,rb,ps,e,h6⟩
 ·exact ZS3
 ·exact .inr ⟨h,G,kv,mv,rb,ps,e,h6.same ⟨fun g cu e=>hx g _ e,fun g cu e=>hx g _ e,fun g cu e=>hx g _ e⟩ (fun g cu _ e=>hx g _ e) (fun g cu _ e=>hx g _ e)⟩
def Zda(W:World)(ss:List Sc)(Zd text:Za)(e:Ending)(W':World):Prop:=
 ((Xb Zd text ss).2.lost=true/\XD W.heap.size 5 0 W e W')\/((Xb Zd text ss).2.lost=false/\∃l i c s',Ye Zd text ss=some (l,i,c)/\ss[l]? =some s'/\e= .returned (.tuple #[.int .i64 (l:Nat),.agg #[.int .i64 ((Zbv s' i+c:Nat):Int),.int .i64 (ZI (Xb Zd text ss).1)]])/\Below W.heap.size W W'/\Zbv s' i+c<=1000)
theorem ZGy(W:World)(Zd text:Za):Calls prog 172 #[.pointer none,.agg #[.string ⟨Zd.toArray⟩,.string ⟨text.toArray⟩]] W (Zda W [] Zd text):=by
 have HL:Hid ((Xb Zd text []).2.lost=true):=rfl;go_enter func172,ntmps172;go_wp2_with fail;refine(ZcI _).mono ?_;rintro e w' ⟨b',rfl,h0,h1,hB3⟩;go_wp2;have hB:Below W.heap.size W ((W.alloc (.cells #[.string ⟨Zd.toArray⟩,.string ⟨text.toArray⟩] 344)).alloc (.cells #[.int .i64 0,.int .i64 0] 346)):=((ZWT _ W).alloc (ZWS _) _).alloc ZPm _;exact⟨rfl,.inl ⟨HL.out,b',rfl,h0,h1,hB.trans (hB3.mono hB.size)⟩⟩
theorem ZGx(W0 W:World)(m nb n:Nat)(v:Value)(s:Sc)(up:List Sc)(Zd text:Za)(hB0:Below W0.heap.size W0 W)(hp:Yv W0 W m (s::up) nb n v)(hgl:s.groups.length<=400)(htl:text.length<=90000)(hul:up.length<=1000000)
  (ih:∀w' av nb',Below W0.heap.size W0 w'->Yv W0 w' m up nb' nb av->Calls prog 172 #[av,.agg #[.string ⟨Zd.toArray⟩,.string ⟨text.toArray⟩]] w' (Zda w' up Zd text)):
  Calls prog 172 #[v,.agg #[.string ⟨Zd.toArray⟩,.string ⟨text.toArray⟩]] W (Zda W (s::up) Zd text):=by
 obtain⟨b,sv,av,gv,xs,nb',rfl,ho,hsv,hs,ht,hnb,hup,hg⟩:=hp;obtain⟨oa,rfl⟩:∃o,av= .pointer o:=by
  cases up with
  |nil=>exact⟨_,hup⟩
  |cons s2 up2=>obtain⟨b2,_,_,_,_,_,rfl,_⟩:=hup;exact⟨_,rfl⟩
 go_enter func172,ntmps172;go_wp2_with fail;refine(ZbL _).mono ?_;rintro e w' ⟨rfl,rfl⟩;generalize Yb:(W.alloc (.cells #[.string ⟨Zd.toArray⟩,.string ⟨text.toArray⟩] 344)).alloc (.cells #[.int .i64 0,.int .i64 0] 346)=Wp;have ZE:Below W.heap.size W Wp:=by rw[<-Yb];exact((ZWT _ W).alloc (ZWS _) _).alloc ZPm _
 have hsp:Wp.heap.size=W.heap.size+2:=by rw[<-Yb];simp
 have hn0:Wp.heap[W.heap.size]? =some (.cells #[.string ⟨Zd.toArray⟩,.string ⟨text.toArray⟩] 344 (0,0)):=by
  rw[<-Yb];exact(ZXa _ _ _ ZPm).trans (ZWV W _)
 have hn1:Wp.heap[W.heap.size+1]? =some (.cells #[.int .i64 0,.int .i64 0] 346 (0,0)):=by
  rw[<-Yb];have:=ZWV (W.alloc (.cells #[.string ⟨Zd.toArray⟩,.string ⟨text.toArray⟩] 344)) (.cells #[.int .i64 0,.int .i64 0] 346);exact ZWq
 clear Yb;have c0:Wp.cell? ⟨W.heap.size,0,none⟩=some (.string ⟨Zd.toArray⟩):=by simp[World.cell?,hn0]
 have c1:Wp.cell? ⟨W.heap.size,1,none⟩=some (.string ⟨text.toArray⟩):=by simp[World.cell?,hn0]
 have hx:∀w' g ob,Below W.heap.size W w'->W.heap[g]? =some ob->w'.heap[g]? =some ob:=fun w' g ob hb e=>(hb.block g (ZWU.1 e).1).trans e;have ZnM:=ZGB W0 Wp b sv (.pointer oa) gv s xs Zd text (hB0.trans (ZE.mono hB0.size)) (hx Wp _ _ ZE ho) (hsv.same fun g cu e=>hx Wp _ _ ZE e) hs ht htl;go_wp2_with fail;refine ZnM.mono ?_;rintro e w2 (⟨hat,hbad⟩|⟨Qd,lv,rfl,hown,hB2⟩)
 ·have HL:Hid ((Xb Zd text (s::up)).2.lost=true):=by show _=_;rw[Zjy (hat up)]
  obtain⟨b',rfl,h0,h1,hB3⟩:=hbad;clear hat ZnM;go_wp2;exact⟨rfl,.inl ⟨HL.out,b',rfl,h0,h1,ZE.trans (hB3.mono ZE.size)⟩⟩
 ·obtain⟨la,lc,rfl⟩:=U6 hown;have hBW:Below W.heap.size W w2:=ZE.trans (hB2.mono ZE.size);have Vj:=hB0.trans (hBW.mono hB0.size);have hbl:=(ZWU.1 ho).1;have hs2:=hB2.size;have c2:w2.cell? ⟨b,1,none⟩=some (.pointer oa):=(hBW.cell (p:=⟨b,1,none⟩) hbl).trans ZP7;have d0:=(hB2.cell (p:=⟨W.heap.size,0,none⟩) (by show W.heap.size<_;omega)).trans c0;have d1:=(hB2.cell (p:=⟨W.heap.size,1,none⟩) (by show W.heap.size<_;omega)).trans c1;have hr1:=(hB2.block (W.heap.size+1) U).trans hn1;clear ZnM c0 c1 hn0 hn1;match hH:hits Zd text s.names s.tabs 0 with
  | []=>
   rw[hH]at hown Qd;have Xi:QF Zd s.names=false:=by
    cases hq:QF Zd s.names with
    |false=>rfl
    |true=>exact absurd rfl (Qd hq)
   have HCU:Hid (Xb Zd text (s::up)=Xb Zd text up):=ZBs (by rw[hH];rfl) Xi;have HAU:Hid (Ye Zd text (s::up)=(Ye Zd text up).map fun p=>(p.1+1,p.2.1,p.2.2)):=ZgW (by rw[hH];rfl) Xi;have hih:=ih w2 (.pointer oa) nb' Vj (Yv.below (W:=W) hup hBW);have HIH:Hid (∀w',Below w2.heap.size w2 w'->Calls prog 172 #[.pointer oa,.agg #[.string ⟨Zd.toArray⟩,.string ⟨text.toArray⟩]] w' (Zda w' up Zd text)):=fun w' hb=>ih w' (.pointer oa) nb' (Vj.trans (hb.mono Vj.size)) (Yv.below (W:=W) hup (hBW.trans (hb.mono hBW.size)));have Ztk:b<w2.heap.size:=by have:=hBW.size;omega
   have Zke:W.heap.size<w2.heap.size:=U
   have c2a:∀o,(w2.drew.alloc o).cell? ⟨b,1,none⟩=some (.pointer oa):=fun o=>(ZW6 w2.drew o ⟨b,1,none⟩ Ztk).trans c2;have d0a:∀o,(w2.drew.alloc o).cell? ⟨W.heap.size,0,none⟩=some (.string ⟨Zd.toArray⟩):=fun o=>(ZW6 w2.drew o ⟨W.heap.size,0,none⟩ Zke).trans d0;have d1a:∀o,(w2.drew.alloc o).cell? ⟨W.heap.size,1,none⟩=some (.string ⟨text.toArray⟩):=fun o=>(ZW6 w2.drew o ⟨W.heap.size,1,none⟩ Zke).trans d1;have c2b:∀o,(w2.alloc o).cell? ⟨b,1,none⟩=some (.pointer oa):=fun o=>(ZW6 w2 o ⟨b,1,none⟩ Ztk).trans c2;have d0b:∀o,(w2.alloc o).cell? ⟨W.heap.size,0,none⟩=some (.string ⟨Zd.toArray⟩):=fun o=>(ZW6 w2 o ⟨W.heap.size,0,none⟩ Zke).trans d0;have d1b:∀o,(w2.alloc o).cell? ⟨W.heap.size,1,none⟩=some (.string ⟨text.toArray⟩):=fun o=>(ZW6 w2 o ⟨W.heap.size,1,none⟩ Zke).trans d1;clear hH Qd Xi hown ih hih;go_upto_region 4 with fail
   go_cut [7,8] (fun ov fv wx=>∃(l i c:Nat) (s':Sc) (fb:Nat),Hid (Ye Zd text up=some (l,i,c)/\up[l]? =some s'/\(Xb Zd text up).2.lost=false/\Zbv s' i+c<=1000)/\ov= .int .i64 (l:Nat)/\fv= .pointer (some ⟨fb,0,none⟩)/\wx.heap[fb]? =some (.cells #[.int .i64 ((Zbv s' i+c:Nat):Int),.int .i64 (ZI (Xb Zd text up).1)] 346 (0,0))/\Below w2.heap.size w2 wx);case first=>
    go_region_with (go_at_call 172;refine(HIH.out _ (by first|exact ZW (ZWT _ _) 1|exact ZW ((ZWT _ w2).alloc (ZWS _) _) 1)).mono ?_;intro e w3 hpost;rcases hpost with hbad|hgood;(focus (obtain⟨hlo,b',rfl,h0,h1,hB3⟩:=hbad;go_wp2;exact⟨rfl,.inl ⟨by rw[HCU.out];exact hlo,b',rfl,h0,h1,hBW.trans ((show Below w2.heap.size w2 w3 by first|exact(ZW (ZWT w2.heap.size w2) 1).trans (hB3.mono ZPm)|exact(ZW ((ZWT w2.heap.size w2).alloc (ZWS _) _) 1).trans (hB3.mono ZPm)).mono hBW.size)⟩⟩));obtain⟨hlo,l,i,c,s',hat,hsl,rfl,hB3,Zhk⟩:=hgood;first|(have hTv:w3.heap[w2.heap.size]? =some (.cells #[.int .i64 0,.int .i64 0] 346 (0,0)):=(hB3.block w2.heap.size ZPm).trans (by exact ZWV _ _);obtain⟨q0,q1,q2,q3⟩:=U5 hTv)|skip);all_goals
     go_wp2_with fail;go_meet;first
      |exact⟨l,i,c,s',_,⟨hat,hsl,hlo,Zhk⟩,rfl,rfl,ZWV w3 _,((ZW (ZWT w2.heap.size w2) 1).trans (hB3.mono ZPm)).alloc (ZW0 (show w2.heap.size<=w2.drew.heap.size from ZWS _) hB3.size) _⟩
      |exact⟨l,i,c,s',_,⟨hat,hsl,hlo,Zhk⟩,rfl,rfl,Xn (Xn hTv),((((ZW (ZWT w2.heap.size w2) 1).alloc (ZWS _) _).trans (hB3.mono ZPm)).setCell (p:=⟨w2.heap.size,0,none⟩) (ZWS _) _).setCell (p:=⟨w2.heap.size,1,none⟩) (ZWS _) _⟩
   case rest=>
    obtain⟨l,i,c,s',fb,hfa,rfl,rfl,hfb,hBx⟩:=hcut;obtain⟨wx,ewx⟩:∃wx,wx=wc:=⟨_,rfl⟩;subst ewx;obtain⟨q0,q1,q2,q3⟩:=U5 hfb;have hll:l<up.length:=(ZXq.1 hfa.out.2.1).1;have hr3:=(hBx.block (W.heap.size+1) U).trans hr1;obtain⟨r0,r1,r2,r3⟩:=U5 hr3;generalize htt:ZI (Xb Zd text up).1=ty at *;have HTT:=(show Hid _ from htt);clear htt c2a d0a d1a c2b d0b d1b HIH;have hfc:=hfa.out.2.2.2;generalize hff:Zbv s' i+c=ff at *;go_wp2_with fail;have HP:Hid (∀W',Below W.heap.size W W'->Zda W (s::up) Zd text (.returned (.tuple #[.int .i64 ((l+1:Nat):Int),.agg #[.int .i64 (ff:Int),.int .i64 ty]])) W'):=fun W' hb=>by
     refine .inr ⟨by rw[HCU.out];exact hfa.out.2.2.1,l+1,i,c,s',by rw[HAU.out,hfa.out.1];rfl,by simpa using hfa.out.2.1,?_,hb,by rw[hff];exact hfc⟩;rw[HCU.out,HTT.out,hff]
    have hBX:Below W.heap.size W wx:=hBW.trans (hBx.mono hBW.size);go_region;all_goals
     go_wp2;refine ZW4 (v:=.tuple #[.int .i64 ((l:Int)+1),.agg #[.int .i64 (ff:Int),.int .i64 ty]]) (by simp[results,Tryz.results172,go_sem,r0,r1,r2,r3,q0,q1]) rfl ?_;exact HP.out _ (ZW ((hBX.setCell (p:=⟨W.heap.size+1,0,none⟩) ZPm _).setCell (p:=⟨W.heap.size+1,1,none⟩) ZPm _) 1)
  | [p]=>
   obtain⟨pi,pc⟩:=p;rw[hH]at hown;obtain⟨x,hxx,hxc,hat,hcs,hti⟩:=ZBr (up:=up) hs hH;have hsh:=fun w' hb=>ZGG W0 w' m nb n b sv (.pointer oa) gv s xs pi pc (ZeW xs (pi,pc)) x (hx w' _ _ hb ho) hs (ZbZ.below hg hb) hxx hxc hgl;have hoc:=fun g=>hown.cells (g:=g);obtain⟨lg,rfl⟩:∃g,la=some ⟨g,0,none⟩:=by
    rcases hown.2 with⟨_,h0⟩|⟨g,cap,cur,e,_⟩
    ·cases h0
    ·cases e;exact⟨g,rfl⟩
   have l0:=hoc lg rfl 0 _ rfl;have l1:=hoc lg rfl 1 _ rfl;rw[ZXE,ZX5]at l0 l1;have V8:Hid (x.Ze[pc].2=ZeW xs (pi,pc)):=(Zw8 hxx hxc).symm;have UR:Hid (ZR xs pi=Zbv s pi):=hs.first pi;have hf6:ZR xs pi+pc<=1000:=by
    have h1:=ZjI xs (fun x hx=>(hs.ok x hx).le) pi;have h2:=(ZXq.1 hxx).1;have h3:=hs.le;have h4:=(hs.ok x (ZXW hxx)).le;omega
   have HAT:=(show Hid _ from hat);have HCS:=(show Hid _ from hcs);have HTI:=(show Hid _ from hti);have ZtG:lg<w2.heap.size:=ZWW w2 _ l0;clear hat hcs hti hH Qd hown ih hoc;simp only[List.length_cons,List.length_nil,ZX5]at *;generalize hff:ZR xs pi+pc=ff at *;generalize Zks:ZeW xs (pi,pc)=ty at *;have HFF:=(show Hid _ from hff);have ZNp:=(show Hid _ from Zks);clear hff Zks;go_wp2_with fail;refine(hsh w2 hBW).mono ?_;rintro e w3 ⟨rfl,hB3⟩;have VP:=hBW.trans (hB3.mono hBW.size);generalize hsb:ZdO s pi pc=sb at *;have HSB:=(show Hid _ from hsb);have l03:=(hB3.cell (p:=⟨lg,0,none⟩) ZtG).trans l0;have l13:=(hB3.cell (p:=⟨lg,0+1,none⟩) ZtG).trans l1;have hr3:=(hB3.block (W.heap.size+1) U).trans hr1;obtain⟨r0,r1,r2,r3⟩:=U5 hr3;clear hsb hsh l0 l1;cases sb with
   |false=>
    go_wp2_with fail;refine(ZcI _).mono ?_;rintro e w' ⟨b',rfl,h0,h1,hB4⟩;go_wp2;exact⟨rfl,.inl ⟨by rw[HCS.out];rfl,b',rfl,h0,h1,VP.trans (hB4.mono VP.size)⟩⟩
   |true=>
    have HP:Hid (∀W',Below W.heap.size W W'->Zda W (s::up) Zd text (.returned (.tuple #[.int .i64 ((0:Nat):Int),.agg #[.int .i64 (ff:Int),.int .i64 ty]])) W'):=fun W' hb=>by
     refine .inr ⟨by rw[HCS.out];rfl,0,pi,pc,s,HAT.out,rfl,?_,hb,by rw[<-UR.out,HFF.out];exact hf6⟩;rw[HCS.out,HTI.out,V8.out,<-UR.out,HFF.out]
    go_wp2_with fail;refine(ZbL _).mono ?_;rintro e w' ⟨rfl,rfl⟩;go_wp2_with fail;go_region;all_goals
     go_wp2;refine ZW4 (v:=.tuple #[.int .i64 0,.agg #[.int .i64 (ff:Int),.int .i64 ty]]) (by simp[results,Tryz.results172,go_sem,r0,r1,r2,r3,l03,l13]) rfl ?_;exact HP.out _ (ZW ((VP.setCell (p:=⟨W.heap.size+1,0,none⟩) ZPm _).setCell (p:=⟨W.heap.size+1,1,none⟩) ZPm _) 1)
  |p1::p2::r=>
   have HL:Hid ((Xb Zd text (s::up)).2.lost=true):=by show _=_;rw[Zjy (Zjf (by rw[hH];simp))]
   have hne:((((p1::p2::r).length:Nat):Int)==1)=false:=by simp;omega
   have hne0:((((p1::p2::r).length:Nat):Int)==0)=false:=by simp;omega
   clear hH Qd hown ih;generalize (p1::p2::r).length=nn at *;go_wp2_with fail;refine(ZcI _).mono ?_;rintro e w' ⟨b',rfl,h0,h1,hB3⟩;go_wp2;exact⟨rfl,.inl ⟨HL.out,b',rfl,h0,h1,hBW.trans (hB3.mono hBW.size)⟩⟩
theorem Zof(W0:World)(m:Nat)(Zd text:Za)(htl:text.length<=90000):∀(ss:List Sc) (W:World) (nb n:Nat) (v:Value),Below W0.heap.size W0 W->Yv W0 W m ss nb n v->(∀s∈ss,s.groups.length<=400)->ss.length<=1000000->
  Calls prog 172 #[v,.agg #[.string ⟨Zd.toArray⟩,.string ⟨text.toArray⟩]] W (Zda W ss Zd text)
 | [],W,nb,n,v,hB,hp,_,_=>by
  rw[show v= .pointer none from hp];exact ZGy W Zd text
 |s::up,W,nb,n,v,hB,hp,hg,hl=>ZGx W0 W m nb n v s up Zd text hB hp (hg s ZXn) htl ZQT fun w' av nb' hB' hp'=>Zof W0 m Zd text htl up w' nb' nb av hB' hp' (fun y hy=>hg y (ZXe _ hy)) ZQT
theorem ZL0(y:Value)(w:World):(Instr.typeAssert (.iface 398 y) 318 398 true).run prog w= .ok (.tuple #[y,.bool true]) w:=by kernel_rfl
theorem ZLF(y:Value)(w:World):(Instr.typeAssert (.iface 344 y) 318 398 true).run prog w= .ok (.tuple #[.agg #[.nilIface],.bool false]) w:=by kernel_rfl
theorem ZLG(y:Value)(w:World):(Instr.typeAssert (.iface 344 y) 318 344 true).run prog w= .ok (.tuple #[y,.bool true]) w:=by kernel_rfl
theorem ZL2(y:Value)(w:World):(Instr.typeAssert (.iface 403 y) 318 398 true).run prog w= .ok (.tuple #[.agg #[.nilIface],.bool false]) w:=by kernel_rfl
theorem ZL3(y:Value)(w:World):(Instr.typeAssert (.iface 403 y) 318 344 true).run prog w= .ok (.tuple #[.agg #[.string ⟨#[]⟩,.string ⟨#[]⟩],.bool false]) w:=by kernel_rfl
theorem ZwP(y:Value)(w:World):(Instr.typeAssert (.iface 403 y) 318 403 true).run prog w= .ok (.tuple #[y,.bool true]) w:=by kernel_rfl
theorem ZLD(y:Value)(w:World):(Instr.typeAssert (.iface 407 y) 318 398 true).run prog w= .ok (.tuple #[.agg #[.nilIface],.bool false]) w:=by kernel_rfl
theorem ZLE(y:Value)(w:World):(Instr.typeAssert (.iface 407 y) 318 344 true).run prog w= .ok (.tuple #[.agg #[.string ⟨#[]⟩,.string ⟨#[]⟩],.bool false]) w:=by kernel_rfl
theorem ZwN(y:Value)(w:World):(Instr.typeAssert (.iface 407 y) 318 403 true).run prog w= .ok (.tuple #[.agg #[.nilIface],.bool false]) w:=by kernel_rfl
theorem ZwO(y:Value)(w:World):(Instr.typeAssert (.iface 407 y) 318 407 true).run prog w= .ok (.tuple #[y,.bool true]) w:=by kernel_rfl
theorem ZwL(y:Value)(w:World):(Instr.typeAssert (.iface 410 y) 318 398 true).run prog w= .ok (.tuple #[.agg #[.nilIface],.bool false]) w:=by kernel_rfl
theorem ZwM(y:Value)(w:World):(Instr.typeAssert (.iface 410 y) 318 344 true).run prog w= .ok (.tuple #[.agg #[.string ⟨#[]⟩,.string ⟨#[]⟩],.bool false]) w:=by kernel_rfl
theorem Zps(y:Value)(w:World):(Instr.typeAssert (.iface 410 y) 318 403 true).run prog w= .ok (.tuple #[.agg #[.nilIface],.bool false]) w:=by kernel_rfl
theorem Zpt(y:Value)(w:World):(Instr.typeAssert (.iface 410 y) 318 407 true).run prog w= .ok (.tuple #[.agg #[.nilIface,.string ⟨#[]⟩,.nilIface],.bool false]) w:=by kernel_rfl
theorem Zpu(y:Value)(w:World):(Instr.typeAssert (.iface 410 y) 318 410 true).run prog w= .ok (.tuple #[y,.bool true]) w:=by kernel_rfl
theorem ZL1(y:Value)(w:World):(Instr.typeAssert (.iface 312 y) 214 312 true).run prog w= .ok (.tuple #[y,.bool true]) w:=by kernel_rfl
theorem ZL4(y:Value)(w:World):(Instr.typeAssert (.iface 315 y) 214 312 true).run prog w= .ok (.tuple #[.agg #[.nilIface,.string ⟨#[]⟩,.nilIface],.bool false]) w:=by kernel_rfl
theorem ZL5(y:Value)(w:World):(Instr.typeAssert (.iface 315 y) 214 315 true).run prog w= .ok (.tuple #[y,.bool true]) w:=by kernel_rfl
theorem ZLH(y:Value)(w:World):(Instr.typeAssert (.iface 322 y) 214 312 true).run prog w= .ok (.tuple #[.agg #[.nilIface,.string ⟨#[]⟩,.nilIface],.bool false]) w:=by kernel_rfl
theorem ZLI(y:Value)(w:World):(Instr.typeAssert (.iface 322 y) 214 315 true).run prog w= .ok (.tuple #[.agg #[.nilIface],.bool false]) w:=by kernel_rfl
theorem ZLJ(y:Value)(w:World):(Instr.typeAssert (.iface 322 y) 214 322 true).run prog w= .ok (.tuple #[y,.bool true]) w:=by kernel_rfl
theorem ZLV(y:Value)(w:World):(Instr.typeAssert (.iface 325 y) 214 312 true).run prog w= .ok (.tuple #[.agg #[.nilIface,.string ⟨#[]⟩,.nilIface],.bool false]) w:=by kernel_rfl
theorem ZLW(y:Value)(w:World):(Instr.typeAssert (.iface 325 y) 214 315 true).run prog w= .ok (.tuple #[.agg #[.nilIface],.bool false]) w:=by kernel_rfl
theorem ZLX(y:Value)(w:World):(Instr.typeAssert (.iface 325 y) 214 322 true).run prog w= .ok (.tuple #[.agg #[.nilIface,.string ⟨#[]⟩,.nilIface],.bool false]) w:=by kernel_rfl
theorem ZLY(y:Value)(w:World):(Instr.typeAssert (.iface 325 y) 214 325 true).run prog w= .ok (.tuple #[y,.bool true]) w:=by kernel_rfl
theorem ZLK(y:Value)(w:World):(Instr.typeAssert (.iface 335 y) 214 312 true).run prog w= .ok (.tuple #[.agg #[.nilIface,.string ⟨#[]⟩,.nilIface],.bool false]) w:=by kernel_rfl
theorem ZLL(y:Value)(w:World):(Instr.typeAssert (.iface 335 y) 214 315 true).run prog w= .ok (.tuple #[.agg #[.nilIface],.bool false]) w:=by kernel_rfl
theorem ZLM(y:Value)(w:World):(Instr.typeAssert (.iface 335 y) 214 322 true).run prog w= .ok (.tuple #[.agg #[.nilIface,.string ⟨#[]⟩,.nilIface],.bool false]) w:=by kernel_rfl
theorem ZLN(y:Value)(w:World):(Instr.typeAssert (.iface 335 y) 214 325 true).run prog w= .ok (.tuple #[.agg #[.nilIface,.bool false],.bool false]) w:=by kernel_rfl
theorem ZLO(y:Value)(w:World):(Instr.typeAssert (.iface 335 y) 214 335 true).run prog w= .ok (.tuple #[y,.bool true]) w:=by kernel_rfl
theorem ZLP(y:Value)(w:World):(Instr.typeAssert (.iface 338 y) 214 312 true).run prog w= .ok (.tuple #[.agg #[.nilIface,.string ⟨#[]⟩,.nilIface],.bool false]) w:=by kernel_rfl
theorem ZLQ(y:Value)(w:World):(Instr.typeAssert (.iface 338 y) 214 315 true).run prog w= .ok (.tuple #[.agg #[.nilIface],.bool false]) w:=by kernel_rfl
theorem ZLR(y:Value)(w:World):(Instr.typeAssert (.iface 338 y) 214 322 true).run prog w= .ok (.tuple #[.agg #[.nilIface,.string ⟨#[]⟩,.nilIface],.bool false]) w:=by kernel_rfl
theorem ZLS(y:Value)(w:World):(Instr.typeAssert (.iface 338 y) 214 325 true).run prog w= .ok (.tuple #[.agg #[.nilIface,.bool false],.bool false]) w:=by kernel_rfl
theorem ZLT(y:Value)(w:World):(Instr.typeAssert (.iface 338 y) 214 335 true).run prog w= .ok (.tuple #[.agg #[.nilIface],.bool false]) w:=by kernel_rfl
theorem ZLU(y:Value)(w:World):(Instr.typeAssert (.iface 338 y) 214 338 true).run prog w= .ok (.tuple #[y,.bool true]) w:=by kernel_rfl
theorem ZL8(y:Value)(w:World):(Instr.typeAssert (.iface 341 y) 214 312 true).run prog w= .ok (.tuple #[.agg #[.nilIface,.string ⟨#[]⟩,.nilIface],.bool false]) w:=by kernel_rfl
theorem ZL9(y:Value)(w:World):(Instr.typeAssert (.iface 341 y) 214 315 true).run prog w= .ok (.tuple #[.agg #[.nilIface],.bool false]) w:=by kernel_rfl
theorem ZMa(y:Value)(w:World):(Instr.typeAssert (.iface 341 y) 214 322 true).run prog w= .ok (.tuple #[.agg #[.nilIface,.string ⟨#[]⟩,.nilIface],.bool false]) w:=by kernel_rfl
theorem ZMb(y:Value)(w:World):(Instr.typeAssert (.iface 341 y) 214 325 true).run prog w= .ok (.tuple #[.agg #[.nilIface,.bool false],.bool false]) w:=by kernel_rfl
theorem ZMc(y:Value)(w:World):(Instr.typeAssert (.iface 341 y) 214 335 true).run prog w= .ok (.tuple #[.agg #[.nilIface],.bool false]) w:=by kernel_rfl
theorem ZMd(y:Value)(w:World):(Instr.typeAssert (.iface 341 y) 214 338 true).run prog w= .ok (.tuple #[.agg #[.nilIface,.nilIface,.bool false],.bool false]) w:=by kernel_rfl
theorem ZMe(y:Value)(w:World):(Instr.typeAssert (.iface 341 y) 214 341 true).run prog w= .ok (.tuple #[y,.bool true]) w:=by kernel_rfl
theorem ZLZ(y:Value)(w:World):(Instr.typeAssert (.iface 205 y) 88 205 true).run prog w= .ok (.tuple #[y,.bool true]) w:=by kernel_rfl
theorem ZL6(y:Value)(w:World):(Instr.typeAssert (.iface 217 y) 88 205 true).run prog w= .ok (.tuple #[.agg #[.nilIface,.string ⟨#[]⟩,.nilIface],.bool false]) w:=by kernel_rfl
theorem ZL7(y:Value)(w:World):(Instr.typeAssert (.iface 217 y) 88 217 true).run prog w= .ok (.tuple #[y,.bool true]) w:=by kernel_rfl
structure Z7 (W0 W:World) (C M:Nat) (cl:Bool) (m:Nat) (ss:List Sc) (nb n b:Nat):Prop where
 ck:Y3 W0 C M cl W
 pl:Yv W0 W m ss nb n (.pointer (some ⟨b,0,none⟩))
 nb:W0.heap.size<=nb
 n:n<=W.heap.size
 gl:∀s∈ss,s.groups.length<=400
 len:ss.length<=1000000
structure Fr (ss:List Sc) (nb C:Nat) (W W':World):Prop where
 fx:FX nb C W W'
 kp:ZaX ss≠YV->Zb C W W'
theorem Fr.refl(ss:List Sc)(nb C:Nat)(W:World):Fr ss nb C W W:=⟨FX.refl _ _ _,fun _=>Zb.refl _ _⟩
theorem Fr.trans{ss:List Sc}{nb C:Nat}{a b c:World}(h:Fr ss nb C a b)(k:Fr ss nb C b c):Fr ss nb C a c:=⟨h.fx.trans k.fx,fun hp=>(h.kp hp).trans (k.kp hp)⟩
theorem Fr.of_below{ss:List Sc}{nb C:Nat}{W W':World}(h:Below W.heap.size W W'):Fr ss nb C W W':=⟨FX.of_below h,fun _=>Zb.of_below h⟩
theorem Fr.X6{ss:List Sc}{nb C:Nat}{W W':World}(h:Zb C W W')(hc:∃cu fr,W.heap[C]? =some (.cells cu 161 fr)):Fr ss nb C W W':=⟨FX.X6 h hc,fun _=>h⟩
theorem Z7.below{W0 W W':World}{C M:Nat}{cl:Bool}{m:Nat}{ss:List Sc}{nb n b:Nat}(h:Z7 W0 W C M cl m ss nb n b)(hB:Below W.heap.size W W'):Z7 W0 W' C M cl m ss nb n b:=
 ⟨h.ck.below hB,h.pl.below hB,h.nb,ZW0 h.n hB.size,h.gl,h.len⟩
theorem Z7.wide{W0 W:World}{C M:Nat}{cl:Bool}{m m':Nat}{ss:List Sc}{nb n b:Nat}(h:Z7 W0 W C M cl m ss nb n b)(hm:m<=m'):Z7 W0 W C M cl m' ss nb W.heap.size b:=
 ⟨h.ck,h.pl.wide hm h.n,h.nb,ZWS _,h.gl,h.len⟩
theorem Z7.keep{W0 W W':World}{C M:Nat}{cl cl':Bool}{m:Nat}{ss:List Sc}{nb n b:Nat}(h:Z7 W0 W C M cl m ss nb n b)(hK:Zb C W W')(hc:Y3 W0 C M cl' W'):Z7 W0 W' C M cl' m ss nb n b:=
 ⟨hc,h.pl.keep hK h.ck.is,h.nb,ZW0 h.n hK.size,h.gl,h.len⟩
def QT(W0 W:World)(C M:Nat)(cl:Bool)(m:Nat)(ss:List Sc)(nb b:Nat)(t:Tr)(e:Ending)(W':World):Prop:=
 ((jx t ss).2.lost=true/\XD W0.heap.size 5 0 W0 e W')\/((jx t ss).2.lost=false/\∃f1 f2 f3,e= .returned (.tuple #[.func f1 f2 f3,.int .i64 (ZI (jx t ss).1)])/\Fr ss nb C W W'/\Z7 W0 W' C M (cl||(jx t ss).2.ZG) (m+sz t) ss nb W'.heap.size b)
def XK(x:Value)(t:Tr):Prop:=∀(W0 W:World) (C M:Nat) (cl:Bool) (m:Nat) (ss:List Sc) (nb n b:Nat),Z7 W0 W C M cl m ss nb n b->m+sz t<=1000000->
 Calls prog 167 #[.pointer (some ⟨C,0,none⟩),x,.pointer (some ⟨b,0,none⟩)] W (QT W0 W C M cl m ss nb b t)
theorem ZCh{W0 W W':World}{C M:Nat}{cl:Bool}{m:Nat}{ss:List Sc}{nb n b:Nat}{t:Tr}{f1:Fn}{f2 f3:Array Value}{ty:Za}(h:Z7 W0 W C M cl m ss nb n b)(hB:Below W.heap.size W W')(hj:jx t ss=(ty,{})):QT W0 W C M cl m ss nb b t (.returned (.tuple #[.func f1 f2 f3,.int .i64 (ZI ty)])) W':=by
 refine .inr ⟨by rw[hj],f1,f2,f3,by rw[hj],Fr.of_below hB,?_⟩;rw[hj,ZYc];exact(h.below hB).wide (Nat.le_add_right _ _)
theorem ZGJ(W:World)(n:Int):Calls prog 213 #[.iface 178 (.int .i64 n)] W fun e w'=>e= .returned (.int .i64 1)/\w'=W:=by
 have YU:∀w,(Instr.typeAssert (.iface 178 (.int .i64 n)) 98 178 true).run prog w= .ok (.tuple #[.int .i64 n,.bool true]) w:=fun _=>ZPn
 exact ZUg
theorem ZGL(W:World)(n:Za):Calls prog 213 #[.iface 100 (.string ⟨n.toArray⟩)] W fun e w'=>e= .returned (.int .i64 2)/\w'=W:=by
 have YU:∀w,(Instr.typeAssert (.iface 100 (.string ⟨n.toArray⟩)) 98 178 true).run prog w= .ok (.tuple #[.int .i64 0,.bool false]) w:=fun _=>ZPn
 have htb:∀w,(Instr.typeAssert (.iface 100 (.string ⟨n.toArray⟩)) 98 100 true).run prog w= .ok (.tuple #[.string ⟨n.toArray⟩,.bool true]) w:=fun _=>ZPn
 exact ZUg
theorem ZGK(W:World):Calls prog 213 #[.iface 176 (.agg #[])] W fun e w'=>e= .returned (.int .i64 0)/\w'=W:=by
 have YU:∀w,(Instr.typeAssert (.iface 176 (.agg #[])) 98 178 true).run prog w= .ok (.tuple #[.int .i64 0,.bool false]) w:=fun _=>ZPn
 have htb:∀w,(Instr.typeAssert (.iface 176 (.agg #[])) 98 100 true).run prog w= .ok (.tuple #[.string ⟨#[]⟩,.bool false]) w:=fun _=>ZPn
 exact ZUg
theorem ZmO(n:TypeId)(y:Value)(t:Tr)(ty:Za)(hj:∀ss,jx t ss=(ty,{}))(hty:∀W,Calls prog 213 #[.iface n y] W fun e w'=>e= .returned (.int .i64 (ZI ty))/\w'=W):XK (.iface 398 (.agg #[.iface n y])) t:=by
 intro W0 W C M cl m ss nb nn b hI hm;have HJ:=(show Hid _ from hj ss);have ta:=ZL0 (.agg #[.iface n y]);have V8:=(show Hid _ from hty);have HK:Hid (∀w' f1 f2 f3,Below W.heap.size W w'->QT W0 W C M cl m ss nb b t (.returned (.tuple #[.func f1 f2 f3,.int .i64 (ZI ty)])) w'):=fun w' f1 f2 f3 hB=>ZCh hI hB (hj ss);clear hj hty hI;generalize ZI ty=k at V8 HK;go_enter func167,ntmps167;go_wp2_with fail;go_region_with (first|(go_at_call 212;refine(Zoe _ _ _).mono ?_;rintro e w1 ⟨x1,x2,x3,rfl,hB1⟩;have hc1:w1.cell? ⟨W.heap.size,0,none⟩=some (.iface n y):=(hB1.cell (p:=⟨W.heap.size,0,none⟩) ZPm).trans ZPm)|(go_at_call 213;refine(V8.out _).mono ?_;rintro e w2 ⟨rfl,rfl⟩));all_goals
  go_wp2_with fail;go_ret2;exact HK.out _ _ _ _ ((ZW ((ZWT _ W).alloc (ZWS _) _) 1).trans (hB1.mono ZPm))
theorem ZCg(n:Int):XK (.iface 398 (.agg #[.iface 178 (.int .i64 n)])) (nd {kind:=Yh,num:=n} .nil):=
 ZmO _ _ _ Xo (fun ss=>by rw[nd,jx];exact ZWR rfl) (fun W=>ZGJ W n)
theorem ZCj(s:Za):XK (.iface 398 (.agg #[.iface 100 (Zv s)])) (nd {kind:=Yd,text:=s} .nil):=
 ZmO _ _ _ ZaS (fun ss=>by rw[nd,jx,ZWQ (by show ¬Yd=ZcH;decide),ZWR (.inl rfl)];rfl) (fun W=>ZGL W s)
theorem ZCf:XK (.iface 398 (.agg #[.iface 176 (.agg #[])])) (nd {kind:= [110,117,108,108]} .nil):=
 ZmO _ _ _ Jd (fun ss=>by rw[nd,jx,ZWQ ZPl,ZWR (.inr rfl)];rfl) (fun W=>ZGK W)
theorem ZCd(o s:Za)(hs:s.length<=90000):XK (.iface 344 (.agg #[Zv o,Zv s])) (nd {kind:= [99,111,108,117,109,110],Zd:=o,text:=s} .nil):=by
 intro W0 W C M cl m ss nb nn b hI hm;have hj:jx (nd {kind:= [99,111,108,117,109,110],Zd:=o,text:=s} .nil) ss=Xb o s ss:=by
  rw[nd,jx,ZWQ ZSa,ZWQ ZSb,ZWR ZSc]
 have hun:(Xb o s ss).2.ZG=false:=by
  unfold Xb;split
  ·rfl
  ·split<;>rfl
 have ta:=ZLF (.agg #[.string ⟨o.toArray⟩,.string ⟨s.toArray⟩]);have tb:=ZLG (.agg #[.string ⟨o.toArray⟩,.string ⟨s.toArray⟩]);have Zkj:=fun w' hB=>Zof W0 m o s hs ss w' nb nn _ (hI.ck.low.trans (Below.mono hB hI.ck.low.size)) (Yv.below (W:=W) hI.pl hB) hI.gl hI.len;have HLK:=(show Hid _ from Zkj);have HI:=(show Hid _ from hI);have XE:=(show Hid _ from hI.ck.low);clear Zkj hI;unfold Zv;have HPL:Hid (∀w' f1 f2 f3,(Xb o s ss).2.lost=false->Below W.heap.size W w'->QT W0 W C M cl m ss nb b (nd {kind:= [99,111,108,117,109,110],Zd:=o,text:=s} .nil) (.returned (.tuple #[.func f1 f2 f3,.int .i64 (ZI (Xb o s ss).1)])) w'):=fun w' f1 f2 f3 hlo hB=>by
  refine .inr ⟨by rw[hj];exact hlo,f1,f2,f3,by rw[hj],Fr.of_below hB,?_⟩;rw[hj,hun,ZYc];exact(HI.out.below hB).wide (Nat.le_add_right _ _)
 have HBD:Hid (∀e w',(Xb o s ss).2.lost=true->XD W0.heap.size 5 0 W0 e w'->QT W0 W C M cl m ss nb b (nd {kind:= [99,111,108,117,109,110],Zd:=o,text:=s} .nil) e w'):=fun e w' hlo hb=>.inl ⟨by rw[hj];exact hlo,hb⟩;clear hj hun;generalize (nd {kind:= [99,111,108,117,109,110],Zd:=o,text:=s} .nil)=t at *;go_enter func167,ntmps167;go_wp2_with fail;have ZE:Below W.heap.size W (W.alloc (.cells #[.string ⟨o.toArray⟩,.string ⟨s.toArray⟩] 344)):=(ZWT _ W).alloc (ZWS _) _;refine(HLK.out _ ZE).mono ?_;rintro e w2 (⟨hlo,b',rfl,h0,h1,hB3⟩|⟨hlo,l,i,c,s',hat,hsl,rfl,hB3,Zhk⟩)
 ·have HL:=(show Hid _ from hlo);clear hlo;have hBB:=XE.out.trans ((ZE.trans (hB3.mono ZE.size)).mono XE.out.size);go_wp2;exact⟨rfl,HBD.out _ _ HL.out ⟨b',rfl,h0,h1,hBB⟩⟩
 ·have HL:=(show Hid _ from hlo);have hBW:=ZE.trans (hB3.mono ZE.size);have hll:=HI.out.len;have hl2:=(ZXq.1 hsl).1;clear hlo hat hsl;generalize ZI (Xb o s ss).1=ty at *;generalize Zbv s' i+c=ff at *;go_wp2_with fail;go_region_with (go_at_call 214;refine(ZuF _ _ _).mono ?_;rintro e w4 ⟨x1,x2,x3,rfl,hB4⟩;have hc4:w4.cell? ⟨w2.heap.size,1,none⟩=some (.int .i64 ty):=(hB4.cell (p:=⟨w2.heap.size,1,none⟩) ZPm).trans ZPm);all_goals
   go_wp2_with fail;go_ret2;exact HPL.out _ _ _ _ HL.out ((ZW (hBW.alloc hBW.size _) 1).trans (hB4.mono (by have:=hBW.size;simp;omega)))
theorem Yv.ZdN{W0 W:World}:∀{m:Nat} {ss:List Sc} {nb n:Nat} {v:Value},Yv W0 W m ss nb n v->∀s∈ss,∃xs,Xk s xs
 |m, [],nb,n,v,_,s,hs=>by cases hs
 |m,s0::up,nb,n,v,h,s,hs=>by
  obtain⟨b,sv,av,gv,xs,nb',e,ho,h1,h2,h3,hnb,h4,h5⟩:=h;rcases ZW3.1 hs with rfl|hs
  ·exact⟨xs,h2⟩
  ·exact Yv.ZdN h4 s hs
def Er(t:Tr):Prop:=∀ss:List Sc,(∀s∈ss,∃xs,Xk s xs)->J6 (jx t ss).1
def jn(t:Tr)(ss:List Sc):Jr:=(jx t ss).2.or {ZG:= !Xx (jx t ss).1 Xo}
def Zl5(W0 W:World)(C M:Nat)(cl:Bool)(m:Nat)(ss:List Sc)(nb b:Nat)(t:Tr)(e:Ending)(W':World):Prop:=
 ((jn t ss).lost=true/\XD W0.heap.size 5 0 W0 e W')\/((jn t ss).lost=false/\∃f1 f2 f3,e= .returned (.func f1 f2 f3)/\Fr ss nb C W W'/\Z7 W0 W' C M (cl||(jn t ss).ZG) (m+sz t) ss nb W'.heap.size b)
theorem Zog(x:Value)(t:Tr)(hx:XK x t)(hty:Er t)(W0 W:World)(C M:Nat)(cl:Bool)(m:Nat)(ss:List Sc)(nb n b:Nat)(hI:Z7 W0 W C M cl m ss nb n b)(hm:m+sz t<=1000000)(hix:∃n y,x= .iface n y):
  Calls prog 216 #[.pointer (some ⟨C,0,none⟩),x,.pointer (some ⟨b,0,none⟩)] W (Zl5 W0 W C M cl m ss nb b t):=by
 have hcall:=hx W0 W C M cl m ss nb n b hI hm;have hft:=Zhf (hty ss hI.pl.ZdN) (.inl rfl:J6 Xo);have HN:Hid (jn t ss=⟨(jx t ss).2.lost,(jx t ss).2.ZG||QC (ZI (jx t ss).1) 1⟩):=by
  show _=_;unfold jn Jr.or;rw[hft,Zw9,ZYc]
 obtain⟨tn,ty',rfl⟩:=hix;clear hI hft;unfold QT at hcall;generalize jx t ss=R at *;obtain⟨ty,rl,ru⟩:=R;go_enter func216,ntmps216;go_wp2_with fail;refine hcall.mono ?_;rintro e w1 (⟨hlo,b',rfl,h0,h1,hB3⟩|⟨hlo,f1,f2,f3,rfl,hF,hI1⟩)
 ·go_wp2;exact⟨rfl,.inl ⟨by rw[HN.out];exact hlo,b',rfl,h0,h1,hB3⟩⟩
 ·have HI1:=(show Hid _ from hI1);have HF:=(show Hid _ from hF);clear hI1 hF hcall;go_wp2_with fail;refine(ZkC W0 C M _ (ZI ty) 1 w1 HI1.out.ck).mono ?_;rintro e w2 ⟨rfl,hK2,hc2⟩;have HK2:=(show Hid _ from hK2);have HC2:=(show Hid _ from hc2);clear hK2 hc2;go_wp2_with fail;go_ret;refine .inr ⟨by rw[HN.out];exact hlo,f1,f2,f3,rfl,HF.out.trans (Fr.X6 HK2.out HI1.out.ck.is),?_⟩;rw[HN.out];have:=(HI1.out.keep HK2.out HC2.out).wide (ZWS _);simpa[ZXx]using this
theorem Zuy{f:Fl}{k i fr g w h:Tr}{ss:List Sc}(h1:¬f.kind=ZcH)(h2:¬(f.kind=ZaS\/f.kind=Jd))(h3:¬f.kind=ZfI)(h4:¬f.kind∈Yf):jx (.node f k i fr g w h) ss=(Xo,EJ k ss):=by
 rw[jx,ZWQ h1,ZWQ h2,ZWQ h3,ZWQ h4]
theorem ZmP{W0 W W':World}{C M:Nat}{cl:Bool}{m:Nat}{ss:List Sc}{nb b:Nat}{t:Tr}{e:Ending}(hl:(jx t ss).2.lost=true)(hb:XD W0.heap.size 5 0 W0 e W'):QT W0 W C M cl m ss nb b t e W':=.inl ⟨hl,hb⟩
theorem ZCe(l:Value)(x:Tr)(hl:XK l x)(hty:Er x)(hix:∃n y,l= .iface n y):XK (.iface 403 (.agg #[l])) (nd {kind:= [110,101,103]} (l1 x)):=by
 intro W0 W C M cl m ss nb nn b hI hm;have hj:jx (nd {kind:= [110,101,103]} (l1 x)) ss=(Xo,jn x ss):=by
  rw[nd,Zuy ZPl ZPl ZPl ZPl,l1,EJ,EJ,Jr.or_none];rfl
 obtain⟨ln,ly,rfl⟩:=hix;have ta:=ZL2 (.agg #[.iface ln ly]);have tb:=ZL3 (.agg #[.iface ln ly]);have tc:=ZwP (.agg #[.iface ln ly]);have hsz:m+sz x<=1000000:=by simp[nd,l1,sz]at hm;omega
 have ZaK:=fun w' hB=>Zog _ x hl hty W0 w' C M cl m ss nb nn b (hI.below hB) hsz ⟨ln,ly,rfl⟩;have HI:=(show Hid _ from hI);have UU:=(show Hid _ from ZaK);have HJ:=(show Hid _ from hj);have HSZ:Hid (sz x<=sz (nd {kind:= [110,101,103]} (l1 x))):=by show _<=_;simp[nd,l1,sz]
 clear ZaK hI hl hty hj hm hsz;generalize nd {kind:= [110,101,103]} (l1 x)=t at *;go_enter func167,ntmps167;go_wp2_with fail;have ZE:Below W.heap.size W (W.alloc (.cells #[.iface ln ly] 403)):=(ZWT _ W).alloc (ZWS _) _;refine(UU.out _ ZE).mono ?_;rintro e w1 (⟨hlo,b',rfl,h0,h1,hB3⟩|⟨hlo,f1,f2,f3,rfl,hF,hI1⟩)
 ·go_wp2;exact⟨rfl,ZmP (by rw[HJ.out];exact hlo) ⟨b',rfl,h0,h1,hB3⟩⟩
 ·have HI1:=(show Hid _ from hI1);have HF:=(show Hid _ from hF);clear hI1 hF;go_wp2_with fail;refine(ZGC _ _ _ _).mono ?_;rintro e w2 ⟨g1,g2,g3,rfl,hB2⟩;go_wp2_with fail;go_ret2;refine .inr ⟨by rw[HJ.out];exact hlo,g1,g2,g3,by rw[HJ.out];rfl,(Fr.of_below ZE).trans (HF.out.trans (Fr.of_below hB2)),?_⟩;rw[HJ.out];exact(HI1.out.below hB2).wide (by have:=HSZ.out;omega)
theorem ZuH(W:World)(nt:Bool)(a:Fn)(b c:Array Value):Calls prog 168 #[.bool nt,.func a b c] W (KC W):=by
 cases nt with
 |false=>
  go_enter func168,ntmps168;go_wp2;go_ret;exact⟨_,_,_,rfl,ZWT _ _⟩
 |true=>
  go_enter func168,ntmps168;go_wp2_with fail;refine(ZuI _ _ _ _).mono ?_;rintro e w2 ⟨g1,g2,g3,rfl,hB2⟩;go_wp2_with fail;go_ret;exact⟨_,_,_,rfl,hB2⟩
def Qj(W:World)(v:Value)(ks:List Int):Prop:=
 ∃a cap,v= .slice a ks.length cap/\∀i (h:i<ks.length),∃g cu,a=some ⟨g,0,none⟩/\W.heap[g]? =some (.cells cu 246 (0,0))/\W.cell? ⟨g,i,none⟩=some (.int .i64 ks[i])
theorem Qj.same{W W':World}{v:Value}{ks:List Int}(h:Qj W v ks)(hs:∀(g:Nat) (cu:Array Value),W.heap[g]? =some (.cells cu 246 (0,0))->W'.heap[g]? =some (.cells cu 246 (0,0))):Qj W' v ks:=by
 exact ZVJ
def En(W0 W:World)(C M:Nat)(cl:Bool)(m:Nat)(ss:List Sc)(nb b:Nat)(r:Jr)(k:Nat)(e:Ending)(W':World):Prop:=
 (r.lost=true/\XD W0.heap.size 5 0 W0 e W')\/(r.lost=false/\∃f1 f2 f3,e= .returned (.func f1 f2 f3)/\Fr ss nb C W W'/\Z7 W0 W' C M (cl||r.ZG) (m+k) ss nb W'.heap.size b)
theorem ZGe(l r:Value)(x y:Tr)(s:Za)(hl:XK l x)(hr:XK r y)(htx:Er x)(hty:Er y)(hil:∃n y,l= .iface n y)(hir:∃n y,r= .iface n y)(W0 W:World)(C M:Nat)(cl:Bool)(m:Nat)(ss:List Sc)(nb n b:Nat)(hI:Z7 W0 W C M cl m ss nb n b)(hm:m+sz x+sz y<=1000000):
  Calls prog 166 #[.pointer (some ⟨C,0,none⟩),.agg #[l,Zv s,r],.pointer (some ⟨b,0,none⟩)] W (En W0 W C M cl m ss nb b (((jx x ss).2.or (jx y ss).2).or {ZG:= !Xx (jx x ss).1 (jx y ss).1}) (sz x+sz y)):=by
 obtain⟨ln,ly,rfl⟩:=hil;obtain⟨rn,ry,rfl⟩:=hir;have hft:=Zhf (htx ss hI.pl.ZdN) (hty ss hI.pl.ZdN);have Qz:Hid (∀w',Below W.heap.size W w'->Calls prog 167 #[.pointer (some ⟨C,0,none⟩),.iface ln ly,.pointer (some ⟨b,0,none⟩)] w' (QT W0 w' C M cl m ss nb b x)):=fun w' hB=>hl W0 w' C M cl m ss nb n b (hI.below hB) U;have XX:Hid (∀w' cl' n',Z7 W0 w' C M cl' (m+sz x) ss nb n' b->Calls prog 167 #[.pointer (some ⟨C,0,none⟩),.iface rn ry,.pointer (some ⟨b,0,none⟩)] w' (QT W0 w' C M cl' (m+sz x) ss nb b y)):=fun w' cl' n' hI'=>hr W0 w' C M cl' (m+sz x) ss nb n' b hI' U;have HFT:=(show Hid _ from hft);unfold QT at Qz XX;clear hft hl hr htx hty hI hm;generalize jx x ss=RX at *;generalize jx y ss=RY at *;obtain⟨tx,rx,ux⟩:=RX;obtain⟨ty,ry',uy⟩:=RY;unfold Zv;go_enter func166,ntmps166;go_wp2_with fail;generalize Yb:W.alloc (.cells #[.iface ln ly,.string ⟨s.toArray⟩,.iface rn ry] 322)=Wp;have ZE:Below W.heap.size W Wp:=by rw[<-Yb];exact(ZWT _ W).alloc (ZWS _) _
 have Zn:Wp.heap[W.heap.size]? =some (.cells #[.iface ln ly,.string ⟨s.toArray⟩,.iface rn ry] 322 (0,0)):=by rw[<-Yb];exact ZWV W _
 clear Yb;refine(Qz.out _ ZE).mono ?_;rintro e w1 (⟨hlo1,b',rfl,h0,h1,hB3⟩|⟨hlo1,f1,f2,f3,rfl,hF1,hI1⟩)
 ·exact ZUo
 ·have ho1:=hF1.fx.obj Zn ZPl;obtain⟨c0,c1,c2,_⟩:=YW ho1;have HI1:=(show Hid _ from hI1);have HF1:=(show Hid _ from hF1);clear hI1 hF1;obtain rfl:rx=false:=hlo1;skip;go_wp2_with fail;refine(XX.out _ _ _ HI1.out).mono ?_;rintro e w2 (⟨hlo2,b',rfl,h0,h1,hB3⟩|⟨hlo2,g1,g2,g3,rfl,hF2,hI2⟩)
  ·exact ZUp
  ·have ho2:=hF2.fx.obj ho1 ZPl;have HI2:=(show Hid _ from hI2);have HF2:=(show Hid _ from hF2);obtain rfl:ry'=false:=hlo2;skip;clear hI2 hF2 c0 c1 c2;go_wp2_with fail;refine(ZkC W0 C M _ (ZI tx) (ZI ty) w2 HI2.out.ck).mono ?_;rintro e w3 ⟨rfl,hK3,hc3⟩;have HK3:=(show Hid _ from hK3);have HC3:=(show Hid _ from hc3);have Zna:Fr ss nb C w2 w3:=Fr.X6 hK3 HI2.out.ck.is;have ho3:=Zna.fx.obj ho2 ZPl;obtain⟨c0,c1,c2,_⟩:=YW ho3;have ZxO:=(show Hid _ from Zna);clear hK3 hc3 Zna;go_wp2_with fail;refine(ZGf _ s _ _ _ _ _ _).mono ?_;rintro e w4 ⟨k1,k2,k3,rfl,hB4⟩;go_wp2_with fail;go_ret;refine .inr ⟨rfl,k1,k2,k3,rfl,(Fr.of_below ZE).trans (HF1.out.trans (HF2.out.trans (ZxO.out.trans (Fr.of_below hB4)))),?_⟩;have:=((HI2.out.keep HK3.out HC3.out).below hB4).wide (m':=m+(sz x+sz y)) U;rw[<-HFT.out]at this;simpa[Jr.or,ZXx]using this
def Jn(W0 W:World)(C M:Nat)(cl:Bool)(r:List Za×Jr)(e:Ending)(W':World):Prop:=
 (r.2.lost=true/\XD W0.heap.size 5 0 W0 e W')\/(r.2.lost=false/\∃n y tv,e= .returned (.tuple #[.iface n y,tv])/\Zb C W W'/\Y3 W0 C M (cl||r.2.ZG) W'/\∃Zq:List Int,Qj W' tv Zq/\Zq.length<=100000/\((cl||r.2.ZG)=false->Zq=r.1.map ZI))
structure J4 (W0:World) (M:Nat) (db:List Tb):Prop where
 tabs:∃B names tl,E8 B W0 M names tl/\names.Nodup/\(∀n∈names,n≠ [])/\(∀x∈tl,Zc1 x.2)/\db=tl.map fun x=>⟨x.1,x.2.map (·.1),x.2.map fun c=>Jw c.2⟩
def KL(W0:World)(x:Value)(t:Tr):Prop:=∀(W:World) (C M:Nat) (db:List Tb) (cl:Bool) (m:Nat) (ss:List Sc) (nb n:Nat) (v:Value),J4 W0 M db->Y3 W0 C M cl W->Yv W0 W m ss nb n v->W0.heap.size<=nb->n<=W.heap.size->(∀s∈ss,s.groups.length<=400)->ss.length+sz t<=1000000->m+sz t<=1000000->
 Calls prog 62 #[.pointer (some ⟨C,0,none⟩),x,v] W (Jn W0 W C M cl (jq db t ss))
end Go.Proofs.YthmlacabmlghbaaGreatDoor
