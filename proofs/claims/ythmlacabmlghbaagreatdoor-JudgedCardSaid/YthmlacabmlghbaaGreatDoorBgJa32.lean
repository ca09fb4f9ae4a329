import Derived.Test.YthmlacabmlghbaaGreatDoorBgJa31
set_option maxRecDepth 100000
set_option maxHeartbeats 8000000
set_option linter.unusedSimpArgs false
set_option linter.unusedVariables false
namespace Go.Proofs.YthmlacabmlghbaaGreatDoor
open Go.Proofs.Tryz
open Go.RowKit
theorem Zhj:∀(l:List Tr) (ss:List Sc) (gs:List Za),(YO l ss gs true).2=true
 | [],_,_=>rfl
 | .nil::r,ss,gs=>Zhj r ss gs
 | .cons _ _::r,ss,gs=>Zhj r ss gs
 | .node f _ _ _ _ _ _::r,ss,gs=>by
  rw[YO];split
  ·exact Zhj r ss _
  ·exact Zhj r ss _
theorem ZCV{p:Za×Za}{r:List Tr}{ss:List Sc}{gs:List Za}{lost:Bool}{i c:Nat}(h:Ye p.1 p.2 ss=some (0,i,c)):YO (Ev p::r) ss gs lost=YO r ss (gs++ [QP i c]) lost:=by
 unfold Ev nd;rw[YO];simp only;rw[h];rfl
theorem ZCU{p:Za×Za}{r:List Tr}{ss:List Sc}{gs:List Za}{lost:Bool}(h:∀i c,Ye p.1 p.2 ss≠some (0,i,c)):YO (Ev p::r) ss gs lost=YO r ss gs true:=by
 unfold Ev nd;rw[YO];split
 ·rename_i i c e;exact absurd e (h i c)
 ·rfl
structure Zaw (s:Sc) (up:List Sc) (xs:List XS) (ps:List (Za×Za)) (R:List Za×Bool) (k:Nat) (cs:List (Nat×Nat)):Prop where
 len:cs.length=k
 run:YO ((ps.drop k).map Ev) (s::up) (cs.map fun p=>QP p.1 p.2) false=R
 ok:∀p∈cs,∃x,xs[p.1]? =some x/\p.2<x.Ze.length
theorem Zsa{ps:List (Za×Za)}{k:Nat}(h:k<ps.length):(ps.drop k).map Ev=Ev ps[k]::(ps.drop (k+1)).map Ev:=by
 rw[ZXl h,ZWZ]
theorem Zaw.start{s:Sc}{up:List Sc}{xs:List XS}{ps:List (Za×Za)}{tg:Tr}(he:elems tg=ps.map Ev):Zaw s up xs ps (YO (elems tg) (s::up) [] false) 0 []:=
 ⟨rfl,by rw[he];rfl,fun p h=>ZPs⟩
theorem Zaw.lost{s:Sc}{up:List Sc}{xs:List XS}{ps:List (Za×Za)}{R:List Za×Bool}{k:Nat}{cs:List (Nat×Nat)}(h:Zaw s up xs ps R k cs)(hk:k<ps.length)(hp:s.phase≠YV)(hl:(Xb ps[k].1 ps[k].2 [s]).2.lost=true):R.2=true:=by
 have hno:∀i c,Ye ps[k].1 ps[k].2 (s::up)≠some (0,i,c):=by
  rcases Zra (Zd:=ps[k].1) (text:=ps[k].2) (s:=s) (up:=up)with⟨i,c,e1,_⟩|⟨_,e2⟩
  ·exfalso;unfold Xb at hl;rw[e1]at hl;simp[hp]at hl
  ·exact e2
 have e:=h.run;rw[Zsa hk,ZCU hno]at e;rw[<-e];exact Zhj _ _ _
theorem Zaw.next{s:Sc}{up:List Sc}{xs:List XS}{ps:List (Za×Za)}{R:List Za×Bool}{k:Nat}{cs:List (Nat×Nat)}(h:Zaw s up xs ps R k cs)(hs:Xk s xs)(hk:k<ps.length){l i c:Nat}{s':Sc}(ha:Ye ps[k].1 ps[k].2 [s]=some (l,i,c))(hs': [s][l]? =some s'):s'=s/\l=0/\Zaw s up xs ps R (k+1) (cs++ [(i,c)])/\Zbv s i=ZR xs i:=by
 have hl:l=0:=by
  have:=(ZXq.1 hs').1;simp at this;exact this
 subst hl;have hss:s'=s:=by simpa using hs'.symm
 have hup:Ye ps[k].1 ps[k].2 (s::up)=some (0,i,c):=by
  rcases Zra (Zd:=ps[k].1) (text:=ps[k].2) (s:=s) (up:=up)with⟨i',c',e1,e2⟩|⟨e1,_⟩
  ·rw[ha]at e1;rw[e2,<-e1]
  ·rw[ha]at e1;cases e1
 obtain⟨s2,t,e1,e2,e3⟩:=Zfj ha;have es:s=s2:=by simpa using e1
 subst es;have hi:=(ZXq.1 e2).1;have hix:i<xs.length:=by rw[<-hs.len];exact hi
 have hx:=ZW1 (l:=xs) hix;have hcc:=(hs.tabs i t _ e2 hx).1;rw[hcc,ZW5]at e3;refine⟨hss,rfl,⟨by rw[ZW9,h.len];rfl,?_,fun p hp=>?_⟩,(hs.first i).symm⟩
 ·have e:=h.run;rw[Zsa hk,ZCV hup]at e;rw[<-e,ZWY];rfl
 ·rcases ZXt.1 hp with h1|h1
  ·exact h.ok p h1
  ·rw[ZXh.1 h1];exact⟨_,hx,e3⟩
theorem Zaw.done{s:Sc}{up:List Sc}{xs:List XS}{ps:List (Za×Za)}{R:List Za×Bool}{cs:List (Nat×Nat)}(h:Zaw s up xs ps R ps.length cs):R.2=false/\R.1=cs.map (fun p=>QP p.1 p.2):=by
 have e:=h.run;rw[ZYd]at e;rw[<-e];exact⟨rfl,rfl⟩
theorem ZIo{W:World}{B:Nat}{v:Value}{ks:List Nat}(h:W.ownsRow B 3 1 v ks.length (ks.map fun(k:Nat)=>Value.int .i64 (k:Int))):KJ W v ks:=by
 have hc:=fun g=>h.cells (g:=g);rcases h.2 with⟨rfl,h0⟩|⟨g,cap,cu,rfl,_,hh,_⟩
 ·exact ZT2
 ·refine⟨some ⟨g,0,none⟩,cap,rfl,fun i hi=>?_⟩;have hg:∀j u,(ks.map fun(k:Nat)=>Value.int .i64 (k:Int))[j]? =some u->W.cell? ⟨g,j,none⟩=some u:=fun j u hj=>by have:=hc g rfl j u hj;rw[ZXE]at this;simpa using this
  exact⟨g,cu,rfl,hh,hg i _ ZSm⟩
theorem Tryz.ZEG:(prog.info? 3).map (fun i=>(i.zero,i.size,i.bytes))=some (some (.int .i64 0),1,8):=by kernel_rfl
def Zqy(W0 W:World)(xs:List XS)(R:List Za×Bool)(e:Ending)(W':World):Prop:=
 (R.2=true/\XD W0.heap.size 5 0 W0 e W')\/(R.2=false/\∃(lv:Value) (cs:List (Nat×Nat)),e= .returned lv/\Below W.heap.size W W'/\KJ W' lv (cs.map fun p=>ZR xs p.1+p.2)/\R.1=cs.map (fun p=>QP p.1 p.2)/\∀p∈cs,∃x,xs[p.1]? =some x/\p.2<x.Ze.length)
theorem ZGv(W0 W:World)(b:Nat)(sa:Option Addr)(sn sc:Nat)(av gv:Value)(s:Sc)(up:List Sc)(xs:List XS)(ps:List (Za×Za))(tg:Tr)(la:Option Addr)(cap:Nat)(hB0:Below W0.heap.size W0 W)(ho:W.heap[b]? =some (.cells #[.slice sa sn sc,av,gv] 256 (0,0)))(hsv:U0 W (.slice sa sn sc) xs)(hs:Xk s xs)(ht:∀x∈xs,∃B,Qi B W0 x.T x.Ze)(Yy:s.phase≠YV)(hgr:s.groups= [])(he:elems tg=ps.map Ev)(hps:ps.length<=400)(hpl:∀p∈ps,p.2.length<=1000)
  (hcells:∀i (h:i<ps.length),∃g,la=some ⟨g,0,none⟩/\W0.cell? ⟨g,i*2,none⟩=some (.string ⟨ps[i].1.toArray⟩)/\W0.cell? ⟨g,i*2+1,none⟩=some (.string ⟨ps[i].2.toArray⟩)):
  Calls prog 123 #[.pointer (some ⟨b,0,none⟩),.slice la ps.length cap] W (Zqy W0 W xs (YO (elems tg) (s::up) [] false)):=by
 have HST:=(show Hid _ from Zaw.start (s:=s) (up:=up) (xs:=xs) he);generalize YO (elems tg) (s::up) [] false=R at *;obtain⟨c0,c1,c2,_⟩:=YW ho;have hbl:=(ZWU.1 ho).1;have HLK:Hid (∀(w':World) (ob:Nat) (Zd text:Za),Below W.heap.size W w'->w'.heap[ob]? =some (.cells #[.slice sa sn sc,.pointer none,.pointer none] 256 (0,0))->text.length<=90000->Calls prog 172 #[.pointer (some ⟨ob,0,none⟩),.agg #[.string ⟨Zd.toArray⟩,.string ⟨text.toArray⟩]] w' (Zda w' [s] Zd text)):=fun w' ob Zd text hB Zn htl=>
  Zof W0 0 Zd text htl [s] w' 0 0 _ (hB0.trans (hB.mono hB0.size)) ⟨ob,_,_,_,xs,0,rfl,Zn,hsv.same (fun g cu e=>(hB.block g (ZWU.1 e).1).trans e),hs,ht,ZWS _,rfl,.inl ⟨Yy,rfl⟩⟩ (fun s' hs'=>by rw[ZXh.1 hs',hgr];exact ZW8 _) ZPm
 have HPL:=(show Hid _ from hpl);have HS:=(show Hid _ from hs);have Jl:=(show Hid _ from Yy);have XE:=(show Hid _ from hB0);have HCE:=(show Hid _ from hcells);clear hpl hB0 hcells he hsv hs ht Yy hgr;obtain⟨i0,hi,hz0,hz1,hz2⟩:=ZXd Tryz.ZEG;go_enter func123,ntmps123;go_wp2_with fail;generalize Yb:W.alloc (.cells #[.slice sa sn sc,.pointer none,.pointer none] 256)=Wp;have ZE:Below W.heap.size W Wp:=by rw[<-Yb];exact(ZWT _ W).alloc (ZWS _) _
 have hsp:Wp.heap.size=W.heap.size+1:=by rw[<-Yb];simp
 have hnp:Wp.heap[W.heap.size]? =some (.cells #[.slice sa sn sc,.pointer none,.pointer none] 256 (0,0)):=by rw[<-Yb];exact ZWV W _
 clear Yb c0 c1 c2;go_loopg [6,19] (ps.length+1) (fun gk kv iv wr=>∃(k:Nat) (cs:List (Nat×Nat)),k<=ps.length/\gk=ps.length-k+1/\iv= .int .i64 k/\wr.ownsRow Wp.heap.size 3 1 kv k ((cs.map fun p=>ZR xs p.1+p.2).map fun(j:Nat)=>Value.int .i64 (j:Int))/\Below Wp.heap.size Wp wr/\Hid (Zaw s up xs ps R k cs));case atStart=>exact⟨0, [],U,U,rfl,ZXp _ _ _ _,ZWT _ _,HST⟩
 case round=>
  obtain⟨k,cs,hk,rfl,rfl,hown,hB,hin⟩:=hrel;have Jy:=(show Hid _ from hin.out);clear hin;have hBW:=ZE.trans (hB.mono ZE.size);by_cases hlt:k<ps.length
  ·have hki:(k:Int)<(ps.length:Int):=by omega
   obtain⟨g,rfl,q0,q1⟩:=HCE.out k hlt;have hgl:g<W0.heap.size:=ZWW W0 _ q0;have hB0:=XE.out.trans (hBW.mono XE.out.size);have r0:=(hB0.cell (p:=⟨g,k*2,none⟩) hgl).trans q0;have r1:=(hB0.cell (p:=⟨g,k*2+1,none⟩) hgl).trans q1;have hp2:=HPL.out ps[k] (ZWX hlt);generalize hpk:ps[k]=p at *;have HPK:=(show Hid _ from hpk);clear hpk q0 q1;obtain⟨p1,p2⟩:=p;simp only at *;go_wp2_with fail;have Qm:Below wr.heap.size wr (wr.alloc (.cells #[.string ⟨p1.toArray⟩,.string ⟨p2.toArray⟩] 344)):=(ZWT _ wr).alloc (ZWS _) _;have ZsE:=hBW.trans (Qm.mono hBW.size);have Zm1:=hB.trans (Qm.mono hB.size);have ZbF:=EC hown Qm;have ZD8:=(Zm1.block W.heap.size U).trans hnp;generalize wr.alloc (.cells #[.string ⟨p1.toArray⟩,.string ⟨p2.toArray⟩] 344)=wA at *;refine(HLK.out _ W.heap.size p1 p2 ZsE ZD8 U).mono ?_;rintro e w2 (⟨hlo,b',rfl,h0,h1,hB3⟩|⟨hlo,l,i,c,s',hat,hsl,rfl,hB3,Zhk⟩)
   ·have HR:Hid (R.2=true):=Jy.out.lost hlt Jl.out (by rw[HPK.out];exact hlo);have Zfo:=XE.out.trans (ZsE.mono XE.out.size);clear hlo;go_wp2;exact⟨rfl,.inl ⟨HR.out,b',rfl,h0,h1,Zfo.trans (hB3.mono Zfo.size)⟩⟩
   ·obtain⟨hss,hl0,hnx,hfs⟩:=Jy.out.next HS.out hlt (by rw[HPK.out];exact hat) hsl;subst hss;subst hl0;have Yq:=(show Hid _ from hnx);rw[hfs]at Zhk;rw[hfs];clear hlo hat hsl hnx hfs;have ZsC:=Zm1.trans (hB3.mono Zm1.size);have hs2:=ZsC.size;have hown2:=EC ZbF hB3;obtain⟨ua,uc,rfl⟩:=U6 hown2;generalize hff:ZR xs i+c=ff at *;have HFF:=(show Hid _ from hff);clear hff;generalize ZI (Xb p1 p2 [s']).1=ty at *;go_wp2_with (at_builtin;go_must (refine ZXg _ rfl _ _ 33 rfl Wp.heap.size 3 i0 (.int .i64 0) 1 8 underlying33 hi hz0 hz1 hz2 rfl ZPl (.slice ua k uc) k ((cs.map fun p=>ZR xs p.1+p.2).map fun(j:Nat)=>Value.int .i64 (j:Int)) rfl ((hown2.alloc _).alloc _) ⟨w2.heap.size+1,0,none⟩ 1 1 [.int .i64 (ff:Int)] rfl rfl (by have hq:=ZXm (w2.alloc (.cells #[.int .i64 (ff:Int),.int .i64 ty] 346)) (.int .i64 (ff:Int)) 3;rw[World.size_alloc]at hq;exact hq) ZPA ZPq U ZPo ?_);intro v' w6 hown' hgrow _);go_roundg (ps.length-(k+1)+1);case measure=>omega
    case rel=>
     have hb6:=XM (ZsC.alloc hs2 _) ZPo (hown2.alloc _) hgrow;exact⟨k+1,cs++ [(i,c)],U,rfl,ZPp,by rw[ZWY,ZWY];simp only[ZWZ,ZW2,HFF.out];exact hown',hb6,Yq⟩
  ·obtain rfl:k=ps.length:=by omega
   have hcl:=Jy.out.len;have UR:Hid (KJ wr u6 (cs.map fun p=>ZR xs p.1+p.2)):=ZIo (by rw[ZW5,hcl];exact hown);clear hown hcl;go_wp2_with fail;go_ret;obtain⟨d1,d2⟩:=Jy.out.done;exact .inr ⟨d1,_,cs,rfl,hBW,UR.out,d2,Jy.out.ok⟩
theorem Tryz.Zn9:(prog.info? 246).map (fun i=>(i.zero,i.size,i.bytes))=some (some (.int .i64 0),1,8):=by kernel_rfl
theorem Tryz.Zn8:(prog.info? 327).map (fun i=>(i.zero,i.size,i.bytes))=some (some .nilFunc,1,8):=by kernel_rfl
theorem Zvq{w:World}{B1 B2 e1 e2 s1 s2 n1 n2:Nat}{v1 v2:Value}{x1 x2:List Value}(h1:w.ownsRow B1 e1 s1 v1 n1 x1)(h2:w.ownsRow B2 e2 s2 v2 n2 x2)(he:e1≠e2):∀g,v1.ownBlock=some g->some g≠v2.ownBlock:=by
 intro g hg e;rcases h1.2 with⟨rfl,_⟩|⟨g1,c1,u1,rfl,_,Uu,_⟩
 ·cases hg
 ·rcases h2.2 with⟨rfl,_⟩|⟨g2,c2,u2,rfl,_,hh2,_⟩
  ·cases e
  ·cases hg;cases e;rw[Uu]at hh2;cases hh2;exact he rfl
structure RX (B:Nat) (w w':World):Prop where
 os:w'.os=w.os
 tape:w'.tape=w.tape
 output:w'.output=w.output
 size:w.heap.size<=w'.heap.size
 low:∀g,g<B->g<w.heap.size->w'.heap[g]? =w.heap[g]?
 keep:∀(g:Nat) (cu:Array Value) (ty:TypeId) (fr:Nat×Nat),w.heap[g]? =some (.cells cu ty fr)->ty≠327->ty≠246->w'.heap[g]? =some (.cells cu ty fr)
theorem RX.refl(B:Nat)(w:World):RX B w w:=⟨rfl,rfl,rfl,ZWS _,fun _ _ _=>rfl,fun _ _ _ _ h _ _=>h⟩
theorem RX.trans{B:Nat}{a b c:World}(h:RX B a b)(k:RX B b c):RX B a c:=
 ⟨k.os.trans h.os,k.tape.trans h.tape,k.output.trans h.output,ZW0 h.size k.size,fun g h1 h2=>(k.low g h1 (ZXi h2 h.size)).trans (h.low g h1 h2),fun g cu ty fr e h1 h2=>k.keep g cu ty fr (h.keep g cu ty fr e h1 h2) h1 h2⟩
theorem RX.of_below{B:Nat}{a b:World}(h:Below a.heap.size a b):RX B a b:=
 ⟨h.os,h.tape,h.output,h.size,fun g _ hl=>h.block g hl,fun g cu ty fr e _ _=>(h.block g (ZWU.1 e).1).trans e⟩
theorem RX.grow{B ty sz n:Nat}{a b:World}{v:Value}{xs:List Value}(hown:a.ownsRow B ty sz v n xs)(hty:ty=327\/ty=246)(hg:a.grownBy b v.ownBlock):RX B a b:=by
 refine⟨hg.os,hg.tape,hg.output,hg.size,fun g h1 h2=>hg.block g h2 fun e=>?_,fun g cu t fr e h1 h2=>(hg.block g (ZWU.1 e).1 fun e2=>?_).trans e⟩
 ·have:=(hown.lt g e.symm).1;omega
 ·rcases hown.2 with⟨e3,_⟩|⟨g1,c1,u1,e3,_,Uu,_⟩
  ·rw[e3]at e2;cases e2
  ·rw[e3]at e2;cases e2;rw[e]at Uu;cases Uu;rcases hty with h|h
   ·exact h1 h
   ·exact h2 h
theorem RX.below{B:Nat}{W a b:World}(h0:Below B W a)(hB:B<=W.heap.size)(h:RX B a b):Below B W b:=
 ⟨h.os.trans h0.os,h.tape.trans h0.tape,h.output.trans h0.output,ZW0 h0.size h.size,fun g hg=>(h.low g hg (by have:=h0.size;omega)).trans (h0.block g hg)⟩
def Two(B:Nat)(wb:World)(ev tv:Value)(ne:Nat)(Zq:List Int)(w:World):Prop:=
 (∃ys,w.ownsRow B 327 1 ev ne ys)/\w.ownsRow B 246 1 tv Zq.length (Zq.map fun j=>Value.int .i64 j)/\RX B wb w/\B<=w.heap.size
theorem Two.start{B:Nat}{wb:World}(hB:B<=wb.heap.size):Two B wb (.slice none 0 0) (.slice none 0 0) 0 [] wb:=⟨⟨[],ZXp _ _ _ _⟩,ZXp _ _ _ _,RX.refl _ _,hB⟩
theorem Two.below{B:Nat}{wb:World}{ev tv:Value}{ne:Nat}{Zq:List Int}{w w':World}(h:Two B wb ev tv ne Zq w)(hB:Below w.heap.size w w'):Two B wb ev tv ne Zq w':=by
 obtain⟨⟨ys,h1⟩,h2,h3,h4⟩:=h;exact⟨⟨ys,EC h1 hB⟩,EC h2 hB,h3.trans (RX.of_below hB),ZW0 h4 hB.size⟩
theorem Two.alloc{B:Nat}{wb:World}{ev tv:Value}{ne:Nat}{Zq:List Int}{w:World}(h:Two B wb ev tv ne Zq w)(o:Obj):Two B wb ev tv ne Zq (w.alloc o):=h.below ((ZWT _ w).alloc (ZWS _) _)
theorem Two.drew{B:Nat}{wb:World}{ev tv:Value}{ne:Nat}{Zq:List Int}{w:World}(h:Two B wb ev tv ne Zq w):Two B wb ev tv ne Zq w.drew:=h.below (ZW (ZWT _ w) 1)
theorem Two.drewN{B:Nat}{wb:World}{ev tv:Value}{ne:Nat}{Zq:List Int}{w:World}(h:Two B wb ev tv ne Zq w)(k:Nat):Two B wb ev tv ne Zq (w.drewN k):=h.below (ZW (ZWT _ w) k)
theorem Two.Zsw{B:Nat}{wb:World}{ev tv ev':Value}{ne:Nat}{Zq:List Int}{w w':World}{ys':List Value}(h:Two B wb ev tv ne Zq w)(hg:w.grownBy w' ev.ownBlock)(ho:w'.ownsRow B 327 1 ev' (ne+1) ys'):Two B wb ev' tv (ne+1) Zq w':=by
 obtain⟨⟨ys,h1⟩,h2,h3,h4⟩:=h;exact⟨⟨ys',ho⟩,Zfn h2 hg (Zvq h2 h1 ZPl),h3.trans (RX.grow h1 (.inl rfl) hg),ZW0 h4 hg.size⟩
theorem Two.Zsx{B:Nat}{wb:World}{ev tv tv':Value}{ne:Nat}{Zq:List Int}{ty:Int}{w w':World}(h:Two B wb ev tv ne Zq w)(hg:w.grownBy w' tv.ownBlock)(ho:w'.ownsRow B 246 1 tv' (Zq.length+1) ((Zq.map fun j=>Value.int .i64 j)++ [.int .i64 ty])):Two B wb ev tv' ne (Zq++ [ty]) w':=by
 obtain⟨⟨ys,h1⟩,h2,h3,h4⟩:=h;exact⟨⟨ys,Zfn h1 hg (Zvq h1 h2 ZPl)⟩,by rw[ZW9,ZWY];exact ho,h3.trans (RX.grow h2 (.inr rfl) hg),ZW0 h4 hg.size⟩
theorem Two.rx{B:Nat}{wb:World}{ev tv:Value}{ne:Nat}{Zq:List Int}{w:World}(h:Two B wb ev tv ne Zq w):RX B wb w:=h.2.2.1
theorem Two.base{B:Nat}{w0 wb:World}{ev tv:Value}{ne:Nat}{Zq:List Int}{w:World}(h:Two B wb ev tv ne Zq w)(h0:RX B w0 wb):Two B w0 ev tv ne Zq w:=⟨h.1,h.2.1,h0.trans h.2.2.1,h.2.2.2⟩
theorem Two.self{B:Nat}{wb:World}{ev tv:Value}{ne:Nat}{Zq:List Int}{w:World}(h:Two B wb ev tv ne Zq w):Two B w ev tv ne Zq w:=⟨h.1,h.2.1,RX.refl _ _,h.2.2.2⟩
theorem Two.slices{B:Nat}{wb:World}{ev tv:Value}{ne:Nat}{Zq:List Int}{w:World}(h:Two B wb ev tv ne Zq w):(∃ea ec,ev= .slice ea ne ec)/\∃ta tc,tv= .slice ta Zq.length tc:=by
 obtain⟨⟨ys,h1⟩,h2,_,_⟩:=h;exact⟨U6 h1,U6 h2⟩
theorem Zli{ops:Array Oper}{o:Oper}{a:Act}{K:Act->World->Prop}{Q:Exit->Act->World->Prop}{E:Prop}{w:World}(hgd:o.guard=none)(s x:Operand)(ho:o.op= .call {callee:=.builtin .append,args:=#[s,x],argTypes:=#[264,264]})
  (B:Nat)(wb:World)(ev tv:Value)(ne:Nat)(Zq:List Int)(XQ:Two B wb ev tv ne Zq w)(hs:a.eval s=ev)(ad:Addr)(f1:Fn)(f2 f3:Array Value)(hx:a.eval x= .slice (some ad) 1 1)(hc:w.cell? (ad.add 0)=some (.func f1 f2 f3))(hne:ne<=1000000)
  (h:∀g cap w',Two B wb (.slice (some ⟨g,0,none⟩) (ne+1) cap) tv (ne+1) Zq w'->(∀(b:Nat) (cu:Array Value) (ty:TypeId) (fr:Nat×Nat),w.heap[b]? =some (.cells cu ty fr)->ty≠327->w'.heap[b]? =some (.cells cu ty fr))->K (a.put o.dst (.slice (some ⟨g,0,none⟩) (ne+1) cap)) w'):if Region.wanted o (yielded ops a.tmps)=true then Oper.wp prog o a w K Q else E:=by
 obtain⟨j0,hj,hy0,hy1,hy2⟩:=ZXd Tryz.Zn8;obtain⟨⟨ys,h1⟩,h2,h3,h4⟩:=id XQ;refine ZX9 _ hgd s x 264 ho B 327 j0 .nilFunc 1 8 underlying264 hj hy0 hy1 hy2 rfl ZPl ev ne ys hs h1 ad 1 1 [.func f1 f2 f3] hx rfl (fun j u hj=>?_) ZPA U ZPq U h4 _ rfl ?_
 ·rcases j with _|j
  ·exact ZWF
  ·simp at hj
 ·intro g cap w' hown hgrow _ _;refine h g cap w' (XQ.Zsw hgrow hown) fun b cu ty fr e hty=>(hgrow.block b (ZWU.1 e).1 fun e2=>?_).trans e;rcases h1.2 with⟨e3,_⟩|⟨g1,c1,u1,e3,_,Uu,_⟩
  ·rw[e3]at e2;cases e2
  ·rw[e3]at e2;cases e2;rw[e]at Uu;cases Uu;exact hty rfl
theorem Zlj{ops:Array Oper}{o:Oper}{a:Act}{K:Act->World->Prop}{Q:Exit->Act->World->Prop}{E:Prop}{w:World}(hgd:o.guard=none)(s x:Operand)(ho:o.op= .call {callee:=.builtin .append,args:=#[s,x],argTypes:=#[162,162]})
  (B:Nat)(wb:World)(ev tv:Value)(ne:Nat)(Zq:List Int)(XQ:Two B wb ev tv ne Zq w)(hs:a.eval s=tv)(ad:Addr)(ty:Int)(hx:a.eval x= .slice (some ad) 1 1)(hc:w.cell? (ad.add 0)=some (.int .i64 ty))(hne:Zq.length<=1000000)
  (h:∀g cap w',Two B wb ev (.slice (some ⟨g,0,none⟩) (Zq.length+1) cap) ne (Zq++ [ty]) w'->K (a.put o.dst (.slice (some ⟨g,0,none⟩) (Zq.length+1) cap)) w'):if Region.wanted o (yielded ops a.tmps)=true then Oper.wp prog o a w K Q else E:=by
 obtain⟨j0,hj,hy0,hy1,hy2⟩:=ZXd Tryz.Zn9;obtain⟨⟨ys,h1⟩,h2,h3,h4⟩:=id XQ;refine ZX9 _ hgd s x 162 ho B 246 j0 (.int .i64 0) 1 8 underlying162 hj hy0 hy1 hy2 rfl ZPl tv Zq.length (Zq.map fun j=>Value.int .i64 j) hs h2 ad 1 1 [.int .i64 ty] hx rfl (fun j u hj=>?_) ZPA U ZPq U h4 _ rfl ?_
 ·rcases j with _|j
  ·exact ZWF
  ·simp at hj
 ·exact ZVi
end Go.Proofs.YthmlacabmlghbaaGreatDoor
