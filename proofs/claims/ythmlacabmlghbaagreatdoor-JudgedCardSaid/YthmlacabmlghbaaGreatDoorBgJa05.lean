import Derived.Deep.LoopGhost
import Derived.LaidEqlPtr
import Derived.Test.YthmlacabmlghbaaGreatDoorBgJa04
set_option maxRecDepth 100000
set_option maxHeartbeats 8000000
set_option linter.unusedSimpArgs false
set_option linter.unusedVariables false
namespace Go.Proofs.YthmlacabmlghbaaGreatDoor
open Go.Proofs.Tryz
theorem ZXf:type_of% @Go.RowKit.Below.heap_setCell:=@Go.RowKit.Below.heap_setCell
theorem ZXb:type_of% @Go.World.cell?_of_block:=@Go.World.cell?_of_block
theorem ZWV:type_of% @Go.heap_alloc_new:=@Go.heap_alloc_new
theorem ZSz{p:Prop}(h:p:=by clear cw h;go_enter func106,ntmps106;go_wp2;go_ret;exact⟨Xw HB.out.symm,rfl⟩):p:=h
theorem ZSA{p:Prop}(h:p:=by clear cw h;go_enter func146,ntmps146;go_wp2;go_ret;exact⟨Xw HB.out.symm,rfl⟩):p:=h
theorem ZSB{p:Prop}(h:p:=by clear cw h;go_enter func147,ntmps147;go_wp2;go_ret;exact⟨Xw HB.out.symm,rfl⟩):p:=h
open Go.RowKit
section
open NT
abbrev XY:TypeId:=116
structure Zb (M:Nat) (w w':World):Prop where
 os:w'.os=w.os
 tape:w'.tape=w.tape
 output:w'.output=w.output
 size:w.heap.size<=w'.heap.size
 block:∀g,g≠M->g<w.heap.size->w'.heap[g]? =w.heap[g]?
theorem Zb.refl(M:Nat)(w:World):Zb M w w:=⟨rfl,rfl,rfl,ZWS _,fun _ _ _=>rfl⟩
theorem Zb.trans{M:Nat}{a b c:World}(h:Zb M a b)(k:Zb M b c):Zb M a c:=
 ⟨k.os.trans h.os,k.tape.trans h.tape,k.output.trans h.output,ZW0 h.size k.size,fun g hg hl=>(k.block g hg (ZXi hl h.size)).trans (h.block g hg hl)⟩
theorem Zb.of_below{M:Nat}{w w':World}(h:Below w.heap.size w w'):Zb M w w':=⟨h.os,h.tape,h.output,h.size,fun g _ hl=>h.block g hl⟩
theorem Zb.alloc(M:Nat)(w:World)(o:Obj):Zb M w (w.alloc o):=Zb.of_below ((ZWT _ _).alloc (ZWS _) o)
theorem Zb.drew(M:Nat)(w:World)(n:Nat):Zb M w (w.drewN n):=⟨rfl,rfl,rfl,ZWS _,fun _ _ _=>rfl⟩
theorem Zb.set(M:Nat)(w:World)(o:Nat)(v:Value):Zb M w (w.setCell ⟨M,o,none⟩ v):=
 ⟨rfl,rfl,rfl,by simp[World.setCell],fun g hg _=>ZXf _ _ _ _ hg⟩
theorem Zb.cell{M:Nat}{w w':World}(h:Zb M w w'){g o:Nat}{v:Value}(hg:g≠M)(hc:w.cell? ⟨g,o,none⟩=some v):w'.cell? ⟨g,o,none⟩=some v:=
 (ZXb (w:=w) (h.block g hg (ZWW _ _ hc))).trans hc
theorem Zb.obj{M:Nat}{w w':World}(h:Zb M w w'){g:Nat}{o:Obj}(hg:g≠M)(hc:w.heap[g]? =some o):w'.heap[g]? =some o:=
 (h.block g hg (ZWU.1 hc).1).trans hc
def YF(f:Fl)(k i fr g w h:Value):Array Value:=
 #[.string ⟨f.kind.toArray⟩,.string ⟨f.sign.toArray⟩,.string ⟨f.text.toArray⟩,.string ⟨f.Zd.toArray⟩,.string ⟨f.Zx.toArray⟩,.int .i64 f.num,.bool f.star,.bool f.not_,.bool f.all,.bool f.ZU,k,i,fr,g,w,h]
mutual
def Zr(M N:Nat)(W:World):Tr->Value->Prop
 | .nil,v=>v= .pointer none
 | .cons _ _,_=>False
 | .node f k i fr g w h,v=>∃b vk vi vf vg vw vh,v= .pointer (some ⟨b,0,none⟩)/\b≠M/\b≠N/\W.heap[b]? =some (.cells (YF f vk vi vf vg vw vh) XY (0,0))/\
  (∃a c,vk= .slice a k.len c/\YM M N W k a 0)/\(∃a c,vi= .slice a i.len c/\YM M N W i a 0)/\(∃a c,vf= .slice a fr.len c/\YM M N W fr a 0)/\(∃a c,vg= .slice a g.len c/\YM M N W g a 0)/\Zr M N W w vw/\Zr M N W h vh
def YM(M N:Nat)(W:World):Tr->Option Addr->Nat->Prop
 | .nil,_,_=>True
 | .cons h t,a,o=>(∃g v,a=some ⟨g,0,none⟩/\g≠M/\g≠N/\W.cell? ⟨g,o,none⟩=some v/\Zr M N W h v)/\YM M N W t a (o+1)
 | .node _ _ _ _ _ _ _,_,_=>False
end
def Z8(M N:Nat)(W:World)(t:Tr)(v:Value):Prop:=∃a c,v= .slice a t.len c/\YM M N W t a 0
theorem X7{M N:Nat}{W:World}{f:Fl}{k i fr g w h:Tr}{v:Value}:Zr M N W (.node f k i fr g w h) v↔∃b vk vi vf vg vw vh,v= .pointer (some ⟨b,0,none⟩)/\b≠M/\b≠N/\W.heap[b]? =some (.cells (YF f vk vi vf vg vw vh) XY (0,0))/\
  Z8 M N W k vk/\Z8 M N W i vi/\Z8 M N W fr vf/\Z8 M N W g vg/\Zr M N W w vw/\Zr M N W h vh:=by
 rw[Zr];rfl
theorem ZuM{M N:Nat}{W W':World}(h:Zb M W W')(t:Tr):(∀v,Zr M N W t v->Zr M N W' t v)/\(∀a o,YM M N W t a o->YM M N W' t a o):=by
 induction t with
 |nil=>exact ZTQ
 |cons x t ih1 ih2=>
  refine⟨fun v hv=>by simp[Zr]at hv,fun a o hr=>?_⟩;rw[YM]at hr ⊢;obtain⟨⟨g,v,h1,h2,h3,h4,h5⟩,h6⟩:=hr;exact⟨⟨g,v,h1,h2,h3,h.cell h2 h4,ih1.1 v h5⟩,ih2.2 a _ h6⟩
 |node f k i fr g w hh ik ii ifr ig iw ih=>
  refine⟨fun v hv=>?_,fun a o hr=>by simp[YM]at hr⟩;rw[X7]at hv ⊢;obtain⟨b,vk,vi,vf,vg,vw,vh,e,h1,h2,h3,⟨a1,c1,e1,r1⟩,⟨a2,c2,e2,r2⟩,⟨a3,c3,e3,r3⟩,⟨a4,c4,e4,r4⟩,p1,p2⟩:=hv;exact⟨b,vk,vi,vf,vg,vw,vh,e,h1,h2,h.obj h1 h3,⟨a1,c1,e1,ik.2 _ _ r1⟩,⟨a2,c2,e2,ii.2 _ _ r2⟩,⟨a3,c3,e3,ifr.2 _ _ r3⟩,⟨a4,c4,e4,ig.2 _ _ r4⟩,iw.1 _ p1,ih.1 _ p2⟩
theorem Zr.keep{M N:Nat}{W W':World}{t:Tr}{v:Value}(hv:Zr M N W t v)(h:Zb M W W'):Zr M N W' t v:=(ZuM h t).1 v hv
theorem YM.keep{M N:Nat}{W W':World}{t:Tr}{a:Option Addr}{o:Nat}(hv:YM M N W t a o)(h:Zb M W W'):YM M N W' t a o:=(ZuM h t).2 a o hv
theorem Z8.keep{M N:Nat}{W W':World}{t:Tr}{v:Value}(hv:Z8 M N W t v)(h:Zb M W W'):Z8 M N W' t v:=by
 obtain⟨a,c,e,r⟩:=hv;exact⟨a,c,e,r.keep h⟩
theorem Z8.nil(M N:Nat)(W:World):Z8 M N W .nil (.slice none 0 0):=⟨none,0,rfl,by simp[YM]⟩
theorem Zr.nil(M N:Nat)(W:World):Zr M N W .nil (.pointer none):=by simp[Zr]
def sw(ws:List RW)(i j:Nat):List RW:=(ws.drop i).take (j-i)
theorem Z0(w:List RW){i j:Nat}(hi:i<j)(hj:j<=w.length):sw w i j=w[i]' U::sw w (i+1) j:=by
 unfold sw;rw[ZXl (by omega:i<w.length),show j-i=(j-(i+1))+1 from U,List.take_succ_cons]
theorem V4(w:List RW){i j:Nat}(h:j<=i):sw w i j= []:=by
 unfold sw;rw[show j-i=0 from U];rfl
theorem Zpo(w:List RW){i p j:Nat}(hi:i<=p)(hp:p<=j):sw w i j=sw w i p++sw w p j:=by
 unfold sw;rw[show j-i=(p-i)+(j-p) from U,List.take_add,ZXF,show i+(p-i)=p from U]
theorem Zan(w:List RW){i p j:Nat}(hi:i<=p)(hp:p<j)(hj:j<=w.length):sw w i j=sw w i p++w[p]' U::sw w (p+1) j:=by
 rw[Zpo w hi (ZYg hp),Z0 w hp hj]
def num:NT->Nat
 |query=>0|core=>1|tail=>2|after=>3|Z6=>4|items=>5|NT.item=>6|sources=>7|source=>8|Zu=>9|column=>10|cnd=>11|ZF=>12|neg=>13|basic=>14|expr=>15|term=>16|factor=>17
theorem Zow(k:NT):num k<18:=by cases k<;>decide
theorem ZH9{k k':NT}(h:num k=num k'):k=k':=by cases k<;>cases k'<;>first|rfl|(simp[num]at h)
def spot(n:Nat)(k:NT)(i j:Nat):Nat:=(num k*(n+1)+i)*(n+1)+j
theorem ZwB{n i j:Nat}(k:NT)(hi:i<=n)(hj:j<=n):spot n k i j<18*(n+1)*(n+1):=by
 unfold spot;have h1:num k*(n+1)+i+1<=18*(n+1):=by
  have:=Nat.mul_le_mul_right (n+1) (show num k+1<=18 from Zow k);rw[Nat.succ_mul]at this;omega
 have h2:=Nat.mul_le_mul_right (n+1) h1;rw[Nat.succ_mul]at h2;omega
theorem ZLh{n i j i' j':Nat}{k k':NT}(hi:i<=n)(hj:j<=n)(hi':i'<=n)(hj':j'<=n)(h:spot n k i j=spot n k' i' j'):k=k'/\i=i'/\j=j':=by
 unfold spot at h;have e1:j=j':=by
  have:=congrArg (·%(n+1)) h;simp only[Nat.mul_add_mod_self_right,Nat.mod_eq_of_lt (show j<n+1 by omega),Nat.mod_eq_of_lt (show j'<n+1 by omega)]at this;exact this
 subst e1;have h2:num k*(n+1)+i=num k'*(n+1)+i':=Nat.eq_of_mul_eq_mul_right (by omega:0<n+1) U;have e2:i=i':=by
  have:=congrArg (·%(n+1)) h2;simp only[Nat.mul_add_mod_self_right,Nat.mod_eq_of_lt (show i<n+1 by omega),Nat.mod_eq_of_lt (show i'<n+1 by omega)]at this;exact this
 subst e2;exact⟨ZH9 (Nat.eq_of_mul_eq_mul_right (by omega:0<n+1) U),rfl,rfl⟩
def Found(M N:Nat)(ws:List RW)(W:World)(k:NT)(i j:Nat)(v:Value):Prop:=
 (v= .pointer none/\¬G k (st (ws.map tok) i j))\/∃b t,v= .pointer (some ⟨b,0,none⟩)/\b≠N/\Zr M N W t v/\D k (sw ws i j) t
theorem Found.keep{M N:Nat}{ws:List RW}{W W':World}{k:NT}{i j:Nat}{v:Value}(h:Found M N ws W k i j v)(hk:Zb M W W'):Found M N ws W' k i j v:=by
 rcases h with h|⟨b,t,h1,h2,h3,h4⟩
 ·exact ZS3
 ·exact .inr ⟨b,t,h1,h2,h3.keep hk,h4⟩
def ZgJ(M N:Nat)(ws:List RW)(W:World)(k:NT)(i j:Nat)(v:Value):Prop:=
 v= .pointer none\/(v= .pointer (some ⟨N,0,none⟩)/\¬G k (st (ws.map tok) i j))\/∃b t,v= .pointer (some ⟨b,0,none⟩)/\b≠N/\Zr M N W t v/\D k (sw ws i j) t
theorem ZgJ.keep{M N:Nat}{ws:List RW}{W W':World}{k:NT}{i j:Nat}{v:Value}(h:ZgJ M N ws W k i j v)(hk:Zb M W W'):ZgJ M N ws W' k i j v:=by
 rcases h with h|h|⟨b,t,h1,h2,h3,h4⟩
 ·exact ZS3
 ·exact .inr (.inl h)
 ·exact .inr (.inr ⟨b,t,h1,h2,h3.keep hk,h4⟩)
structure Cut (C M N:Nat) (ws:List RW) (W:World):Prop where
 len:ws.length<=400
 ok:∀w∈ws,Yi w
 cm:C≠M
 nm:N≠M
 Zil:∃cs,W.heap[N]? =some (.cells cs XY (0,0))
 obj:∃wa cap QA,W.heap[C]? =some (.cells #[.slice wa ws.length cap,.int .i64 ws.length,.slice (some ⟨M,0,none⟩) (18*(ws.length+1)*(ws.length+1)) QA,.pointer (some ⟨N,0,none⟩)] 118 (0,0))/\
  ∀i (h:i<ws.length),∃g,wa=some ⟨g,0,none⟩/\g≠M/\W.cell? ⟨g,i*3,none⟩=some (.string ⟨ws[i].sort.toArray⟩)/\W.cell? ⟨g,i*3+1,none⟩=some (.string ⟨ws[i].text.toArray⟩)/\W.cell? ⟨g,i*3+2,none⟩=some (.int .i64 ws[i].num)
 memo:∀k i j,i<=ws.length->j<=ws.length->∃v,W.cell? ⟨M,spot ws.length k i j,none⟩=some v/\ZgJ M N ws W k i j v
 frozen:∀o,W.frozen? ⟨M,o,none⟩=false
theorem Cut.below{C M N:Nat}{ws:List RW}{W W':World}(h:Cut C M N ws W)(hb:Below W.heap.size W W'):Cut C M N ws W':=by
 have hk:Zb M W W':=Zb.of_below hb;obtain⟨wa,cap,QA,h1,h2⟩:=h.obj;refine⟨h.len,h.ok,h.cm,h.nm,h.Zil.imp (fun cs hc=>hk.obj h.nm hc),⟨wa,cap,QA,hk.obj h.cm h1,fun i hi=>?_⟩,fun k i j hi hj=>?_,fun o=>?_⟩
 ·exact ZVN
 ·obtain⟨v,hc,hm⟩:=h.memo k i j hi hj;exact⟨v,(hb.cell (p:=⟨M,_,none⟩) (ZWW _ _ hc)).trans hc,hm.keep hk⟩
 ·obtain⟨v,hc,_⟩:=h.memo query 0 0 U U;have hlt:M<W.heap.size:=ZWW _ _ hc;exact(hb.frozen (p:=⟨M,o,none⟩) hlt).trans (h.frozen o)
theorem Cut.drew{C M N:Nat}{ws:List RW}{W:World}(h:Cut C M N ws W)(n:Nat):Cut C M N ws (W.drewN n):=h.below ⟨rfl,rfl,rfl,ZWS _,fun _ _=>rfl⟩
theorem Cut.alloc{C M N:Nat}{ws:List RW}{W:World}(h:Cut C M N ws W)(o:Obj):Cut C M N ws (W.alloc o):=h.below ((ZWT _ _).alloc (ZWS _) o)
theorem Cut.set{C M N:Nat}{ws:List RW}{W:World}(h:Cut C M N ws W){k:NT}{i j:Nat}(hi:i<=ws.length)(hj:j<=ws.length){v:Value}(hv:ZgJ M N ws W k i j v):Cut C M N ws (W.setCell ⟨M,spot ws.length k i j,none⟩ v):=by
 have hk:=Zb.set M W (spot ws.length k i j) v;obtain⟨wa,cap,QA,h1,h2⟩:=h.obj;refine⟨h.len,h.ok,h.cm,h.nm,h.Zil.imp (fun cs hc=>hk.obj h.nm hc),⟨wa,cap,QA,hk.obj h.cm h1,fun i hi=>?_⟩,fun k' i' j' hi' hj'=>?_,fun o=>by simp[h.frozen]⟩
 ·exact ZVN
 ·obtain⟨u,hc,hm⟩:=h.memo k' i' j' hi' hj';by_cases e:spot ws.length k i j=spot ws.length k' i' j'
  ·obtain⟨rfl,rfl,rfl⟩:=ZLh hi hj hi' hj' e;exact⟨v,World.cell?_setCell_same _ _ _ hc,hv.keep hk⟩
  ·refine⟨u,?_,hm.keep hk⟩;rw[World.cell?_setCell_other _ _ _ _ (fun e'=>e (congrArg Addr.off e'))];exact hc
theorem Cut.Zw{C M N:Nat}{ws:List RW}{W:World}(h:Cut C M N ws W):N<W.heap.size:=by
 obtain⟨cs,hc⟩:=h.Zil;exact(ZWU.1 hc).1
theorem Cut.ZN{C M N:Nat}{ws:List RW}{W:World}(h:Cut C M N ws W):M<W.heap.size:=by
 obtain⟨v,hc,_⟩:=h.memo query 0 0 U U;exact ZWW _ _ hc
theorem ZbM{M N:Nat}{W:World}(hM:M<W.heap.size)(hN:N<W.heap.size){f:Fl}{k i fr g w h:Tr}{vk vi vf vg vw vh:Value}(h1:Z8 M N W k vk)(h2:Z8 M N W i vi)(h3:Z8 M N W fr vf)(h4:Z8 M N W g vg)(h5:Zr M N W w vw)(h6:Zr M N W h vh):
  Zr M N (W.alloc (.cells (YF f vk vi vf vg vw vh) XY)) (.node f k i fr g w h) (.pointer (some ⟨W.heap.size,0,none⟩)):=by
 have hk:=Zb.alloc M W (.cells (YF f vk vi vf vg vw vh) XY);rw[X7];exact⟨_,vk,vi,vf,vg,vw,vh,rfl,U,U,ZWV _ _,h1.keep hk,h2.keep hk,h3.keep hk,h4.keep hk,h5.keep hk,h6.keep hk⟩
theorem ZkL{M N:Nat}{W:World}(hM:M<W.heap.size)(hN:N<W.heap.size){f:Fl}{k:Tr}{vk:Value}(h1:Z8 M N W k vk):
  Zr M N (W.alloc (.cells (YF f vk (.slice none 0 0) (.slice none 0 0) (.slice none 0 0) (.pointer none) (.pointer none)) XY)) (nd f k) (.pointer (some ⟨W.heap.size,0,none⟩)):=
 ZbM hM hN h1 (Z8.nil _ _ _) (Z8.nil _ _ _) (Z8.nil _ _ _) (Zr.nil _ _ _) (Zr.nil _ _ _)
theorem ZHR{M N:Nat}{W:World}(hM:M<W.heap.size)(hN:N<W.heap.size){x:Tr}{a:Value}(h1:Zr M N W x a):
  Z8 M N (W.alloc (.cells #[a] 28)) (l1 x) (.slice (some ⟨W.heap.size,0,none⟩) 1 1):=by
 have hk:=Zb.alloc M W (.cells #[a] 28);refine⟨_,_,rfl,?_⟩;unfold l1;rw[YM,YM];exact⟨⟨_,a,rfl,U,U,ZPm,h1.keep hk⟩,trivial⟩
theorem ZHS{M N:Nat}{W:World}(hM:M<W.heap.size)(hN:N<W.heap.size){x y:Tr}{a b:Value}(h1:Zr M N W x a)(h2:Zr M N W y b):
  Z8 M N (W.alloc (.cells #[a,b] 28)) (l2 x y) (.slice (some ⟨W.heap.size,0,none⟩) 2 2):=by
 have hk:=Zb.alloc M W (.cells #[a,b] 28);refine⟨_,_,rfl,?_⟩;unfold l2;rw[YM,YM,YM];exact⟨⟨_,a,rfl,U,U,ZPm,h1.keep hk⟩,⟨_,b,rfl,U,U,ZPm,h2.keep hk⟩,trivial⟩
theorem ZdE{M N:Nat}{W:World}(hM:M<W.heap.size)(hN:N<W.heap.size)(f:Fl):
 Zr M N (W.alloc (.cells (YF f (.slice none 0 0) (.slice none 0 0) (.slice none 0 0) (.slice none 0 0) (.pointer none) (.pointer none)) XY)) (nd f .nil) (.pointer (some ⟨W.heap.size,0,none⟩)):=ZkL hM hN (Z8.nil _ _ _)
theorem Vo{M N:Nat}{W:World}(hM:M<W.heap.size)(hN:N<W.heap.size)(f:Fl){x:Tr}{a:Value}(h1:Zr M N W x a):
  Zr M N ((W.alloc (.cells #[a] 28)).alloc (.cells (YF f (.slice (some ⟨W.heap.size,0,none⟩) 1 1) (.slice none 0 0) (.slice none 0 0) (.slice none 0 0) (.pointer none) (.pointer none)) XY)) (nd f (l1 x)) (.pointer (some ⟨W.heap.size+1,0,none⟩)):=by
 have:=ZkL (f:=f) ZPo ZPo (ZHR hM hN h1);exact ZWN
theorem EK{M N:Nat}{W:World}(hM:M<W.heap.size)(hN:N<W.heap.size)(f:Fl){x y:Tr}{a b:Value}(h1:Zr M N W x a)(h2:Zr M N W y b):
  Zr M N ((W.alloc (.cells #[a,b] 28)).alloc (.cells (YF f (.slice (some ⟨W.heap.size,0,none⟩) 2 2) (.slice none 0 0) (.slice none 0 0) (.slice none 0 0) (.pointer none) (.pointer none)) XY)) (nd f (l2 x y)) (.pointer (some ⟨W.heap.size+1,0,none⟩)):=by
 have:=ZkL (f:=f) ZPo ZPo (ZHS hM hN h1 h2);exact ZWN
theorem Tryz.infoTree:(prog.info? 116).map (fun i=>(i.zero,i.size,i.bytes))=some (some (.agg (YF {} (.slice none 0 0) (.slice none 0 0) (.slice none 0 0) (.slice none 0 0) (.pointer none) (.pointer none))),16,208):=by kernel_rfl
theorem Zr.obj{M N:Nat}{W:World}{t:Tr}{b:Nat}(h:Zr M N W t (.pointer (some ⟨b,0,none⟩))):∃cs,W.heap[b]? =some (.cells cs XY (0,0)):=by
 cases t with
 |nil=>simp[Zr]at h
 |cons x t=>simp[Zr]at h
 |node f k i fr g w hh=>
  rw[X7]at h;obtain⟨b',vk,vi,vf,vg,vw,vh,e,h1,h2,h3,_⟩:=h;cases e;exact⟨_,h3⟩
theorem ZB4(N:Nat)(w:World):(binOp .eql 28 (.pointer (some ⟨N,0,none⟩)) (.pointer (some ⟨N,0,none⟩))).run prog w= .ok (.bool true) w:=by
 obtain⟨i0,hi,_⟩:=ZXd Tryz.infoTree;exact run_eql_ptr_same w _ underlying28 hi
theorem Zsc{b N:Nat}{w:World}(hne:b≠N)(hb:∃cs,w.heap[b]? =some (.cells cs XY (0,0)))(hN:∃cs,w.heap[N]? =some (.cells cs XY (0,0))):(binOp .eql 28 (.pointer (some ⟨b,0,none⟩)) (.pointer (some ⟨N,0,none⟩))).run prog w= .ok (.bool false) w:=by
 obtain⟨i0,hi,_,hz,_⟩:=ZXd Tryz.infoTree;obtain⟨c1,h1⟩:=hb;obtain⟨c2,h2⟩:=hN;exact run_eql_ptr_other w underlying28 hi (by rw[hz];decide) (by intro e;exact hne (congrArg Addr.block e)) h1 h2
theorem ZB5(N:Nat)(w:World):(binOp .eql 28 (.pointer none) (.pointer (some ⟨N,0,none⟩))).run prog w= .ok (.bool false) w:=by
 have h:∀d:Nat,(Op.equalIn (d+1) 28 (.pointer none) (.pointer (some ⟨N,0,none⟩))).run prog w= .ok false w:=fun d=>by
  simp[Op.equalIn,run_underlying underlying28]
 simp only[binOp];simp[Op.equal,Op.maxDepth,h 9999]
end
section
open NT
def Za5(ws:List RW)(i:Int):Option RW:=if 0<=i then ws[i.toNat]? else none
def ZJ(ws:List RW)(i:Int)(s:Za):Bool:=match Za5 ws i with|some w=>Vn w s|none=>false
def Xt(ws:List RW)(i:Int)(s:Za):Bool:=match Za5 ws i with|some w=>JY w s|none=>false
def nameAt(ws:List RW)(i:Int):Bool:=match Za5 ws i with|some w=>w.sort==Yz|none=>false
theorem Zln{ws:List RW}{i:Int}(h:i<0):Za5 ws i=none:=by unfold Za5;rw[ZWQ U]
theorem Zc0{ws:List RW}{i:Int}(h:(ws.length:Int)<=i):Za5 ws i=none:=by unfold Za5;rw[ZWR U,ZYz U]
theorem Za6{ws:List RW}{i:Nat}(h:i<ws.length):Za5 ws (i:Int)=some ws[i]:=by unfold Za5;rw[ZWR U];simp[h]
theorem Cut.cells{C M N:Nat}{ws:List RW}{W:World}(h:Cut C M N ws W):∃wa cap QA,W.cell? ⟨C,0,none⟩=some (.slice wa ws.length cap)/\W.cell? ⟨C,1,none⟩=some (.int .i64 ws.length)/\W.cell? ⟨C,2,none⟩=some (.slice (some ⟨M,0,none⟩) (18*(ws.length+1)*(ws.length+1)) QA)/\W.cell? ⟨C,3,none⟩=some (.pointer (some ⟨N,0,none⟩))/\
  ∀i (h:i<ws.length),∃g,wa=some ⟨g,0,none⟩/\g≠M/\W.cell? ⟨g,i*3,none⟩=some (.string ⟨ws[i].sort.toArray⟩)/\W.cell? ⟨g,i*3+1,none⟩=some (.string ⟨ws[i].text.toArray⟩)/\W.cell? ⟨g,i*3+2,none⟩=some (.int .i64 ws[i].num):=by
 obtain⟨wa,cap,QA,h1,h2⟩:=h.obj;obtain⟨c0,c1,c2,c3,_⟩:=ZaD h1;exact⟨wa,cap,QA,c0,c1,c2,c3,h2⟩
theorem Y8(C M N:Nat)(ws:List RW)(i:Int)(s:Za)(W:World)(h:Cut C M N ws W)(h0: -10<=i)(h1:i<=1000):
  Calls prog 106 #[.pointer (some ⟨C,0,none⟩),.int .i64 i,.string ⟨s.toArray⟩] W fun e w'=>e= .returned (.bool (ZJ ws i s))/\W=w':=by
 obtain⟨wa,cap,QA,c0,c1,c2,c3,cw⟩:=h.cells;have hlen:=h.len;by_cases hn:0<=i
 ·obtain⟨k,rfl⟩:∃k:Nat,i=k:=⟨i.toNat,U⟩;by_cases hl:k<ws.length
  ·obtain⟨g,rfl,hg,q1,q2,q3⟩:=cw k hl;have HB:Hid (ZJ ws k s=(ws[k].sort== [107,101,121]&&ws[k].text==s)):=by show _=_;unfold ZJ;rw[Za6 hl];rfl
   clear cw h;go_enter func106,ntmps106;go_wp2;all_goals
    go_ret;refine⟨Xw ?_,rfl⟩;rw[HB.out];try simp[*]
  ·have HB:Hid (ZJ ws k s=false):=by show _=_;unfold ZJ;rw[Zc0 U]
   exact ZSz
 ·have HB:Hid (ZJ ws i s=false):=by show _=_;unfold ZJ;rw[Zln U]
  exact ZSz
theorem KV(C M N:Nat)(ws:List RW)(i:Int)(s:Za)(W:World)(h:Cut C M N ws W)(h0: -10<=i)(h1:i<=1000):
  Calls prog 146 #[.pointer (some ⟨C,0,none⟩),.int .i64 i,.string ⟨s.toArray⟩] W fun e w'=>e= .returned (.bool (Xt ws i s))/\W=w':=by
 obtain⟨wa,cap,QA,c0,c1,c2,c3,cw⟩:=h.cells;have hlen:=h.len;by_cases hn:0<=i
 ·obtain⟨k,rfl⟩:∃k:Nat,i=k:=⟨i.toNat,U⟩;by_cases hl:k<ws.length
  ·obtain⟨g,rfl,hg,q1,q2,q3⟩:=cw k hl;have HB:Hid (Xt ws k s=(ws[k].sort== [115,105,103,110]&&ws[k].text==s)):=by show _=_;unfold Xt;rw[Za6 hl];rfl
   clear cw h;go_enter func146,ntmps146;go_wp2;all_goals
    go_ret;refine⟨Xw ?_,rfl⟩;rw[HB.out];try simp[*]
  ·have HB:Hid (Xt ws k s=false):=by show _=_;unfold Xt;rw[Zc0 U]
   exact ZSA
 ·have HB:Hid (Xt ws i s=false):=by show _=_;unfold Xt;rw[Zln U]
  exact ZSA
theorem Zg7(C M N:Nat)(ws:List RW)(i:Int)(W:World)(h:Cut C M N ws W)(h0: -10<=i)(h1:i<=1000):
  Calls prog 147 #[.pointer (some ⟨C,0,none⟩),.int .i64 i] W fun e w'=>e= .returned (.bool (nameAt ws i))/\W=w':=by
 obtain⟨wa,cap,QA,c0,c1,c2,c3,cw⟩:=h.cells;have hlen:=h.len;by_cases hn:0<=i
 ·obtain⟨k,rfl⟩:∃k:Nat,i=k:=⟨i.toNat,U⟩;by_cases hl:k<ws.length
  ·obtain⟨g,rfl,hg,q1,q2,q3⟩:=cw k hl;have HB:Hid (nameAt ws k=(ws[k].sort== [110,97,109,101])):=by show _=_;unfold nameAt;rw[Za6 hl];rfl
   clear cw h;go_enter func147,ntmps147;go_wp2;all_goals
    go_ret;refine⟨Xw ?_,rfl⟩;rw[HB.out];try simp[*]
  ·have HB:Hid (nameAt ws k=false):=by show _=_;unfold nameAt;rw[Zc0 U]
   exact ZSB
 ·have HB:Hid (nameAt ws i=false):=by show _=_;unfold nameAt;rw[Zln U]
  exact ZSB
def rk:NT->Nat
 |query=>1|core=>0|tail=>2|after=>4|Z6=>2|items=>5|NT.item=>4|sources=>1|source=>0|Zu=>1|column=>0|cnd=>3|ZF=>2|neg=>1|basic=>0|expr=>3|term=>2|factor=>1
theorem ZiB(k:NT):rk k<20:=by cases k<;>decide
def Em(M N:Nat)(W:World)(v:Value)(no:Prop)(yes:Tr->Prop):Prop:=
 (v= .pointer none/\no)\/∃b t,v= .pointer (some ⟨b,0,none⟩)/\b≠N/\Zr M N W t v/\yes t
theorem Em.keep{M N:Nat}{W W':World}{v:Value}{no:Prop}{yes:Tr->Prop}(h:Em M N W v no yes)(hk:Zb M W W'):Em M N W' v no yes:=by
 rcases h with h|⟨b,t,h1,h2,h3,h4⟩
 ·exact ZS3
 ·exact .inr ⟨b,t,h1,h2,h3.keep hk,h4⟩
def Post(C M N:Nat)(ws:List RW)(W:World)(no:Prop)(yes:Tr->Prop)(e:Ending)(w':World):Prop:=
 ∃v,e= .returned v/\Cut C M N ws w'/\Zb M W w'/\Em M N w' v no yes
def Is(C M N:Nat)(ws:List RW)(m:Nat):Prop:=∀(k:NT) (i:Nat) (j:Int) (W:World),Cut C M N ws W->i<=900-> -10<=j->j<=ws.length->(j.toNat-i)*20+rk k<m->
 Calls prog 40 #[.pointer (some ⟨C,0,none⟩),.int .i64 (num k),.int .i64 i,.int .i64 j] W (Post C M N ws W (¬G k (st (ws.map tok) i j.toNat)) (D k (sw ws i j.toNat)))
def V9(k:NT)(l:List T):Prop:=∃a,l=T.lp::(a++ [T.rp])/\G k a
def ZyO(k:NT)(l:List RW)(t:Tr):Prop:=∃o a c,l=o::(a++ [c])/\tok o=T.lp/\tok c=T.rp/\D k a t
theorem ZpK(ws:List RW)(i:Nat):(Za5 ws (i:Int)).map tok=(ws.map tok)[i]? :=by
 unfold Za5;rw[ZWR U,ZXU];simp
theorem JZ{ws:List RW}(ok:∀w∈ws,Yi w)(y:Za×T)(hy:y∈Y0)(hc:y.2≠T.cmp)(i:Nat):Xt ws (i:Int) y.1=true↔(ws.map tok)[i]? =some y.2:=by
 rw[<-ZpK];unfold Xt;by_cases hi:i<ws.length
 ·rw[Za6 hi];simp only[Zww (ok _ (ZWX hi)) hy hc,ZXw,Option.map_some,ZYe]
 ·rw[Zc0 U];simp
theorem ZZ{ws:List RW}(ok:∀w∈ws,Yi w)(y:Za×T)(hy:y∈YE)(hc:y.2≠T.agg)(i:Nat):ZJ ws (i:Int) y.1=true↔(ws.map tok)[i]? =some y.2:=by
 rw[<-ZpK];unfold ZJ;by_cases hi:i<ws.length
 ·rw[Za6 hi];simp only[Zoj (ok _ (ZWX hi)) hy hc,ZXw,Option.map_some,ZYe]
 ·rw[Zc0 U];simp
theorem ZbO{ws:List RW}(ok:∀w∈ws,Yi w)(i:Nat):nameAt ws (i:Int)=true↔(ws.map tok)[i]? =some T.name:=by
 rw[<-ZpK];unfold nameAt;by_cases hi:i<ws.length
 ·rw[Za6 hi];simp only[ZXT,Option.map_some,ZYe,ZpB (ok _ (ZWX hi))]
 ·rw[Zc0 U];simp
theorem ZQ{ws:List RW}{i:Nat}{t:T}(h:(ws.map tok)[i]? =some t):∃hi:i<ws.length,tok ws[i]=t:=by
 rw[ZXU]at h;by_cases hi:i<ws.length
 ·refine⟨hi,?_⟩;simpa[hi]using h
 ·rw[ZYz U]at h;cases h
theorem Zo4{k:NT}{w:List T}{i j:Nat}(hj:j<=w.length):V9 k (st w i j)↔i+1<j/\w[i]? =some T.lp/\w[j-1]? =some T.rp/\G k (st w (i+1) (j-1)):=by
 constructor
 ·rintro⟨a,e,hg⟩;have hl:=congrArg List.length e;rw[Za2 w hj]at hl;simp at hl;have h2:=Q4 w (i:=i) (j:=j) U hj;rw[e]at h2;obtain⟨e1,e2⟩:=ZXk h2;obtain⟨p,p1,p2,rfl,p3,p4⟩:=ZdQ (a:=a) (u:=T.rp) (b:= []) hj e2.symm;have hl2:=congrArg List.length p4;rw[Za2 w hj]at hl2;simp at hl2;obtain rfl:p=j-1:=by omega
  refine⟨U,?_,p3,hg⟩;rw[ZW1 U,e1]
 ·rintro⟨h1,h2,h3,hg⟩;refine⟨_,?_,hg⟩;rw[Q4 w U hj,ZwE w (i:=i+1) (p:=j-1) U U hj,Ky w (i:=j-1+1) U];rw[ZW1 U]at h2 h3;rw[ZXc h2,ZXc h3]
theorem ZLz{ws:List RW}{i j:Nat}(hi:i+1<j)(hj:j<=ws.length):sw ws i j=ws[i]' U::(sw ws (i+1) (j-1)++ [ws[j-1]' U]):=by
 rw[Z0 ws U hj,Zan ws (i:=i+1) (p:=j-1) U U hj,V4 ws (i:=j-1+1) U]
theorem EB{k:NT}{a:List T}(h:G k a):a≠ []:=by
 obtain⟨t,r,e,_⟩:=VM h;rw[e];simp
theorem Q9(C M N:Nat)(ws:List RW)(m:Nat)(hI:Is C M N ws m)(k:NT)(i j:Nat)(W:World)(h:Cut C M N ws W)(hi:i<800)(hj1:1<=j)(hj:j<=ws.length)(hm:(j-i)*20<=m)(hm2:20<=m):
  Calls prog 145 #[.pointer (some ⟨C,0,none⟩),.int .i64 (num k),.int .i64 i,.int .i64 j] W (Post C M N ws W (¬V9 k (st (ws.map tok) i j)) (ZyO k (sw ws i j))):=by
 have hlen:=h.len;have hnk:=Zow k;go_enter func145,ntmps145;go_wp2_with fail;refine(KV C M N ws _ _ _ h U U).mono ?_;rintro e w' ⟨rfl,rfl⟩;go_wp2_with fail;refine(KV C M N ws _ _ _ h U U).mono ?_;rintro e w' ⟨rfl,rfl⟩;have ej:(j:Int)-1=((j-1:Nat):Int):=U
 rw[ej];cases ho:Xt ws i [40]with
 |false=>
  go_wp2;go_ret;refine⟨_,rfl,h,Zb.refl _ _,.inl ⟨rfl,fun hg=>?_⟩⟩;rw[(JZ h.ok (_,T.lp) ZPl ZPl i).2 ((Zo4 ZQH).1 hg).2.1]at ho;cases ho
 |true=>
  cases hc:Xt ws ((j-1:Nat):Int) [41]with
  |false=>
   go_wp2;go_ret;refine⟨_,rfl,h,Zb.refl _ _,.inl ⟨rfl,fun hg=>?_⟩⟩;rw[(JZ h.ok (_,T.rp) ZPl ZPl (j-1)).2 ((Zo4 ZQH).1 hg).2.2.1]at hc;cases hc
  |true=>
   go_wp2_with fail;refine(hI k (i+1) ((j-1:Nat):Int) _ h U U U (by have:=ZiB k;omega)).mono ?_;rintro e w' ⟨v,rfl,hC,hK,hF⟩;go_wp2;go_ret;have e0:=(JZ h.ok (_,T.lp) ZPl ZPl i).1 ho;have e1:=(JZ h.ok (_,T.rp) ZPl ZPl (j-1)).1 hc;obtain⟨hi0,t0⟩:=ZQ e0;obtain⟨hi1,t1⟩:=ZQ e1;rw[Int.toNat_natCast]at hF;refine⟨_,rfl,hC,hK,?_⟩;rcases hF with⟨rfl,hn⟩|⟨b,t,e,hb,hp,hd⟩
   ·exact .inl ⟨rfl,fun hg=>hn ((Zo4 ZQH).1 hg).2.2.2⟩
   ·refine .inr ⟨b,t,e,hb,hp,?_⟩;have hne:=EB hd.g;have hlt:i+1<j-1:=by
     by_cases hh:i+1<j-1
     ·exact hh
     ·exact ZWp
    exact⟨_,_,_,ZLz U hj,t0,t1,hd⟩
end
section
open NT
def Zbg(same alone:NT)(Jt:T->Prop)(w:List T)(i j q:Nat):Prop:=∀u,w[q]? =some u->Jt u->G same (st w i q)->¬G alone (st w (q+1) j)
def Zfe(same alone:NT)(Jt:T->Prop)(w:List T)(i j p:Nat):Prop:=¬G alone (st w i j)/\∀q,i<q->q<p->Zbg same alone Jt w i j q
theorem Zvh{same alone:NT}{Jt:T->Prop}{w:List T}{i j:Nat}(hj:j<=w.length)(hinv:∀l,G same l↔G alone l\/∃a u b,l=a++u::b/\Jt u/\G same a/\G alone b)(h:Zfe same alone Jt w i j j):¬G same (st w i j):=by
 intro hg;rcases(hinv _).1 hg with h1|⟨a,u,b,e,hu,ha,hb⟩
 ·exact h.1 h1
 ·obtain⟨p,p1,p2,rfl,p3,rfl⟩:=ZdQ hj e;have hne:=EB ha;have:i<p:=by
   by_cases hh:i<p
   ·exact hh
   ·exact ZWk
  exact h.2 p this p2 u p3 hu ha hb
def KO(M S:Nat)(W:World)(ss:List Za):Prop:=S≠M/\∀k (h:k<ss.length),W.cell? ⟨S,k,none⟩=some (.string ⟨ss[k].toArray⟩)
theorem KO.keep{M S:Nat}{W W':World}{ss:List Za}(h:KO M S W ss)(hk:Zb M W W'):KO M S W' ss:=⟨h.1,fun k hl=>hk.cell h.1 (h.2 k hl)⟩
theorem Zjt(C M N:Nat)(ws:List RW)(m:Nat)(hI:Is C M N ws m)(same alone:NT)(Jt:T->Prop)(sort:Za)(ss:List Za)(S cap:Nat)(i j:Nat)(W:World)(h:Cut C M N ws W)(hS:KO M S W ss)(hss:ss.length<=9)(hi:i<j)(hj:j<=ws.length)(hm:(j-i)*20+rk alone<m)
  (hinv:∀l,G same l↔G alone l\/∃a u b,l=a++u::b/\Jt u/\G same a/\G alone b)(hJ:∀w,Yi w->(Jt (tok w)↔w.sort=sort/\w.text∈ss))
  (hD1:∀a t,D alone a t->D same a t)(hD2:∀a u b x y,Jt (tok u)->D same a x->D alone b y->D same (a++u::b) (nd {kind:=u.text} (l2 x y))):
  Calls prog 105 #[.pointer (some ⟨C,0,none⟩),.int .i64 (num same),.int .i64 (num alone),.int .i64 i,.int .i64 j,.string ⟨sort.toArray⟩,.slice (some ⟨S,0,none⟩) ss.length cap] W (Post C M N ws W (¬G same (st (ws.map tok) i j)) (D same (sw ws i j))):=by
 have hlen:=h.len;have H1:Hid (∀l,G same l↔G alone l\/∃a u b,l=a++u::b/\Jt u/\G same a/\G alone b):=hinv;have H2:Hid (∀w,Yi w->(Jt (tok w)↔w.sort=sort/\w.text∈ss)):=hJ;have H3:Hid (∀a t,D alone a t->D same a t):=hD1;have H4:Hid (∀a u b x y,Jt (tok u)->D same a x->D alone b y->D same (a++u::b) (nd {kind:=u.text} (l2 x y))):=hD2;have HS:Hid (KO M S W ss):=hS;have HL:Hid (j<=(ws.map tok).length):=by show j<=_;simpa using hj
 clear hinv hJ hD1 hD2 hS;go_enter func105,ntmps105;go_wp2_with fail;refine(hI alone i j _ h U U U (by simpa using hm)).mono ?_;rintro e w1 ⟨v1,rfl,Zf,hK1,hF1⟩;rw[Int.toNat_natCast]at hF1;go_wp2;go_loopg [15,16] (j-i) (fun gk tv pv wr=>∃p:Nat,i+1<=p/\p<=j/\gk=j-p+1/\pv= .int .i64 p/\Cut C M N ws wr/\Zb M W wr/\Em M N wr tv (Zfe same alone Jt (ws.map tok) i j p) (D same (sw ws i j)));case atStart=>
  refine⟨i+1,U,U,U,rfl,Zf,hK1,?_⟩;rcases hF1 with⟨e,hn⟩|⟨b,t,e,hb,hp,hd⟩
  ·exact ZS8
  ·exact .inr ⟨b,t,e,hb,hp,H3.out _ _ hd⟩
 case round=>
  obtain⟨p,hp1,hp2,rfl,rfl,hC,hK,hA⟩:=hrel;rcases hA with⟨rfl,hno⟩|⟨b,t,rfl,hb,hp,hd⟩
  ·by_cases hlt:p<j
   ·have Y4:Hid (Zfe same alone Jt (ws.map tok) i j p):=hno;clear hno;go_wp2;go_loopg [15,17] (ss.length+1) (fun gk tv kv w2=>∃k:Nat,k<=ss.length/\gk=ss.length-k+1/\kv= .int .i64 k/\Cut C M N ws w2/\Zb M W w2/\Em M N w2 tv (∀k',k'<k->∀(hk:k'<ss.length) (hl:p<ws.length),ws[p].sort=sort->ws[p].text=ss[k']->Zbg same alone Jt (ws.map tok) i j p) (D same (sw ws i j)));case atStart=>exact⟨0,U,U,rfl,hC,hK,.inl ⟨rfl,fun k' h=>U⟩⟩
    case round=>
     obtain⟨k,hk,rfl,rfl,hC2,hK2,hA2⟩:=hrel;by_cases hkl:k<ss.length
     ·have hpw:p<ws.length:=by omega
      obtain⟨wa,ZNA,QA,c0,c1,c2,c3,cw⟩:=hC2.cells;obtain⟨g,rfl,hg,q1,q2,q3⟩:=cw p hpw;have q4:=(HS.out.keep hK2).2 k hkl;clear cw;by_cases hb1:ws[p].sort=sort
      ·have HB1:Hid (ws[p].sort=sort):=hb1;rw[hb1]at q1;clear hb1;by_cases hb2:ws[p].text=ss[k]
       ·have HB2:Hid (ws[p].text=ss[k]):=hb2;rw[hb2]at q2;clear hb2;have HJ:Hid (Jt (tok ws[p])):=(H2.out _ (h.ok _ (ZWX hpw))).2 ⟨HB1.out,by rw[HB2.out];exact ZWX hkl⟩;go_wp2;go_quiet (fail);go_wp2_with fail;refine(hI same i p _ (hC2.drew _) U U U (by have:=ZiB same;omega)).mono ?_;rintro e w3 ⟨v3,rfl,ZA,hK3,ZH⟩;rw[Int.toNat_natCast]at ZH;go_wp2_with fail;refine(hI alone (p+1) j _ ZA U U U (by have:=ZiB alone;omega)).mono ?_;rintro e w4 ⟨v4,rfl,ZB,hK4,Yx⟩;rw[Int.toNat_natCast]at Yx;have Zdr:Zb M wr w4:=((Zb.drew M _ _).trans hK3).trans hK4;have hKW:=hK2.trans Zdr;have JH:=hA2.keep Zdr;have Q7:Hid (Zbg same alone Jt (ws.map tok) i j p->Em M N w4 u15 (∀k',k'<k+1->∀(hk:k'<ss.length) (hl:p<ws.length),ws[p].sort=sort->ws[p].text=ss[k']->Zbg same alone Jt (ws.map tok) i j p) (D same (sw ws i j))):=by
         intro hnc;rcases JH with⟨e,_⟩|JH
         ·exact .inl ⟨e,fun _ _ _ _ _ _=>hnc⟩
         ·exact .inr JH
        clear JH;rcases ZH with⟨rfl,ZK⟩|⟨b3,t3,rfl,hb3,hp3,hd3⟩
        ·have UT:Hid (Zbg same alone Jt (ws.map tok) i j p):=fun u _ _ h _=>ZK h;clear ZK;go_wp2;go_roundg (ss.length-(k+1)+1);case measure=>omega
         case rel=>exact ZTY
        ·rcases Yx with⟨rfl,YH⟩|⟨b4,t4,rfl,hb4,XR,hd4⟩
         ·have JJ:Hid (Zbg same alone Jt (ws.map tok) i j p):=fun u _ _ _=>YH;clear YH;go_wp2;go_roundg (ss.length-(k+1)+1);case measure=>omega
          case rel=>exact ZTX
         ·have q5:=(HS.out.keep hKW).2 k hkl;go_wp2;go_roundg (ss.length-(k+1)+1);case measure=>omega
          case rel=>
           have hM:=ZB.ZN;have hN:=ZB.Zw;have Ka:=hp3.keep hK4;refine⟨k+1,U,rfl,ZPp,(ZB.alloc _).alloc _,(hKW.trans (Zb.alloc M _ _)).trans (Zb.alloc M _ _),.inr ⟨_,_,rfl,?_,EK hM hN {kind:=ss[k]} Ka XR,?_⟩⟩
           ·simp;omega
           ·have e:=H4.out _ ws[p] _ _ _ HJ.out hd3 hd4;rw[HB2.out]at e;exact ZWu
       ·have hb3:(ws[p].text==ss[k])=false:=by simpa using hb2
        go_wp2;go_quiet (fail);go_wp2_with fail;go_roundg (ss.length-(k+1)+1);case measure=>omega
        case rel=>
         refine⟨k+1,U,rfl,ZPp,hC2.drew _,hK2.trans (Zb.drew M _ _),?_⟩;rcases hA2.keep (Zb.drew M _ _)with⟨e,hn⟩|hA
         ·refine .inl ⟨e,fun k' hk' hk2 hl e1 e2=>?_⟩;by_cases hkk:k'=k
          ·subst hkk;exact absurd e2 hb2
          ·exact hn k' U hk2 hl e1 e2
         ·exact .inr hA
      ·go_wp2;go_quiet (fail);go_wp2;go_roundg (ss.length-(k+1)+1);case measure=>omega
       case rel=>
        refine⟨k+1,U,rfl,ZPp,hC2.drew _,hK2.trans (Zb.drew M _ _),?_⟩;rcases hA2.keep (Zb.drew M _ _)with⟨e,hn⟩|hA
        ·exact .inl ⟨e,fun k' hk' hk2 hl e1 e2=>absurd e1 hb1⟩
        ·exact .inr hA
     ·go_wp2;go_roundg (j-(p+1)+1);case measure=>omega
      case rel=>
       refine⟨p+1,U,U,rfl,ZPp,hC2,hK2,?_⟩;rcases hA2 with⟨e,hn⟩|hA
       ·refine .inl ⟨e,Y4.out.1,fun q h1 h2=>?_⟩;by_cases hqp:q=p
        ·subst hqp;intro u hu hju;obtain⟨hl,rfl⟩:=ZQ hu;obtain⟨e1,e2⟩:=(H2.out _ (h.ok _ (ZWX hl))).1 hju;obtain⟨k',hk',e3⟩:=ZX4 e2;exact hn k' U hk' hl e1 e3.symm _ hu hju
        ·exact Y4.out.2 q h1 U
       ·exact .inr hA
   ·go_wp2;go_ret;exact⟨_,rfl,hC,hK,.inl ⟨rfl,Zvh HL.out H1.out ZQi⟩⟩
  ·by_cases hlt:p<j<;>
    (go_wp2;go_ret;exact⟨_,rfl,hC,hK,.inr ⟨b,t,rfl,hb,hp,hd⟩⟩)
end
end Go.Proofs.YthmlacabmlghbaaGreatDoor
