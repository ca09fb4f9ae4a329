import Derived.Test.YthmlacabmlghbaaGreatDoorBgJa10
set_option maxRecDepth 100000
set_option maxHeartbeats 8000000
set_option linter.unusedSimpArgs false
set_option linter.unusedVariables false
namespace Go.Proofs.YthmlacabmlghbaaGreatDoor
open Go.Proofs.Tryz
theorem ZUl{p:Prop}(h:p:=by go_enter func48,ntmps48;go_wp2_with fail;go_ret;exact⟨rfl,Zb.refl _ _,by rw[Jr.or_none];exact hj⟩):p:=h
theorem ZWv{p:Prop}(h:p:=by rw[e]at z0;clear e;go_enter func48,ntmps48;go_wp2_with fail;refine hagg.mono ?_;rintro e w1 ⟨rfl,hK1,hj1⟩;go_wp2_with fail;go_ret;exact⟨rfl,hK1,hj1⟩):p:=h
theorem ZUG{p:Prop}(h:p:=by go_wp2_with fail;go_ret;exact⟨ZQP,hB.trans (hB1.mono hB.size)⟩):p:=h
theorem ZSx{p:Prop}(h:p:=by clear HR;go_wp2_with fail;go_ret;exact⟨by rw[HR2.out];first|done|rfl,hB⟩):p:=h
theorem ZUS{p:Prop}(h:p:=by go_wp2_with fail;refine(Eh J Zj _ _ _ hj2).mono ?_;rintro e w4 ⟨rfl,hK4,X5⟩;go_wp2_with fail;go_end0;exact⟨rfl,(hK1.trans hK2).trans hK4,Jg.eq X5 ZRV⟩):p:=h
open Go.RowKit
theorem ZKb(J b q:Nat)(Zj:Value)(r:Jr)(s:Sc)(up:List Sc)(W:World)(hj:Jg J Zj r W)(hs:YJ (s::up) [J] W (.pointer (some ⟨b,0,none⟩)))
  (z6:W.cell? ⟨q,6,none⟩=some (.bool true))(XT:q≠J):
  Calls prog 78 #[.pointer (some ⟨J,0,none⟩),.pointer (some ⟨q,0,none⟩),.pointer (some ⟨b,0,none⟩)] W fun e W'=>
   e= .returned (.string ⟨Xo.toArray⟩)/\Zb J W W'/\Jg J Zj (r.or {lost:=decide (s.phase≠YV)}) W':=by
 obtain⟨j0,j1,j2⟩:=hj.cells;have hf:=hj.frozen 1;obtain⟨b',nv,tv,uv,gv,e,hbJ,ho,h1,h2,h3,h4⟩:=hs;cases e;obtain⟨y0,y1,y2,y3,y4⟩:=cells5 ho;by_cases Yy:s.phase=YV
 ·have b0:(s.phase== [103,114,111,117,112])=true:=by rw[Yy];rfl
  have Jl:Hid (decide (s.phase≠YV)=false):=ZXD (fun h=>h Yy);clear Yy h1 h2 h3 h4;go_enter func78,ntmps78;go_wp2_with fail;go_ret;exact⟨rfl,Zb.refl _ _,by rw[Jl.out,Jr.or_none];exact hj⟩
 ·have b0:(s.phase== [103,114,111,117,112])=false:=by simpa[YV]using Yy
  have Jl:Hid (decide (s.phase≠YV)=true):=ZXX Yy;clear Yy h1 h2 h3 h4;go_enter func78,ntmps78;go_wp2_with fail;go_ret;exact⟨rfl,Zb.set _ _ _ _,by rw[Jl.out];exact hj.lost⟩
def jxI(x:Tr)(ss:List Sc):Jr:=(jx x ss).2.or {ZG:= !Xx (jx x ss).1 Xo}
def K9:List Tr->List Sc->Jr
 | [],_=>{}
 |x::l,ss=>(jxI x ss).or (K9 l ss)
theorem ZuB(ss:List Sc):∀k:Tr,EJ k ss=K9 (elems k) ss
 | .nil=>by simp[EJ,elems,K9]
 | .cons h t=>by rw[EJ,ZuB ss t];simp[elems,K9,jxI]
 | .node _ _ _ _ _ _ _=>by simp[EJ,elems,K9]
theorem ZuA(ss:List Sc)(x:Tr):∀l:List Tr,K9 (l++ [x]) ss=(K9 l ss).or (jxI x ss)
 | []=>by simp[K9,Jr.or_none,Jr.none_or]
 |y::l=>by rw[List.cons_append,K9,ZuA ss x l,K9,Jr.or_assoc]
theorem Jg.eq{J:Nat}{Zj:Value}{a b:Jr}{W:World}(h:Jg J Zj a W)(e:a=b):Jg J Zj b W:=e▸h
theorem ZKj(J b q:Nat)(f:Fl)(k:Tr)(vk vi vf vg vw vh Zj:Value)(r:Jr)(ss:List Sc)(W:World)(hj:Jg J Zj r W)(hs:YJ ss [J] W (.pointer (some ⟨b,0,none⟩)))(hk:∀y∈ss,Ep y)(hl:ss.length<=1000000)
  (Zn:W.heap[q]? =some (.cells (YF f vk vi vf vg vw vh) XY (0,0)))(XT:q≠J)(hsl:Z8 J b W k vk)(hg:Yp k)(hlk:k.len<=400)(hX:∀x∈elems k,Ze1 x)
  (h1:(f.kind== [110,117,109])=false)(h2:(f.kind== [116,101,120,116])=false)(h3:(f.kind== [110,117,108,108])=false)(h4:(f.kind== [99,111,108,117,109,110])=false)
  (h5:(f.kind== [99,111,117,110,116])=false)(h6:(f.kind== [115,117,109])=false)(h7:(f.kind== [109,105,110])=false)(h8:(f.kind== [109,97,120])=false):
  Calls prog 48 #[.pointer (some ⟨J,0,none⟩),.pointer (some ⟨q,0,none⟩),.pointer (some ⟨b,0,none⟩)] W fun e W'=>e= .returned (.string ⟨Xo.toArray⟩)/\Zb J W W'/\Jg J Zj (r.or (EJ k ss)) W':=by
 rw[ZuB];obtain⟨z0,z1,z2,z3,z4,z5,z6,z7,z8,z9,Jk,Qv,z12,Qw,Qx,Qy⟩:=QB Zn;obtain⟨ak,ck,rfl,hcell⟩:=ZcW hsl;have Zlu:Hid (∀w',Zb J W w'->∀j (hj:j<(elems k).length),∃g u,ak=some ⟨g,0,none⟩/\w'.cell? ⟨g,j,none⟩=some u/\Zr J b w' (elems k)[j] u):=fun w' hB j hj=>by
  obtain⟨a2,c2,e2,hr⟩:=Z8.keep hsl hB;obtain⟨a3,c3,e3,Zet⟩:=ZcW (Z8.keep hsl hB);cases e3;obtain⟨g,u,e,hc,hp⟩:=Zet j hj;exact⟨g,u,e,hc,hp⟩
 have Zb6:Hid (∀w',Zb J W w'->w'.heap[q]? =some (.cells (YF f (.slice ak k.len ck) vi vf vg vw vh) XY (0,0))):=fun w' h=>h.obj XT Zn;have hge:=Zdo k hg;have hel:=Ey k;have Eo:Hid (∀w' (hK:Zb J W w') r1,Jg J Zj r1 w'->∀x∈elems k,∀u,Zr J b w' x u->Calls prog 48 #[.pointer (some ⟨J,0,none⟩),u,.pointer (some ⟨b,0,none⟩)] w' fun e W'=>e= .returned (.string ⟨(jx x ss).1.toArray⟩)/\Zb J w' W'/\Jg J Zj (r1.or (jx x ss).2) W'):=
  fun w' hK r1 hj1 x hx u hp=>hX x hx J b Zj r1 ss w' u hj1 (YJ.same (Same.X6 hK) _ _ _ (fun _ h=>h) hs) hk hl hp (hge x hx)
 have HJ:=(show Hid _ from hj);clear hj hs hk hcell hsl hg hX hge;generalize k.len=nk at *;clear Qv z12 Qw Qx Qy Zn;go_enter func48,ntmps48;go_wp2_with fail;go_loopg [13] (nk+1) (fun gk iv wr=>∃j:Nat,j<=nk/\gk=nk-j+1/\iv= .int .i64 j/\Zb J W wr/\Hid (Jg J Zj (r.or (K9 ((elems k).take j) ss)) wr));case atStart=>exact⟨0,U,U,rfl,Zb.refl _ _,Jg.eq HJ.out (by rw[List.take_zero,K9,Jr.or_none])⟩
 case round=>
  obtain⟨j,hj,rfl,rfl,hK,hJ⟩:=hrel;clear z0 z1 z2 z3 z4 z5 z6 z7 z8 z9 Jk;obtain⟨z0,z1,z2,z3,z4,z5,z6,z7,z8,z9,Jk,Qv,z12,Qw,Qx,Qy⟩:=QB (Zb6.out wr hK);clear Qv z12 Qw Qx Qy;by_cases hlt:j<nk
  ·obtain⟨g',u,rfl,hc1,hp1⟩:=Zlu.out wr hK j U;have hxm:(elems k)[j]' U∈elems k:=ZWX _;have hcall:=Eo.out wr hK _ hJ.out _ hxm u hp1;obtain⟨o,rfl⟩:=EN hp1;have Xe:Hid (r.or (K9 ((elems k).take (j+1)) ss)=((r.or (K9 ((elems k).take j) ss)).or (jx ((elems k)[j]' U) ss).2).or {ZG:= !Xx (jx ((elems k)[j]' U) ss).1 Xo}):=by
    show _=_;rw[ZXA U,ZuA,jxI,<-Jr.or_assoc,<-Jr.or_assoc]
   clear hp1;generalize jx ((elems k)[j]' U) ss=R at hcall Xe;obtain⟨T,RX⟩:=R;go_wp2_with fail;refine hcall.mono ?_;rintro e w1 ⟨rfl,hK1,hj1⟩;go_wp2_with fail;refine(Zf2 T [105,110,116] _).mono ?_;rintro e w2 ⟨rfl,rfl⟩;go_wp2_with fail;refine(Eh J Zj _ _ _ hj1).mono ?_;rintro e w3 ⟨rfl,hK3,XH⟩;go_wp2_with fail;go_roundg (nk-(j+1)+1);case measure=>omega
   case rel=>exact⟨j+1,U,rfl,ZPp,(hK.trans hK1).trans hK3,Jg.eq XH Xe.out.symm⟩
  ·obtain rfl:j=nk:=by omega
   go_wp2_with fail;go_ret;exact⟨rfl,hK,Jg.eq hJ.out ZRU⟩
theorem ZB3{k:Tr}(h:Yp k)(hl:1<=k.len):∃x t,k= .cons x t:=by
 cases k with
 |nil=>simp[Tr.len]at hl
 |cons x t=>exact⟨x,t,rfl⟩
 |node=>rw[Yp]at h;exact h.elim
theorem ZzE{f:Fl}(hk:f.kind∈Yf)(hs:f.star=false):arity f=1:=by
 unfold Yf at hk;simp at hk;rcases hk with h|h|h|h<;>simp[arity,h,hs,Yf]
theorem ZKh(f:Fl)(k i fr g w h:Tr)(J b:Nat)(Zj:Value)(r:Jr)(s:Sc)(up:List Sc)(W:World)(q:Nat)(hj:Jg J Zj r W)(hs:YJ (s::up) [J] W (.pointer (some ⟨b,0,none⟩)))(hk:∀y∈s::up,Ep y)(hl:(s::up).length<=1000000)
  (hp:Zr J b W (.node f k i fr g w h) (.pointer (some ⟨q,0,none⟩)))(hg:Good (.node f k i fr g w h))(hK:∀x∈elems k,Ze1 x):
  Calls prog 48 #[.pointer (some ⟨J,0,none⟩),.pointer (some ⟨q,0,none⟩),.pointer (some ⟨b,0,none⟩)] W fun e W'=>e= .returned (.string ⟨(jx (.node f k i fr g w h) (s::up)).1.toArray⟩)/\Zb J W W'/\Jg J Zj (r.or (jx (.node f k i fr g w h) (s::up)).2) W':=by
 rw[X7]at hp;obtain⟨b',vk,vi,vf,vg,vw,vh,e,XT,hqb,Zn,s1,s2,s3,s4,p1,p2⟩:=hp;cases e;rw[Good]at hg;obtain⟨hn,gk,_⟩:=hg;have hz:=QB Zn;rw[jx];by_cases k1:f.kind=ZcH
 ·rw[ZWR k1];have z0:=hz.1;rw[k1]at z0;unfold ZcH at z0;clear hz hk hK s1 s2 s3 s4 p1 p2 Zn gk hn;exact ZUl
 ·rw[ZWQ k1];by_cases k2:f.kind=ZaS\/f.kind=Jd
  ·rw[ZWR k2];have z0:=hz.1;have HKD:Hid (f.kind=ZaS\/f.kind=Jd):=k2;rcases k2 with k2|k2;all_goals
    rw[k2]at z0 ⊢;first|unfold ZaS at z0|unfold Jd at z0
    clear hz hk hK s1 s2 s3 s4 p1 p2 Zn gk hn k1 k2;exact ZUl
  ·rw[ZWQ k2];by_cases k3:f.kind=ZfI
   ·rw[ZWR k3];have z0:=hz.1;rw[k3]at z0;exact ZKi J b q Zj r (s::up) W f.Zd f.text hj hs hk hl z0 hz.2.2.1 hz.2.2.2.1
   ·rw[ZWQ k3];by_cases k4:f.kind∈Yf
    ·rw[ZWR k4];have z0:=hz.1;cases hst:f.star with
     |true=>
      rw[ZWR rfl];have hagg:=ZKb J b q Zj r s up W hj hs (by rw[<-hst];exact hz.2.2.2.2.2.2.1) XT;have hk4:f.kind= [99,111,117,110,116]\/f.kind= [115,117,109]\/f.kind= [109,105,110]\/f.kind= [109,97,120]:=by simpa[Yf]using k4
      clear hz hk hK s1 s2 s3 s4 p1 p2 Zn gk hn k1 k2 k3 k4 hj hs hst;simp only[ZaX]at hagg ⊢;rcases hk4 with e|e|e|e;all_goals
       exact ZWv
     |false=>
      have har:=hn.ar;rw[ZzE k4 hst]at har;obtain⟨x,kt,rfl⟩:=ZB3 gk har;rw[Yp]at gk;have hagg:=ZKa J b q f x kt vk vi vf vg vw vh Zj r s up W hj hs hk hl Zn hqb XT hst s1 gk.1 (hK x ZQM);rw[ZWQ ZPm];simp only[Qo,ZaX];have hk4:f.kind= [99,111,117,110,116]\/f.kind= [115,117,109]\/f.kind= [109,105,110]\/f.kind= [109,97,120]:=by simpa[Yf]using k4
      clear hz hk hK s1 s2 s3 s4 p1 p2 Zn gk hn k1 k2 k3 k4 hj hs hst har;generalize (if f.kind=Kj\/f.kind=Ki then(jx x (inside (s::up))).1 else Xo)=T at *;rcases hk4 with e|e|e|e;all_goals
       exact ZWv
    ·rw[ZWQ k4];have k4':¬f.kind= [99,111,117,110,116]/\¬f.kind= [115,117,109]/\¬f.kind= [109,105,110]/\¬f.kind= [109,97,120]:=by simpa[Yf]using k4
     have nb:∀x:Za,¬f.kind=x->(f.kind==x)=false:=fun x hx=>ZQN
     exact ZKj J b q f k vk vi vf vg vw vh Zj r (s::up) W hj hs hk hl Zn XT s1 gk hn.lk hK (nb _ k1) (nb _ fun e=>k2 (.inl e)) (nb _ fun e=>k2 (.inr e)) (nb _ k3) (nb _ k4'.1) (nb _ k4'.2.1) (nb _ k4'.2.2.1) (nb _ k4'.2.2.2)
theorem ZKk(t:Tr):Ze1 t/\∀x∈elems t,Ze1 x:=by
 induction t with
 |nil=>exact⟨fun J b Zj r ss W tv hj hs hk hl hp hg=>ZQO,fun x hx=>ZQc⟩
 |cons x t ih1 ih2=>
  refine⟨fun J b Zj r ss W tv hj hs hk hl hp hg=>ZQO,fun y hy=>?_⟩;rcases ZW3.1 hy with rfl|hy
  ·exact ih1.1
  ·exact ih2.2 y hy
 |node f k i fr g w h ik ii ifr ig iw ih=>
  refine⟨fun J b Zj r ss W tv hj hs hk hl hp hg=>?_,fun x hx=>ZQc⟩;have hp':=hp;rw[X7]at hp;obtain⟨q,_,_,_,_,_,_,rfl,_⟩:=hp;cases ss with
  |nil=>cases hs
  |cons s up=>exact ZKh f k i fr g w h J b Zj r s up W q hj hs hk hl hp' hg ik.2
theorem ZiA(t:Tr):Ze1 t:=(ZKk t).1
def EA(s:Za):List Tb->Nat->Int
 | [],_=> -1
 |t::r,k=>if t.name=s then(k:Int)else EA s r (k+1)
theorem ZKm(X:List Nat)(v:Value)(l:List Tb)(s:Za)(W:World)(hl:l.length<=90000)(hv:Vz X W v l):
  Calls prog 16 #[v,.string ⟨s.toArray⟩] W fun e W'=>e= .returned (.int .i64 (EA s l 0))/\∃n,W'=W.drewN n:=by
 obtain⟨a,cap,rfl,hc⟩:=hv;have HC:Hid (∀i (h:i<l.length),∃g,a=some ⟨g,0,none⟩/\W.cell? ⟨g,i*4,none⟩=some (.string ⟨l[i].name.toArray⟩)):=fun i h=>by
  obtain⟨g,cv,tv,e,h1⟩:=hc i h;exact⟨g,e,h1.nm⟩
 generalize hR:EA s l 0=R;have HR:=(show Hid _ from hR);clear hc hR;go_enter func16,ntmps16;go_wp2;go_loopg [5] (l.length+1) (fun gk iv wr=>∃k:Nat,k<=l.length/\gk=l.length-k+1/\iv= .int .i64 k/\(∃n,wr=W.drewN n)/\Hid (EA s (l.drop k) k=R));case atStart=>exact⟨0,U,U,rfl,⟨0,rfl⟩,HR⟩
 case round=>
  obtain⟨k,hk,rfl,rfl,⟨n,rfl⟩,hn⟩:=hrel;by_cases hlt:k<l.length
  ·obtain⟨g,rfl,cf⟩:=HC.out k hlt;have HN:Hid ((if l[k].name=s then(k:Int)else EA s (l.drop (k+1)) (k+1))=R):=by show _=_;rw[<-hn.out,ZXl hlt,EA]
   by_cases he:l[k].name=s
   ·have b0:(l[k].name==s)=true:=by simpa using he
    have XX:Hid ((k:Int)=R):=by show _=_;rw[<-HN.out,ZWR he]
    clear he HN hn HR;go_wp2;go_ret;exact⟨by rw[<-XX.out];rfl,_,rfl⟩
   ·have b0:(l[k].name==s)=false:=by simpa using he
    have XX:Hid (EA s (l.drop (k+1)) (k+1)=R):=by show _=_;rw[<-HN.out,ZWQ he]
    clear he HN hn HR;go_wp2;go_roundg (l.length-(k+1)+1);case measure=>omega
    case rel=>exact⟨k+1,U,rfl,ZPp,⟨_,rfl⟩,XX⟩
  ·obtain rfl:k=l.length:=by omega
   have XX:Hid ((-1:Int)=R):=by show _=_;rw[<-hn.out,ZYd,EA]
   clear hn HR;go_wp2;go_ret;exact⟨by rw[<-XX.out];rfl,_,rfl⟩
theorem Zsg(s:Za):∀(l:List Tb) (k:Nat),(JP l s=none/\EA s l k= -1)\/(∃i t,l[i]? =some t/\JP l s=some t/\EA s l k=((k+i:Nat):Int))
 | [],k=>.inl ⟨rfl,rfl⟩
 |t::r,k=>by
  by_cases h:t.name=s
  ·exact .inr ⟨0,t,rfl,by simp[JP,h],by simp[EA,h]⟩
  ·rcases Zsg s r (k+1)with⟨h1,h2⟩|⟨i,t',h1,h2,h3⟩
   ·exact .inl ⟨by simp only[JP]at h1 ⊢;rw[List.find?_cons_of_neg ZPv];exact h1,by rw[EA,ZWQ h];exact h2⟩
   ·exact .inr ⟨i+1,t',ZQr,by simp only[JP]at h2 ⊢;rw[List.find?_cons_of_neg ZPv];exact h2,by rw[EA,ZWQ h,h3];congr 1;omega⟩
theorem ZmH:∀k:Tr,Yp k->ZL k=(elems k).any ZL
 | .nil,_=>by simp[ZL,elems]
 | .cons h t,hg=>by
  rw[Yp]at hg;simp only[ZL,elems,List.any_cons];rw[ZmH t hg.2]
 | .node _ _ _ _ _ _ _,hg=>by rw[Yp]at hg;exact hg.elim
def ZiO(t:Tr):Prop:=∀(M N:Nat) (W:World) (v:Value),Zr M N W t v->Good t->Calls prog 76 #[v] W fun e w'=>e= .returned (.bool (ZL t))/\Below W.heap.size W w'
theorem ZKc(f:Fl)(k i fr g w h:Tr)(hX:∀x∈elems k,ZiO x):ZiO (.node f k i fr g w h):=by
 intro M N W v hp hg;rw[X7]at hp;obtain⟨q,vk,vi,vf,vg,vw,vh,rfl,hqM,hqN,Zn,s1,s2,s3,s4,p1,p2⟩:=hp;rw[Good]at hg;obtain⟨hn,gk,_⟩:=hg;have hlk:=hn.lk;have hel:=Ey k;have hge:=Zdo k gk;obtain⟨z0,z1,z2,z3,z4,z5,z6,z7,z8,z9,Jk,Qv,z12,Qw,Qx,Qy⟩:=QB Zn;by_cases k4:f.kind∈Yf
 ·have hk4:f.kind= [99,111,117,110,116]\/f.kind= [115,117,109]\/f.kind= [109,105,110]\/f.kind= [109,97,120]:=by simpa[Yf]using k4
  have HE:Hid (ZL (.node f k i fr g w h)=true):=by show _=_;rw[ZL];simp[k4]
  generalize ZL (.node f k i fr g w h)=R at *;clear k4 hX s1 s2 s3 s4 p1 p2 Zn hn gk hge;rcases hk4 with e|e|e|e;all_goals
   rw[e]at z0;clear e;go_enter func76,ntmps76;go_wp2_with fail;go_ret;exact⟨by rw[HE.out];first|done|rfl,ZWT _ _⟩
 ·have k4':¬f.kind= [99,111,117,110,116]/\¬f.kind= [115,117,109]/\¬f.kind= [109,105,110]/\¬f.kind= [109,97,120]:=by simpa[Yf]using k4
  have nb:∀x:Za,¬f.kind=x->(f.kind==x)=false:=fun x hx=>ZQN
  have b1:=nb _ k4'.1;have b2:=nb _ k4'.2.1;have b3:=nb _ k4'.2.2.1;have b4:=nb _ k4'.2.2.2;have HE:Hid (ZL (.node f k i fr g w h)=(elems k).any ZL):=by show _=_;rw[ZL,ZmH k gk];simp[k4]
  generalize ZL (.node f k i fr g w h)=R at *;obtain⟨ak,ck,rfl,hcell⟩:=ZcW s1;have Eo:Hid (∀w',Below W.heap.size W w'->∀j (hj:j<(elems k).length),∃g u,ak=some ⟨g,0,none⟩/\w'.cell? ⟨g,j,none⟩=some (.pointer u)/\Calls prog 76 #[.pointer u] w' fun e w2=>e= .returned (.bool (ZL (elems k)[j]))/\Below w'.heap.size w' w2):=fun w' hB j hj=>by
   obtain⟨g,u,e,hc,hp⟩:=hcell j hj;obtain⟨o,rfl⟩:=EN hp;exact⟨g,o,e,(hB.cell (p:=⟨g,j,none⟩) (ZWW _ _ hc)).trans hc,hX _ (ZWX hj) M N w' _ (hp.keep (Zb.of_below hB)) (hge _ (ZWX hj))⟩
  have Zb6:Hid (∀w',Below W.heap.size W w'->w'.heap[q]? =some (.cells (YF f (.slice ak k.len ck) vi vf vg vw vh) XY (0,0))):=fun w' hB=>(hB.block q (ZWU.1 Zn).1).trans Zn;clear k4 k4' nb hX s1 s2 s3 s4 p1 p2 Zn hn gk hge hcell;generalize k.len=nk at *;go_enter func76,ntmps76;go_wp2_with fail;go_loopg [3] (nk+1) (fun gk iv wr=>∃j:Nat,j<=nk/\gk=nk-j+1/\iv= .int .i64 j/\Below W.heap.size W wr/\Hid (R=((elems k).drop j).any ZL));case atStart=>exact⟨0,U,U,rfl,ZWT _ _,HE⟩
  case round=>
   obtain⟨j,hj,rfl,rfl,hB,hr⟩:=hrel;clear z0 z1 z2 z3 z4 z5 z6 z7 z8 z9 Jk Qv z12 Qw Qx Qy;obtain⟨z0,z1,z2,z3,z4,z5,z6,z7,z8,z9,Jk,Qv,z12,Qw,Qx,Qy⟩:=QB (Zb6.out wr hB);by_cases hlt:j<nk
   ·obtain⟨g',u,rfl,hc1,hcall⟩:=Eo.out wr hB j U;have HR:Hid (R=(ZL ((elems k)[j]' U)||((elems k).drop (j+1)).any ZL)):=by show _=_;rw[hr.out,ZXl (by omega:j<(elems k).length),List.any_cons]
    clear hr HE;generalize ZL ((elems k)[j]' U)=c at hcall HR;go_wp2_with fail;refine hcall.mono ?_;rintro e w1 ⟨rfl,hB1⟩;cases c with
    |true=>
     exact ZUG
    |false=>
     go_wp2_with fail;go_roundg (nk-(j+1)+1);case measure=>omega
     case rel=>exact ZTV
   ·obtain rfl:j=nk:=by omega
    have HR:Hid (R=false):=by show _=_;rw[hr.out,ZYB U];rfl
    clear hr HE;go_wp2_with fail;go_ret;exact⟨by rw[HR.out];first|done|rfl,hB⟩
theorem ZKd(t:Tr):ZiO t/\∀x∈elems t,ZiO x:=by
 induction t with
 |nil=>exact⟨fun M N W v hp hg=>ZQO,fun x hx=>ZQc⟩
 |cons x t ih1 ih2=>
  refine⟨fun M N W v hp hg=>ZQO,fun y hy=>?_⟩;rcases ZW3.1 hy with rfl|hy
  ·exact ih1.1
  ·exact ih2.2 y hy
 |node f k i fr g w h ik ii ifr ig iw ih=>exact⟨ZKc f k i fr g w h ik.2,fun x hx=>ZQc⟩
theorem ZKo(M N:Nat)(f:Fl)(k i fr g w h:Tr)(W:World)(q:Nat)(hp:Zr M N W (.node f k i fr g w h) (.pointer (some ⟨q,0,none⟩)))(hg:Good (.node f k i fr g w h)):
  Calls prog 47 #[.pointer (some ⟨q,0,none⟩)] W fun e w'=>e= .returned (.bool (KZ i g))/\Below W.heap.size W w':=by
 rw[X7]at hp;obtain⟨q',vk,vi,vf,vg,vw,vh,e,hqM,hqN,Zn,s1,s2,s3,s4,p1,p2⟩:=hp;cases e;rw[Good]at hg;obtain⟨hn,gk,gi,gf,gg,_⟩:=hg;have hli:=hn.li;have hlg:=hn.lg;have hel:=Ey i;have hge:=Zdo i gi;obtain⟨z0,z1,z2,z3,z4,z5,z6,z7,z8,z9,Jk,Qv,z12,Qw,Qx,Qy⟩:=QB Zn;have HE:Hid (KZ i g=((elems i).any ZL||decide (0<g.len))):=by show _=_;rw[KZ,ZmH i gi]
 generalize KZ i g=R at *;obtain⟨ak,ck,rfl,hcell⟩:=ZcW s2;obtain⟨ag,cg,rfl,_⟩:=s4;have Eo:Hid (∀w',Below W.heap.size W w'->∀j (hj:j<(elems i).length),∃g u,ak=some ⟨g,0,none⟩/\w'.cell? ⟨g,j,none⟩=some (.pointer u)/\Calls prog 76 #[.pointer u] w' fun e w2=>e= .returned (.bool (ZL (elems i)[j]))/\Below w'.heap.size w' w2):=fun w' hB j hj=>by
  obtain⟨g,u,e,hc,hp⟩:=hcell j hj;obtain⟨o,rfl⟩:=EN hp;exact⟨g,o,e,(hB.cell (p:=⟨g,j,none⟩) (ZWW _ _ hc)).trans hc,(ZKd _).1 M N w' _ (hp.keep (Zb.of_below hB)) (hge _ (ZWX hj))⟩
 have Zb6:Hid (∀w',Below W.heap.size W w'->w'.heap[q]? =some (.cells (YF f vk (.slice ak i.len ck) vf (.slice ag g.len cg) vw vh) XY (0,0))):=fun w' hB=>(hB.block q (ZWU.1 Zn).1).trans Zn;clear s1 s3 p1 p2 Zn hn gk gi gf gg hge hcell;generalize i.len=ni at *;generalize g.len=ng at *;go_enter func47,ntmps47;go_wp2_with fail;go_loopg [3] (ni+1) (fun gk iv wr=>∃j:Nat,j<=ni/\gk=ni-j+1/\iv= .int .i64 j/\Below W.heap.size W wr/\Hid (R=(((elems i).drop j).any ZL||decide (0<ng))));case atStart=>exact⟨0,U,U,rfl,ZWT _ _,HE⟩
 case round=>
  obtain⟨j,hj,rfl,rfl,hB,hr⟩:=hrel;clear z0 z1 z2 z3 z4 z5 z6 z7 z8 z9 Jk Qv z12 Qw Qx Qy;obtain⟨z0,z1,z2,z3,z4,z5,z6,z7,z8,z9,Jk,Qv,z12,Qw,Qx,Qy⟩:=QB (Zb6.out wr hB);by_cases hlt:j<ni
  ·obtain⟨g',u,rfl,hc1,hcall⟩:=Eo.out wr hB j U;have HR:Hid (R=((ZL ((elems i)[j]' U)||((elems i).drop (j+1)).any ZL)||decide (0<ng))):=by show _=_;rw[hr.out,ZXl (by omega:j<(elems i).length),List.any_cons]
   clear hr HE;generalize ZL ((elems i)[j]' U)=c at hcall HR;go_wp2_with fail;refine hcall.mono ?_;rintro e w1 ⟨rfl,hB1⟩;cases c with
   |true=>
    exact ZUG
   |false=>
    go_wp2_with fail;go_roundg (ni-(j+1)+1);case measure=>omega
    case rel=>exact ZTV
  ·obtain rfl:j=ni:=by omega
   have HR:Hid (R=decide (0<ng)):=by show _=_;rw[hr.out,ZYB U];rfl
   clear hr HE;by_cases h0:0<ng
   ·have b0:(0:Int)<(ng:Int):=by omega
    have HR2:Hid (R=true):=by show _=_;rw[HR.out];simpa using h0
    exact ZSx
   ·have HR2:Hid (R=false):=by show _=_;rw[HR.out];simpa using h0
    obtain rfl:ng=0:=U
    exact ZSx
def sz:Tr->Nat
 | .nil=>0
 | .cons h t=>sz h+sz t
 | .node _ k i fr g w h=>1+sz k+sz i+sz fr+sz g+sz w+sz h
structure Zc2 (db:List Tb):Prop where
 le:db.length<=400
 tab:∀t∈db,t.Ze.length<=6/\t.types.length=t.Ze.length
 pos:∀t∈db,1<=t.Ze.length
structure JIn (J:Nat) (Zj:Value) (db:List Tb) (ss:List Sc) (sv:Value) (W:World):Prop where
 tabs:Vz [J] W Zj db
 db:Zc2 db
 sc:YJ ss [J] W sv
 ok:∀s∈ss,Ep s
theorem JIn.keep{J:Nat}{Zj:Value}{db:List Tb}{ss:List Sc}{sv:Value}{W W':World}(h:JIn J Zj db ss sv W)(hk:Zb J W W'):JIn J Zj db ss sv W':=
 ⟨h.tabs.same (Same.X6 hk) (fun _ h=>h),h.db,YJ.same (Same.X6 hk) _ _ _ (fun _ h=>h) h.sc,h.ok⟩
def UO(t:Tr):Prop:=∀(J b:Nat) (Zj:Value) (db:List Tb) (r:Jr) (ss:List Sc) (W:World) (tv:Value),Jg J Zj r W->JIn J Zj db ss (.pointer (some ⟨b,0,none⟩)) W->ss.length+sz t<=1000000->Zr J b W t tv->Good t->
 Calls prog 44 #[.pointer (some ⟨J,0,none⟩),tv,.pointer (some ⟨b,0,none⟩)] W fun e W'=>e= .returned (.tuple #[])/\Zb J W W'/\Jg J Zj (r.or (jc db t ss)) W'
def Zbk(t:Tr):Prop:=∀(J b:Nat) (Zj:Value) (db:List Tb) (r:Jr) (up:List Sc) (uv:Value) (W:World) (tv:Value),Jg J Zj r W->JIn J Zj db up uv W->up.length+sz t<=1000000->Zr J b W t tv->Good t->
 Calls prog 21 #[.pointer (some ⟨J,0,none⟩),tv,uv] W fun e W'=>∃v,e= .returned v/\Zb J W W'/\Jg J Zj (r.or (jq db t up).2) W'/\XF [J] W' v (jq db t up).1/\(jq db t up).1.length<=10000
def K7(db:List Tb):List Tr->List Sc->Jr
 | [],_=>{}
 |x::l,ss=>(jc db x ss).or (K7 db l ss)
theorem Zuq(db:List Tb)(ss:List Sc):∀k:Tr,jcs db k ss=K7 db (elems k) ss
 | .nil=>by simp[jcs,elems,K7]
 | .cons h t=>by rw[jcs,Zuq db ss t];simp[elems,K7]
 | .node _ _ _ _ _ _ _=>by simp[jcs,elems,K7]
theorem Zup(db:List Tb)(ss:List Sc)(x:Tr):∀l:List Tr,K7 db (l++ [x]) ss=(K7 db l ss).or (jc db x ss)
 | []=>by simp[K7,Jr.or_none,Jr.none_or]
 |y::l=>by rw[List.cons_append,K7,Zup db ss x l,K7,Jr.or_assoc]
theorem ZwK:∀(k x:Tr),x∈elems k->sz x<=sz k
 | .nil,x,hx=>ZQc
 | .cons h t,x,hx=>by
  rcases ZW3.1 hx with rfl|hx
  ·simp[sz]
  ·have:=ZwK t x hx;simp[sz];omega
 | .node _ _ _ _ _ _ _,x,hx=>ZQc
theorem ZmG(f:Fl)(k:Tr)(hf:f.kind= [97,110,100]\/f.kind= [111,114]\/f.kind= [110,111,116])(hX:∀x∈elems k,UO x):UO (nd f k):=by
 intro J b Zj db r ss W tv hj hI hl hp hg;unfold nd at *;rw[X7]at hp;obtain⟨q,vk,vi,vf,vg,vw,vh,rfl,XT,hqb,Zn,s1,s2,s3,s4,p1,p2⟩:=hp;rw[Good]at hg;obtain⟨hn,gk,_⟩:=hg;have hlk:=hn.lk;have hsz:sz k<1000000-ss.length:=by simp only[sz]at hl;omega
 rw[jc,ZWR hf,Zuq];obtain⟨ak,ck,rfl,hcell⟩:=ZcW s1;have Eo:Hid (∀w' (hK:Zb J W w') r1,Jg J Zj r1 w'->∀j (hj:j<(elems k).length),∃g u,ak=some ⟨g,0,none⟩/\w'.cell? ⟨g,j,none⟩=some (.pointer u)/\Calls prog 44 #[.pointer (some ⟨J,0,none⟩),.pointer u,.pointer (some ⟨b,0,none⟩)] w' fun e W'=>e= .returned (.tuple #[])/\Zb J w' W'/\Jg J Zj (r1.or (jc db (elems k)[j] ss)) W'):=fun w' hK r1 hj1 j hj=>by
  obtain⟨a3,c3,e3,Zet⟩:=ZcW (Z8.keep s1 hK);cases e3;obtain⟨g,u,e,hc,hp⟩:=Zet j hj;obtain⟨o,rfl⟩:=EN hp;have hm:(elems k)[j]∈elems k:=ZWX hj;exact⟨g,o,e,hc,hX _ hm J b Zj db r1 ss w' _ hj1 (hI.keep hK) (by have:=ZwK k _ hm;omega) hp (Zdo k gk _ hm)⟩
 have Zb6:Hid (∀w',Zb J W w'->w'.heap[q]? =some (.cells (YF f (.slice ak k.len ck) vi vf vg vw vh) XY (0,0))):=fun w' h=>h.obj XT Zn;have hel:=Ey k;have HJ:=(show Hid _ from hj);have z0:=(QB Zn).1;clear hj hI hcell s1 s2 s3 s4 p1 p2 gk hX Zn hn hl hsz;generalize k.len=nk at *;generalize hkd:f.kind=kd at *;have HKD:Hid (f.kind=kd):=hkd;clear hkd;rcases hf with rfl|rfl|rfl;all_goals
  go_enter func44,ntmps44;go_wp2_with fail;go_loopg [6] (nk+1) (fun gk iv wr=>∃j:Nat,j<=nk/\gk=nk-j+1/\iv= .int .i64 j/\Zb J W wr/\Hid (Jg J Zj (r.or (K7 db ((elems k).take j) ss)) wr));case atStart=>exact⟨0,U,U,rfl,Zb.refl _ _,Jg.eq HJ.out (by rw[List.take_zero,K7,Jr.or_none])⟩
  case round=>
   obtain⟨j,hj,rfl,rfl,hK,hJ⟩:=hrel;clear z0;obtain⟨z0,z1,z2,z3,z4,z5,z6,z7,z8,z9,Jk,Qv,z12,Qw,Qx,Qy⟩:=QB (Zb6.out wr hK);clear z0 Qv z12 Qw Qx Qy;by_cases hlt:j<nk
   ·obtain⟨g',u,rfl,hc1,hcall⟩:=Eo.out wr hK _ hJ.out j U;have Xe:Hid (r.or (K7 db ((elems k).take (j+1)) ss)=(r.or (K7 db ((elems k).take j) ss)).or (jc db ((elems k)[j]' U) ss)):=by
     show _=_;rw[ZXA U,Zup,<-Jr.or_assoc]
    generalize jc db ((elems k)[j]' U) ss=RX at hcall Xe;go_wp2_with fail;refine hcall.mono ?_;rintro e w1 ⟨rfl,hK1,hj1⟩;go_wp2_with fail;go_roundg (nk-(j+1)+1);case measure=>omega
    case rel=>exact⟨j+1,U,rfl,ZPp,hK.trans hK1,Jg.eq hj1 Xe.out.symm⟩
   ·obtain rfl:j=nk:=by omega
    go_wp2_with fail;go_end0;exact⟨rfl,hK,Jg.eq hJ.out ZRU⟩
theorem Zpk{M N:Nat}{W:World}{x y t:Tr}{v:Value}(h:Z8 M N W (.cons x (.cons y t)) v):∃g c u1 u2,v= .slice (some ⟨g,0,none⟩) (t.len+2) c/\g≠M/\g≠N/\W.cell? ⟨g,0,none⟩=some (.pointer u1)/\W.cell? ⟨g,1,none⟩=some (.pointer u2)/\Zr M N W x (.pointer u1)/\Zr M N W y (.pointer u2):=by
 obtain⟨a,c,e,hr⟩:=h;rw[YM,YM]at hr;obtain⟨⟨g,u,rfl,h1,h2,h3,h4⟩,⟨g',u',e',h1',h2',h3',h4'⟩,_⟩:=hr;cases e';obtain⟨o,rfl⟩:=EN h4;obtain⟨o',rfl⟩:=EN h4';exact⟨g,c,o,o',e,h1,h2,h3,h3',h4,h4'⟩
theorem ZBx(f:Fl)(x:Tr)(hf:f.kind= [101,120,105,115,116,115])(hx:Zbk x):UO (nd f (l1 x)):=by
 intro J b Zj db r ss W tv hj hI hl hp hg;unfold nd l1 at *;rw[X7]at hp;obtain⟨q,vk,vi,vf,vg,vw,vh,rfl,XT,hqb,Zn,s1,s2,s3,s4,p1,p2⟩:=hp;rw[Good]at hg;obtain⟨hn,gk,_⟩:=hg;rw[Yp]at gk;rw[jc,ZWQ ZQj,ZWR hf,K8];obtain⟨g,c,u,rfl,hgJ,hgb,hc0,hpx⟩:=Zk7 s1;obtain⟨o,rfl⟩:=EN hpx;have hcall:=hx J b Zj db r ss _ W _ hj hI ZQR hpx gk.1;obtain⟨z0,z1,z2,z3,z4,z5,z6,z7,z8,z9,Jk,Qv,z12,Qw,Qx,Qy⟩:=QB Zn;rw[hf]at z0;clear hj hI hpx s1 s2 s3 s4 p1 p2 gk Zn hn hl hx hf Qv z12 Qw Qx Qy;generalize jq db x ss=R at *;go_enter func44,ntmps44;go_wp2_with fail;refine hcall.mono ?_;rintro e w1 ⟨v,rfl,hK1,hj1,hv⟩;go_wp2_with fail;go_end0;exact⟨rfl,hK1,hj1⟩
theorem ZrX(f:Fl)(x:Tr)(hf:f.kind= [105,115,110,117,108,108]):UO (nd f (l1 x)):=by
 intro J b Zj db r ss W tv hj hI hl hp hg;unfold nd l1 at *;rw[X7]at hp;obtain⟨q,vk,vi,vf,vg,vw,vh,rfl,XT,hqb,Zn,s1,s2,s3,s4,p1,p2⟩:=hp;rw[Good]at hg;obtain⟨hn,gk,_⟩:=hg;rw[Yp]at gk;rw[jc,ZWQ ZQj,ZWQ ZQj,ZWR hf,Qo];obtain⟨g,c,u,rfl,hgJ,hgb,hc0,hpx⟩:=Zk7 s1;obtain⟨o,rfl⟩:=EN hpx;have hcall:=ZiA x J b Zj r ss W _ hj hI.sc hI.ok U hpx gk.1;obtain⟨z0,z1,z2,z3,z4,z5,z6,z7,z8,z9,Jk,Qv,z12,Qw,Qx,Qy⟩:=QB Zn;rw[hf]at z0;clear hj hI hpx s1 s2 s3 s4 p1 p2 gk Zn hn hl hf Qv z12 Qw Qx Qy;generalize jx x ss=R at *;go_enter func44,ntmps44;go_wp2_with fail;refine hcall.mono ?_;rintro e w1 ⟨rfl,hK1,hj1⟩;go_wp2_with fail;go_end0;exact⟨rfl,hK1,hj1⟩
theorem ZBw(f:Fl)(x y:Tr)(hf:f.kind= [99,111,109,112,97,114,101]):UO (nd f (l2 x y)):=by
 intro J b Zj db r ss W tv hj hI hl hp hg;unfold nd l2 at *;rw[X7]at hp;obtain⟨q,vk,vi,vf,vg,vw,vh,rfl,XT,hqb,Zn,s1,s2,s3,s4,p1,p2⟩:=hp;rw[Good]at hg;obtain⟨hn,gk,_⟩:=hg;rw[Yp,Yp]at gk;rw[jc,ZWQ ZQj,ZWQ ZQj,ZWQ ZQj,ZWR hf,Qo,jx2];obtain⟨g,c,u1,u2,rfl,hgJ,hgb,hc0,hc1,hpx,hpy⟩:=Zpk s1;have hcall:=ZiA x J b Zj r ss W _ hj hI.sc hI.ok U hpx gk.1;have ZfA:Hid (∀w',Zb J W w'->∀r1,Jg J Zj r1 w'->Calls prog 48 #[.pointer (some ⟨J,0,none⟩),.pointer u2,.pointer (some ⟨b,0,none⟩)] w' fun e W'=>e= .returned (.string ⟨(jx y ss).1.toArray⟩)/\Zb J w' W'/\Jg J Zj (r1.or (jx y ss).2) W'):=
  fun w' hK r1 hj1=>ZiA y J b Zj r1 ss w' _ hj1 (hI.keep hK).sc hI.ok U (hpy.keep hK) gk.2.1
 obtain⟨z0,z1,z2,z3,z4,z5,z6,z7,z8,z9,Jk,Qv,z12,Qw,Qx,Qy⟩:=QB Zn;rw[hf]at z0;have HZ:Hid (∀w',Zb J W w'->w'.cell? ⟨q,10,none⟩=some (.slice (some ⟨g,0,none⟩) (Tr.nil.len+2) c)/\w'.cell? ⟨g,1,none⟩=some (.pointer u2)):=fun w' h=>⟨h.cell XT Jk,h.cell hgJ hc1⟩;clear hj hI hpx hpy s1 s2 s3 s4 p1 p2 gk Zn hn hl hf Qv z12 Qw Qx Qy;generalize jx x ss=R at *;obtain⟨TA,RA⟩:=R;generalize jx y ss=R at *;obtain⟨TB,RB⟩:=R;go_enter func44,ntmps44;go_wp2_with fail;refine hcall.mono ?_;rintro e w1 ⟨rfl,hK1,hj1⟩;obtain⟨y1,y2⟩:=HZ.out w1 hK1;go_wp2_with fail;refine(ZfA.out w1 hK1 _ hj1).mono ?_;rintro e w2 ⟨rfl,hK2,hj2⟩;go_wp2_with fail;refine(Zf2 TA TB _).mono ?_;rintro e w3 ⟨rfl,rfl⟩;go_wp2_with fail;refine(Eh J Zj _ _ _ hj2).mono ?_;rintro e w4 ⟨rfl,hK4,X5⟩;go_wp2_with fail;go_end0;exact⟨rfl,(hK1.trans hK2).trans hK4,Jg.eq X5 (by simp only[Jr.or_assoc])⟩
theorem ZmF(f:Fl)(x y:Tr)(hf:f.kind= [105,110]\/f.kind= [97,110,121]\/f.kind= [97,108,108])(hy:Zbk y):UO (nd f (l2 x y)):=by
 intro J b Zj db r ss W tv hj hI hl hp hg;unfold nd l2 at *;rw[X7]at hp;obtain⟨q,vk,vi,vf,vg,vw,vh,rfl,XT,hqb,Zn,s1,s2,s3,s4,p1,p2⟩:=hp;rw[Good]at hg;obtain⟨hn,gk,_⟩:=hg;rw[Yp,Yp]at gk;rw[jc,ZWQ ZQS,ZWQ ZQS,ZWQ ZQS,ZWQ ZQS,ZWR hf,Qo,jq2,K8];obtain⟨g,c,u1,u2,rfl,hgJ,hgb,hc0,hc1,hpx,hpy⟩:=Zpk s1;have hcall:=ZiA x J b Zj r ss W _ hj hI.sc hI.ok U hpx gk.1;have ZfA:Hid (∀w',Zb J W w'->∀r1,Jg J Zj r1 w'->Calls prog 21 #[.pointer (some ⟨J,0,none⟩),.pointer u2,.pointer (some ⟨b,0,none⟩)] w' fun e W'=>∃v,e= .returned v/\Zb J w' W'/\Jg J Zj (r1.or (jq db y ss).2) W'/\XF [J] W' v (jq db y ss).1/\(jq db y ss).1.length<=10000):=
  fun w' hK r1 hj1=>hy J b Zj db r1 ss _ w' _ hj1 (hI.keep hK) ZQR (hpy.keep hK) gk.2.1
 obtain⟨z0,z1,z2,z3,z4,z5,z6,z7,z8,z9,Jk,Qv,z12,Qw,Qx,Qy⟩:=QB Zn;have HZ:Hid (∀w',Zb J W w'->w'.cell? ⟨q,10,none⟩=some (.slice (some ⟨g,0,none⟩) (Tr.nil.len+2) c)/\w'.cell? ⟨g,1,none⟩=some (.pointer u2)):=fun w' h=>⟨h.cell XT Jk,h.cell hgJ hc1⟩;generalize hkd:f.kind=kd at *;clear hj hI hpx hpy s1 s2 s3 s4 p1 p2 gk Zn hn hl hkd hy Qv z12 Qw Qx Qy;generalize jx x ss=R at *;obtain⟨TA,RA⟩:=R;generalize jq db y ss=R at *;obtain⟨TB,RB⟩:=R;have hU:Hid (J3 TA TB= !(if TB.length=1 then Xx TA (TB.getD 0 [])else false)):=by
  show _=_;match TB with
  | []=>rfl
  | [b]=>rfl
  |_::_::_=>simp[J3]
 generalize J3 TA TB=un at hU ⊢;rcases hf with rfl|rfl|rfl;all_goals
  go_enter func44,ntmps44;go_wp2_with fail;refine hcall.mono ?_;rintro e w1 ⟨rfl,hK1,hj1⟩;obtain⟨y1,y2⟩:=HZ.out w1 hK1;go_wp2_with fail;refine(ZfA.out w1 hK1 _ hj1).mono ?_;rintro e w2 ⟨v,rfl,hK2,hj2,hv⟩;obtain⟨av,cv,rfl,hvc⟩:=hv.1;by_cases h1:TB.length=1
  ·obtain⟨gv,rfl,_,hcv⟩:=hvc 0 U;have hb1:((TB.length:Nat):Int)=1:=by omega
   have HU2:Hid (un= !Xx TA (TB[0]' U)):=by
    show _=_;rw[hU.out,ZWR h1,ZX6,ZW1 U];rfl
   clear hU hvc;generalize TB[0]' U=tb0 at *;clear h1;go_wp2_with fail;refine(Zf2 TA tb0 _).mono ?_;rintro e w3 ⟨rfl,rfl⟩;exact ZUS
  ·have hb1:(((TB.length:Nat):Int)==1)=false:=by simp;omega
   have HU2:Hid (un= !false):=by show _=_;rw[hU.out,ZWQ h1]
   clear hU hvc h1;exact ZUS
end Go.Proofs.YthmlacabmlghbaaGreatDoor
