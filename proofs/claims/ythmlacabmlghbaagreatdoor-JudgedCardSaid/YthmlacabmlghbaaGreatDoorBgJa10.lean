import Derived.Test.YthmlacabmlghbaaGreatDoorBgJa08
import Derived.Test.YthmlacabmlghbaaGreatDoorBgPrF
set_option maxRecDepth 100000
set_option maxHeartbeats 8000000
set_option linter.unusedSimpArgs false
set_option linter.unusedVariables false
namespace Go.Proofs.YthmlacabmlghbaaGreatDoor
open Go.Proofs.Tryz
theorem ZSw{p:Prop}(h:p:=by clear HE2;go_wp2_with fail;go_ret;rw[HE3.out];exact⟨rfl,(Zb.drew _ _ _).trans (Zb.refl _ _),by rw[Jr.or_none];exact HJ.out⟩):p:=h
open Go.RowKit
theorem Zf2(a b:Za)(W:World):
  Calls prog 42 #[.string ⟨a.toArray⟩,.string ⟨b.toArray⟩] W fun e W'=>e= .returned (.bool (Xx a b))/\W=W':=by
 have HF:Hid (Xx a b=(a== [110,117,108,108]||b== [110,117,108,108]||a==b)):=by
  show _=_;unfold Xx Jd;have hd:∀x y:Za,decide (x=y)=(x==y):=fun x y=>by rw[ZXG];simp
  rw[hd,hd,hd]
 rcases ZYk (a== [110,117,108,108])with h1|h1<;>rcases ZYk (b== [110,117,108,108])with h2|h2<;>rcases ZYk (a==b)with h3|h3;all_goals
  go_enter func42,ntmps42;go_wp2;go_ret;exact⟨Xw (by rw[HF.out,h1,h2,h3];rfl),rfl⟩
def Jg(J:Nat)(Zj:Value)(r:Jr)(W:World):Prop:=W.heap[J]? =some (.cells #[Zj,.bool r.lost,.bool r.ZG] 68 (0,0))
theorem Jg.cells{J:Nat}{Zj:Value}{r:Jr}{W:World}(h:Jg J Zj r W):W.cell? ⟨J,0,none⟩=some Zj/\W.cell? ⟨J,1,none⟩=some (.bool r.lost)/\W.cell? ⟨J,2,none⟩=some (.bool r.ZG):=by
 unfold Jg at h;refine⟨?_,?_,?_⟩<;>simp[World.cell?,h]
theorem Jg.lost{J:Nat}{Zj:Value}{r:Jr}{W:World}(h:Jg J Zj r W):Jg J Zj (r.or {lost:=true}) (W.setCell ⟨J,1,none⟩ (.bool true)):=by
 have:=Xn (k:=1) (u:=.bool true) h;unfold Jg;rw[this];simp[Jr.or]
theorem Jg.ZG{J:Nat}{Zj:Value}{r:Jr}{W:World}(h:Jg J Zj r W):Jg J Zj (r.or {ZG:=true}) (W.setCell ⟨J,2,none⟩ (.bool true)):=by
 have:=Xn (k:=2) (u:=.bool true) h;unfold Jg;rw[this];simp[Jr.or]
theorem Jg.frozen{J:Nat}{Zj:Value}{r:Jr}{W:World}(h:Jg J Zj r W)(o:Nat):W.frozen? ⟨J,o,none⟩=false:=by
 unfold Jg at h;simp[World.frozen?,h]
theorem Jr.or_none(r:Jr):r.or {}=r:=by cases r;simp[Jr.or]
theorem Jr.none_or(r:Jr):Jr.or {} r=r:=by cases r;simp[Jr.or]
theorem Jr.or_assoc(a b c:Jr):(a.or b).or c=a.or (b.or c):=by simp[Jr.or,ZXx]
theorem Jg.drew{J:Nat}{Zj:Value}{r:Jr}{W:World}(h:Jg J Zj r W)(n:Nat):Jg J Zj r (W.drewN n):=h
theorem Eh(J:Nat)(Zj:Value)(r:Jr)(ok:Bool)(W:World)(hj:Jg J Zj r W):
  Calls prog 41 #[.pointer (some ⟨J,0,none⟩),.bool ok] W fun e W'=>e= .returned (.tuple #[])/\Zb J W W'/\Jg J Zj (r.or {ZG:= !ok}) W':=by
 obtain⟨z0,z1,z2⟩:=hj.cells;have hf:=hj.frozen 2;cases ok
 ·go_enter func41,ntmps41;go_wp2;go_end0;exact⟨rfl,Zb.set _ _ _ _,hj.ZG⟩
 ·go_enter func41,ntmps41;go_wp2;go_end0;exact⟨rfl,Zb.refl _ _,by rw[Bool.not_true,Jr.or_none];exact hj⟩
theorem Zwd(i c:Nat)(W:World)(hi:i<=90000)(hc:c<=90000):
  Calls prog 46 #[.int .i64 i,.int .i64 c] W fun e W'=>e= .returned (.string ⟨(QP i c).toArray⟩)/\W=W':=by
 have happ:=ZgZ;have d1:(dec (i:Int)).length<=21:=ZmL U U;have d2:(dec (c:Int)).length<=21:=ZmL U U;go_enter func46,ntmps46;go_wp2_with fail;refine(Zwa i _ U U).mono ?_;rintro e w1 ⟨rfl,rfl⟩;go_wp2_with fail;refine(Zwa c _ U U).mono ?_;rintro e w1 ⟨rfl,rfl⟩;go_wp2_with fail;go_ret;exact⟨by simp[QP],rfl⟩
theorem ZKt(ss:List Sc)(X:List Nat)(v:Value)(n:Nat)(W:World)(hs:YJ ss X W v)(hn:n<ss.length)(hl:ss.length<=1000000):
  Calls prog 77 #[v,.int .i64 n] W fun e W'=>∃u X',e= .returned (.pointer (some u))/\W=W'/\(∀g,g∈X->g∈X')/\YJ (ss.drop n) X' W (.pointer (some u)):=by
 obtain⟨u,rfl⟩:∃o,v= .pointer o:=by
  cases ss with
  |nil=>exact⟨_,hs⟩
  |cons s up=>obtain⟨b,_,_,_,_,rfl,_⟩:=hs;exact⟨_,rfl⟩
 have HS:Hid (YJ ss X W (.pointer u)):=hs;clear hs;go_enter func77,ntmps77;go_wp2;go_loopg [0,1] (n+1) (fun gk sv nv wr=>∃(k:Nat) (o:Option Addr) (X':List Nat),k<=n/\gk=n-k+1/\nv= .int .i64 ((n-k:Nat):Int)/\sv= .pointer o/\W=wr/\(∀g,g∈X->g∈X')/\Hid (YJ (ss.drop k) X' W (.pointer o)));case atStart=>exact⟨0,u,X,U,U,rfl,rfl,rfl,fun _ h=>h,by rw[ZYs];exact HS⟩
 case round=>
  obtain⟨k,o,X',hk,rfl,rfl,rfl,rfl,hX,hs⟩:=hrel;obtain⟨s,up,hd⟩:∃s up,ss.drop k=s::up:=⟨_,_,ZXl (by omega:k<ss.length)⟩;have HD:Hid (ss.drop (k+1)=up):=by show _=_;rw[<-ZXF,hd];rfl
  have hs1:=hs.out;rw[hd]at hs1;obtain⟨b,nv,tv,uv,gv,e,hb,Zn,h1,h2,h3,h4⟩:=hs1;cases e;obtain⟨z0,z1,z2,z3,z4⟩:=cells5 Zn;obtain⟨ou,rfl⟩:∃o,uv= .pointer o:=by
   cases up with
   |nil=>exact⟨_,h4⟩
   |cons s2 up2=>obtain⟨b2,_,_,_,_,rfl,_⟩:=h4;exact⟨_,rfl⟩
  clear hd;by_cases hlt:k<n
  ·have hp:(0:Int)<((n-k:Nat):Int):=by omega
   go_wp2;go_roundg (n-(k+1)+1);case measure=>omega
   case rel=>exact⟨k+1,ou,b::X',U,rfl,ZPp,rfl,rfl,fun g h=>ZXe _ (hX g h),by rw[HD.out];exact h4⟩
  ·obtain rfl:k=n:=by omega
   have e0:k-k=0:=U
   rw[e0];go_wp2;go_ret;exact⟨_,_,rfl,rfl,hX,hs.out⟩
theorem ZrT(text:Za):∀(l:List Za) (c x:Nat),x∈Jb text l c->c<=x/\x<c+l.length
 | [],_,_,h=>by simp[Jb]at h
 |y::l,c,x,h=>by
  rw[Jb]at h;have key:x∈Jb text l (c+1)->c<=x/\x<c+(y::l).length:=fun h=>by
   have:=ZrT text l (c+1) x h;simp;omega
  split at h
  ·rcases ZW3.1 h with rfl|h
   ·simp
   ·exact key h
  ·exact key h
theorem Ztz(Zd text:Za):∀(ns:List Za) (ts:List Tb) (j:Nat) (p:Nat×Nat),p∈hits Zd text ns ts j->∃t,j<=p.1/\ts[p.1-j]? =some t/\p.2<t.Ze.length
 |n::ns,t::ts,j,p,h=>by
  rw[hits]at h;rcases ZXt.1 h with h|h
  ·split at h
   ·simp at h
   ·obtain⟨c,hc,rfl⟩:=ZXj.1 h;have:=ZrT text t.Ze 0 c hc;exact⟨t,ZWS _,ZPm,by simpa using this.2⟩
  ·obtain⟨t',h1,h2,h3⟩:=Ztz Zd text ns ts (j+1) p h;refine⟨t',U,?_,h3⟩;rw[show p.1-j=(p.1-(j+1))+1 from U];exact h2
 | [],_,_,_,h=>ZQL
 |_::_, [],_,_,h=>ZQL
theorem Zfj{Zd text:Za}:∀{ss:List Sc} {l i c:Nat},Ye Zd text ss=some (l,i,c)->∃s t,ss[l]? =some s/\s.tabs[i]? =some t/\c<t.Ze.length
 | [],_,_,_,h=>by simp[Ye]at h
 |s::up,l,i,c,h=>by
  rw[Ye]at h;split at h
  ·rename_i p hp;obtain⟨t,h1,h2,h3⟩:=Ztz Zd text s.names s.tabs 0 p (by rw[hp];exact ZXh.2 rfl);cases h;exact⟨s,t,rfl,h2,h3⟩
  ·split at h
   ·cases h
   ·cases hu:Ye Zd text up with
    |none=>rw[hu]at h;cases h
    |some p=>
     rw[hu]at h;obtain⟨l',i',c'⟩:=p;obtain⟨s',t,h1,h2,h3⟩:=Zfj hu;cases h;exact⟨s',t,h1,h2,h3⟩
  ·cases h
theorem Zjy{Zd text:Za}{ss:List Sc}(h:Ye Zd text ss=none):Xb Zd text ss=(Jd,{lost:=true}):=by
 unfold Xb;rw[h]
theorem ZmD{Zd text:Za}{ss:List Sc}{l i c:Nat}{s:Sc}{t:Tb}(h:Ye Zd text ss=some (l,i,c))(h1:ss[l]? =some s)(h2:s.tabs[i]? =some t):Xb Zd text ss=(t.types.getD c [],{lost:=decide (s.phase=YV)&& !s.groups.contains (QP i c)}):=by
 unfold Xb;rw[h];simp[h1,h2]
theorem ZKi(J b q:Nat)(Zj:Value)(r:Jr)(ss:List Sc)(W:World)(Zd text:Za)(hj:Jg J Zj r W)(hs:YJ ss [J] W (.pointer (some ⟨b,0,none⟩)))(hk:∀s∈ss,Ep s)(hl:ss.length<=1000000)
  (z0:W.cell? ⟨q,0,none⟩=some (.string ⟨#[99,111,108,117,109,110]⟩))(z2:W.cell? ⟨q,2,none⟩=some (.string ⟨text.toArray⟩))(z3:W.cell? ⟨q,3,none⟩=some (.string ⟨Zd.toArray⟩)):
  Calls prog 48 #[.pointer (some ⟨J,0,none⟩),.pointer (some ⟨q,0,none⟩),.pointer (some ⟨b,0,none⟩)] W fun e W'=>e= .returned (.string ⟨(Xb Zd text ss).1.toArray⟩)/\Zb J W W'/\Jg J Zj (r.or (Xb Zd text ss).2) W':=by
 obtain⟨j0,j1,j2⟩:=hj.cells;have hf:=hj.frozen 1;have HJ:Hid (Jg J Zj r W):=hj;have HS:Hid (YJ ss [J] W (.pointer (some ⟨b,0,none⟩))):=hs;have HK:Hid (∀s∈ss,Ep s):=hk;have hat:=Zv8 q Zd text ss [J] (.pointer (some ⟨b,0,none⟩)) W hs hk hl z2 z3;clear hj hs hk;generalize hR:Xb Zd text ss=R;have HR:Hid (Xb Zd text ss=R):=hR;clear hR;go_enter func48,ntmps48;go_wp2_with fail;refine hat.mono ?_;rintro e w1 ⟨rfl,n,rfl⟩;cases hq:Ye Zd text ss with
 |none=>
  have HE:Hid (R=(Jd,{lost:=true})):=by show _=_;rw[<-HR.out,Zjy hq]
  clear hq hat HR;unfold KQ;go_wp2_with fail;go_ret;rw[HE.out];exact⟨rfl,(Zb.drew _ _ _).trans (Zb.set _ _ _ _),(HJ.out.drew n).lost⟩
 |some p=>
  obtain⟨l,i,c⟩:=p;obtain⟨s,t,h1,h2,h3⟩:=Zfj hq;have HE:=(show Hid _ from HR.out.symm.trans (ZmD hq h1 h2));clear hq hat HR;have hll:l<ss.length:=(ZXq.1 h1).1;have hil:i<s.tabs.length:=(ZXq.1 h2).1;have hok:=HK.out s (ZXW h1);have hdr:ss.drop l=s::ss.drop (l+1):=by
   rw[ZXl hll];congr 1;exact(ZXq.1 h1).2
  unfold KQ;go_wp2_with fail;refine(ZKt ss [J] _ l _ (YJ.same (Same.drew (X:= [J]) n) ss [J] _ (fun _ h=>h) HS.out) hll hl).mono ?_;rintro e w1 ⟨u,X',rfl,rfl,hX,hs2⟩;rw[hdr]at hs2;obtain⟨ub,nv,tv,uv,gv,e,hb,Zn,a1,a2,a3,a4⟩:=hs2;cases e;obtain⟨y0,y1,y2,y3,y4⟩:=cells5 Zn;have hle:=hok.le;have hln:=hok.len;have hgl:=hok.YB;obtain⟨hc6,hct⟩:=hok.tab t (ZXW h2);obtain⟨ta,tc,rfl,ht⟩:=a2;obtain⟨g2,cv,tyv,rfl,YU⟩:=ht i hil;have ety:s.tabs[i]=t:=(ZXq.1 h2).2;rw[ety]at YU;have x2:=YU.ty;obtain⟨sa,sc,rfl,hst⟩:=YU.types;obtain⟨g4,rfl,hg4,x4⟩:=hst c U;obtain⟨ga,gc,rfl⟩:∃a c,gv= .slice a s.groups.length c:=by obtain⟨a,c,e,_⟩:=a3;exact⟨a,c,e⟩
  have hhas:=ZoU (.slice ga s.groups.length gc) s.groups (QP i c) (W.drewN n) U a3.view;have HE2:Hid (R=(t.types[c]' U,{lost:=decide (s.phase=YV)&& !s.groups.contains (QP i c)})):=by
   show _=_;rw[HE.out,ZX6,ZW1 U];rfl
  have hJX:J∈X':=hX J (ZXh.2 rfl);have n1:J≠ub:=fun e=>hb (e▸hJX);have n2:J≠g2:=fun e=>YU.blk (e▸ZXe _ hJX);have n4:J≠g4:=fun e=>hg4 (e▸ZXe _ hJX);clear ht hst a1 a3 a4 YU Zn ety HE h1 h2 hdr hok hb hX hJX hg4;replace y0:W.cell? ⟨ub,0,none⟩=some nv:=y0;replace y1:W.cell? ⟨ub,1,none⟩=some _:=y1;replace y2:W.cell? ⟨ub,2,none⟩=some uv:=y2;replace y3:W.cell? ⟨ub,3,none⟩=some _:=y3;replace y4:W.cell? ⟨ub,4,none⟩=some _:=y4;replace x2:W.cell? ⟨g2,i*4+2,none⟩=some _:=x2;replace x4:W.cell? ⟨g4,c,none⟩=some _:=x4;generalize t.types[c]' U=ty at *;go_wp2_with fail;refine(Zwd i c _ U U).mono ?_;rintro e w1 ⟨rfl,rfl⟩;go_wp2_with fail;refine hhas.mono ?_;rintro e w2 ⟨rfl,m,rfl⟩;clear hhas;generalize s.groups.contains (QP i c)=inn at *;by_cases Yy:s.phase=YV
  ·have b0:(s.phase== [103,114,111,117,112])=true:=by rw[Yy];rfl
   cases inn with
   |true=>
    have HE3:Hid (R=(ty,{})):=by show _=_;rw[HE2.out];simp
    exact ZSw
   |false=>
    have HE3:Hid (R=(ty,{lost:=true})):=by show _=_;rw[HE2.out];simp[Yy]
    clear HE2;go_wp2_with fail;go_ret;rw[HE3.out];exact⟨rfl,(Zb.drew _ _ _).trans (Zb.set _ _ _ _),(HJ.out.drew _).lost⟩
  ·have b0:(s.phase== [103,114,111,117,112])=false:=by simpa[YV]using Yy
   have HE3:Hid (R=(ty,{})):=by show _=_;rw[HE2.out];simp[Yy]
   exact ZSw
def Ze1(t:Tr):Prop:=∀(J b:Nat) (Zj:Value) (r:Jr) (ss:List Sc) (W:World) (tv:Value),Jg J Zj r W->YJ ss [J] W (.pointer (some ⟨b,0,none⟩))->(∀s∈ss,Ep s)->ss.length<=1000000->Zr J b W t tv->Good t->
 Calls prog 48 #[.pointer (some ⟨J,0,none⟩),tv,.pointer (some ⟨b,0,none⟩)] W fun e W'=>e= .returned (.string ⟨(jx t ss).1.toArray⟩)/\Zb J W W'/\Jg J Zj (r.or (jx t ss).2) W'
theorem ZoL{M N:Nat}{W:World}(t:Tr):(∀v,Zr M N W t v->Zr N M W t v)/\(∀a o,YM M N W t a o->YM N M W t a o):=by
 induction t with
 |nil=>exact ZTQ
 |cons x t ih1 ih2=>
  refine⟨fun v hv=>by simp[Zr]at hv,fun a o hr=>?_⟩;rw[YM]at hr ⊢;obtain⟨⟨g,v,h1,h2,h3,h4,h5⟩,h6⟩:=hr;exact⟨⟨g,v,h1,h3,h2,h4,ih1.1 v h5⟩,ih2.2 a _ h6⟩
 |node f k i fr g w hh ik ii ifr ig iw ih=>
  refine⟨fun v hv=>?_,fun a o hr=>by simp[YM]at hr⟩;rw[X7]at hv ⊢;obtain⟨b,vk,vi,vf,vg,vw,vh,e,h1,h2,h3,⟨a1,c1,e1,r1⟩,⟨a2,c2,e2,r2⟩,⟨a3,c3,e3,r3⟩,⟨a4,c4,e4,r4⟩,p1,p2⟩:=hv;exact⟨b,vk,vi,vf,vg,vw,vh,e,h2,h1,h3,⟨a1,c1,e1,ik.2 _ _ r1⟩,⟨a2,c2,e2,ii.2 _ _ r2⟩,⟨a3,c3,e3,ifr.2 _ _ r3⟩,⟨a4,c4,e4,ig.2 _ _ r4⟩,iw.1 _ p1,ih.1 _ p2⟩
theorem Zr.Zoh{M N:Nat}{W W':World}{t:Tr}{v:Value}(hv:Zr M N W t v)(h:Zb N W W'):Zr M N W' t v:=(ZoL t).1 v (((ZoL t).1 v hv).keep h)
theorem YJ.phase{s:Sc}{up:List Sc}{X:List Nat}{W:World}{b:Nat}(h:YJ (s::up) X W (.pointer (some ⟨b,0,none⟩)))(ph:Za):YJ ({s with phase:=ph}::up) X (W.setCell ⟨b,3,none⟩ (.string ⟨ph.toArray⟩)) (.pointer (some ⟨b,0,none⟩)):=by
 obtain⟨b',nv,tv,uv,gv,e,hb,ho,h1,h2,h3,h4⟩:=h;cases e;have hs:Same [b] W (W.setCell ⟨b,3,none⟩ (.string ⟨ph.toArray⟩)):=Same.X6 (Zb.set b W 3 _);have hy:∀g,g∈ [b]->g∈b::X:=fun g hg=>by rw[ZXh.1 hg];exact ZXn
 have ho2:=Xn (k:=3) (u:=.string ⟨ph.toArray⟩) ho;refine⟨b,nv,tv,uv,gv,rfl,hb,?_,h1.same hs hy,h2.same hs hy,h3.same hs hy,YJ.same hs up _ _ hy h4⟩;rw[ho2];simp
theorem ZGP{J b:Nat}{W W1 W2:World}{nv tv uv ph gv x:Value}{ty:TypeId}(ho:W.heap[b]? =some (.cells #[nv,tv,uv,ph,gv] ty (0,0)))(hJ:b≠J)(h1:Zb J W W1)(h2:Zb J (W1.setCell ⟨b,3,none⟩ x) W2):Zb J W (W2.setCell ⟨b,3,none⟩ ph):=by
 have hs1:=Zb.set b W1 3 x;have hs2:=Zb.set b W2 3 ph;have hl:=(ZWU.1 ho).1;refine⟨hs2.os.trans (h2.os.trans (hs1.os.trans h1.os)),hs2.tape.trans (h2.tape.trans (hs1.tape.trans h1.tape)),hs2.output.trans (h2.output.trans (hs1.output.trans h1.output)),ZW0 h1.size (ZW0 hs1.size (ZW0 h2.size hs2.size)),fun g hg hgl=>?_⟩;by_cases hb:g=b
 ·subst hb;have o1:=h1.obj hJ ho;have o2:=Xn (k:=3) (u:=x) o1;have o3:=h2.obj hJ o2;have o4:=Xn (k:=3) (u:=ph) o3;rw[o4,ho];simp
 ·have l1:=ZXi hgl h1.size;rw[hs2.block g hb (ZXi l1 (ZW0 hs1.size h2.size)),h2.block g hg (ZXi l1 hs1.size),hs1.block g hb l1,h1.block g hg hgl]
theorem Jg.setOther{J b o:Nat}{Zj v:Value}{r:Jr}{W:World}(h:Jg J Zj r W)(hb:b≠J):Jg J Zj r (W.setCell ⟨b,o,none⟩ v):=(Zb.set b W o v).obj (fun e=>hb e.symm) h
theorem Vh{W:World}{b:Nat}{cs:Array Value}{ty:TypeId}(h:W.heap[b]? =some (.cells cs ty (0,0)))(o:Nat):W.frozen? ⟨b,o,none⟩=false:=by simp[World.frozen?,h]
theorem Zk7{M N:Nat}{W:World}{x t:Tr}{v:Value}(h:Z8 M N W (.cons x t) v):∃g c u,v= .slice (some ⟨g,0,none⟩) (t.len+1) c/\g≠M/\g≠N/\W.cell? ⟨g,0,none⟩=some u/\Zr M N W x u:=by
 obtain⟨a,c,e,hr⟩:=h;rw[YM]at hr;obtain⟨⟨g,u,rfl,h1,h2,h3,h4⟩,_⟩:=hr;exact⟨g,c,u,e,h1,h2,h3,h4⟩
theorem ZKa(J b q:Nat)(f:Fl)(x kt:Tr)(vk vi vf vg vw vh Zj:Value)(r:Jr)(s:Sc)(up:List Sc)(W:World)(hj:Jg J Zj r W)(hs:YJ (s::up) [J] W (.pointer (some ⟨b,0,none⟩)))(hk:∀y∈s::up,Ep y)(hl:(s::up).length<=1000000)
  (Zn:W.heap[q]? =some (.cells (YF f vk vi vf vg vw vh) XY (0,0)))(hqb:q≠b)(XT:q≠J)(hst:f.star=false)(hsl:Z8 J b W (.cons x kt) vk)(hg:Good x)(hX:Ze1 x):
  Calls prog 78 #[.pointer (some ⟨J,0,none⟩),.pointer (some ⟨q,0,none⟩),.pointer (some ⟨b,0,none⟩)] W fun e W'=>
   e= .returned (.string ⟨(if f.kind=Kj\/f.kind=Ki then(jx x (inside (s::up))).1 else Xo).toArray⟩)/\Zb J W W'/\
   Jg J Zj (r.or ((Jr.or {lost:=decide (s.phase≠YV)} (jx x (inside (s::up))).2).or {ZG:=decide (f.kind=Kk)&& !Xx (jx x (inside (s::up))).1 Xo})) W':=by
 obtain⟨z0,z1,z2,z3,z4,z5,z6,z7,z8,z9,Jk,Qv,z12,Qw,Qx,Qy⟩:=QB Zn;rw[hst]at z6;obtain⟨g,c,u,rfl,hgJ,hgb,hc0,hp⟩:=Zk7 hsl;obtain⟨j0,j1,j2⟩:=hj.cells;have hf:=hj.frozen 1;have hs0:=hs;obtain⟨b',nv,tv,uv,gv,e,hbJ,ho,h1,h2,h3,h4⟩:=hs;cases e;replace hbJ:b≠J:=by simpa using hbJ
 obtain⟨y0,y1,y2,y3,y4⟩:=cells5 ho;have hfb:=Vh ho 3;have hcall:=fun(W1:World) (r1:Jr) (hk1:Zb J W W1) (hj1:Jg J Zj r1 W1)=>hX J b Zj r1 (inside (s::up)) (W1.setCell ⟨b,3,none⟩ (.string ⟨pIn.toArray⟩)) u (hj1.setOther hbJ) ((YJ.same (Same.X6 hk1) _ _ _ (fun _ h=>h) hs0).phase pIn) (fun y hy=>by
  rcases ZW3.1 hy with rfl|hy
  ·exact⟨(hk s ZXn).len,(hk s ZXn).le,(hk s ZXn).YB,(hk s ZXn).tab⟩
  ·exact hk y (ZXe _ hy)) (by simpa[inside]using hl) ((hp.keep hk1).Zoh (Zb.set b W1 3 _)) hg
 generalize jx x (inside (s::up))=R at hcall ⊢;obtain⟨A,RX⟩:=R;obtain⟨o,rfl⟩:=EN hp;have hback:=fun(W1 W2:World) (hk1:Zb J W W1) (h2:Zb J (W1.setCell ⟨b,3,none⟩ (.string ⟨pIn.toArray⟩)) W2)=>ZGP ho hbJ hk1 h2;have hcells:=fun(W1 W2:World) (hk1:Zb J W W1) (h2:Zb J (W1.setCell ⟨b,3,none⟩ (.string ⟨pIn.toArray⟩)) W2)=>cells5 (h2.obj hbJ (Xn (k:=3) (u:=.string ⟨pIn.toArray⟩) (hk1.obj hbJ ho)));have Ztu:=fun(W1 W2:World) (hk1:Zb J W W1) (h2:Zb J (W1.setCell ⟨b,3,none⟩ (.string ⟨pIn.toArray⟩)) W2)=>Vh (h2.obj hbJ (Xn (k:=3) (u:=.string ⟨pIn.toArray⟩) (hk1.obj hbJ ho))) 3;have hkind:=fun(W1 W2:World) (hk1:Zb J W W1) (h2:Zb J (W1.setCell ⟨b,3,none⟩ (.string ⟨pIn.toArray⟩)) W2)=>h2.cell XT ((Zb.set b W1 3 _).cell hqb (hk1.cell XT z0));have Eo:=(show Hid _ from hcall);have ZpS:=(show Hid _ from hback);have ZpU:=(show Hid _ from hcells);have ZpZ:=(show Hid _ from Ztu);have Zp7:=(show Hid _ from hkind);clear hcall hback hcells Ztu hkind h1 h2 h3 h4 hX hp hg hs0 hk hl hsl ho;have HJ:=(show Hid _ from hj);clear hj;have hkk:((f.kind== [115,117,109])=false/\(f.kind== [109,105,110])=false/\(f.kind== [109,97,120])=false/\Hid ((if f.kind=Kj\/f.kind=Ki then A else Xo)=Xo/\decide (f.kind=Kk)=false))\/
   (f.kind= [115,117,109]/\Hid ((if f.kind=Kj\/f.kind=Ki then A else Xo)=Xo/\decide (f.kind=Kk)=true))\/
   ((f.kind== [115,117,109])=false/\(f.kind= [109,105,110]\/f.kind= [109,97,120])/\Hid ((if f.kind=Kj\/f.kind=Ki then A else Xo)=A/\decide (f.kind=Kk)=false)):=by
  by_cases e1:f.kind=Kk
  ·refine .inr (.inl ⟨e1,?_,by simp[e1]⟩);rw[e1];rfl
  ·by_cases e2:f.kind=Kj\/f.kind=Ki
   ·exact .inr (.inr ⟨by simpa[Kk]using e1,e2,by rw[ZWR e2],by simp[e1]⟩)
   ·exact .inl ⟨by simpa[Kk]using e1,by simpa[Kj]using fun h=>e2 (.inl h),by simpa[Ki]using fun h=>e2 (.inr h),by rw[ZWQ e2],by simp[e1]⟩
 generalize (if f.kind=Kj\/f.kind=Ki then A else Xo)=T at *;generalize decide (f.kind=Kk)=sm at *;generalize hfo:Xx A Xo=ok;have HFO:=(show Hid _ from hfo);clear hfo;go_enter func78,ntmps78;by_cases Yy:s.phase=YV
 ·have b0:(s.phase== [103,114,111,117,112])=true:=by rw[Yy];rfl
  have Jl:Hid (decide (s.phase≠YV)=false):=ZXD (fun h=>h Yy);clear Yy;go_wp2_with fail;refine(Eo.out W r (Zb.refl _ _) HJ.out).mono ?_;rintro e w2 ⟨rfl,hk2,hj2⟩;have c3:=(ZpU.out W w2 (Zb.refl _ _) hk2).2.2.2.1;have f3:=ZpZ.out W w2 (Zb.refl _ _) hk2;have k3:=Zp7.out W w2 (Zb.refl _ _) hk2;have hK3:=ZpS.out W w2 (Zb.refl _ _) hk2;have XH:=hj2.setOther (o:=3) (v:=.string ⟨s.phase.toArray⟩) hbJ;go_wp2_with fail;refine(Zf2 A [105,110,116] _).mono ?_;rintro e w3 ⟨rfl,rfl⟩;rw[show Xx A [105,110,116]=ok from HFO.out];rcases hkk with⟨x1,x2,x3,hU⟩|⟨x1,hU⟩|⟨x1,x2,hU⟩
  ·go_wp2_with fail;refine(Eh J Zj _ true _ XH).mono ?_;rintro e w4 ⟨rfl,hk4,X5⟩;have hK4:=hK3.trans hk4;have k4:=hK4.cell XT z0;go_wp2_with fail;go_ret;exact⟨ZP4,hK4,by
    have e:∀a b:Jr,a=b->Jg J Zj a w4->Jg J Zj b w4:=fun a b h=>by rw[h];exact id
    refine e _ _ ?_ X5;rw[hU.out.2,Jl.out];cases r;cases RX;simp[Jr.or,ZXx]⟩
  ·rw[x1]at k3 z0;go_wp2_with fail;refine(Eh J Zj _ ok _ XH).mono ?_;rintro e w4 ⟨rfl,hk4,X5⟩;have hK4:=hK3.trans hk4;have k4:=hK4.cell XT z0;go_wp2_with fail;go_ret;exact⟨ZP4,hK4,by
    have e:∀a b:Jr,a=b->Jg J Zj a w4->Jg J Zj b w4:=fun a b h=>by rw[h];exact id
    refine e _ _ ?_ X5;rw[hU.out.2,Jl.out];cases r;cases RX;simp[Jr.or,ZXx]⟩
  ·rcases x2 with x2|x2;all_goals
    rw[x2]at k3 z0 x1
   ·go_wp2_with fail;refine(Eh J Zj _ true _ XH).mono ?_;rintro e w4 ⟨rfl,hk4,X5⟩;have hK4:=hK3.trans hk4;have k4:=hK4.cell XT z0;go_wp2_with fail;go_ret;exact⟨ZP4,hK4,by
     have e:∀a b:Jr,a=b->Jg J Zj a w4->Jg J Zj b w4:=fun a b h=>by rw[h];exact id
     refine e _ _ ?_ X5;rw[hU.out.2,Jl.out];cases r;cases RX;simp[Jr.or,ZXx]⟩
   ·go_wp2_with fail;refine(Eh J Zj _ true _ XH).mono ?_;rintro e w4 ⟨rfl,hk4,X5⟩;have hK4:=hK3.trans hk4;have k4:=hK4.cell XT z0;go_wp2_with fail;go_ret;exact⟨ZP4,hK4,by
     have e:∀a b:Jr,a=b->Jg J Zj a w4->Jg J Zj b w4:=fun a b h=>by rw[h];exact id
     refine e _ _ ?_ X5;rw[hU.out.2,Jl.out];cases r;cases RX;simp[Jr.or,ZXx]⟩
 ·have b0:(s.phase== [103,114,111,117,112])=false:=by simpa[YV]using Yy
  have Jl:Hid (decide (s.phase≠YV)=true):=ZXX Yy;clear Yy;go_wp2_with fail;refine(Eo.out (W.setCell ⟨J,1,none⟩ (.bool true)) (r.or {lost:=true}) (Zb.set J W 1 (.bool true)) (Jg.lost HJ.out)).mono ?_;rintro e w2 ⟨rfl,hk2,hj2⟩;have c3:=(ZpU.out (W.setCell ⟨J,1,none⟩ (.bool true)) w2 (Zb.set J W 1 (.bool true)) hk2).2.2.2.1;have f3:=ZpZ.out (W.setCell ⟨J,1,none⟩ (.bool true)) w2 (Zb.set J W 1 (.bool true)) hk2;have k3:=Zp7.out (W.setCell ⟨J,1,none⟩ (.bool true)) w2 (Zb.set J W 1 (.bool true)) hk2;have hK3:=ZpS.out (W.setCell ⟨J,1,none⟩ (.bool true)) w2 (Zb.set J W 1 (.bool true)) hk2;have XH:=hj2.setOther (o:=3) (v:=.string ⟨s.phase.toArray⟩) hbJ;go_wp2_with fail;refine(Zf2 A [105,110,116] _).mono ?_;rintro e w3 ⟨rfl,rfl⟩;rw[show Xx A [105,110,116]=ok from HFO.out];rcases hkk with⟨x1,x2,x3,hU⟩|⟨x1,hU⟩|⟨x1,x2,hU⟩
  ·go_wp2_with fail;refine(Eh J Zj _ true _ XH).mono ?_;rintro e w4 ⟨rfl,hk4,X5⟩;have hK4:=hK3.trans hk4;have k4:=hK4.cell XT z0;go_wp2_with fail;go_ret;exact⟨ZP4,hK4,by
    have e:∀a b:Jr,a=b->Jg J Zj a w4->Jg J Zj b w4:=fun a b h=>by rw[h];exact id
    refine e _ _ ?_ X5;rw[hU.out.2,Jl.out];cases r;cases RX;simp[Jr.or,ZXx]⟩
  ·rw[x1]at k3 z0;go_wp2_with fail;refine(Eh J Zj _ ok _ XH).mono ?_;rintro e w4 ⟨rfl,hk4,X5⟩;have hK4:=hK3.trans hk4;have k4:=hK4.cell XT z0;go_wp2_with fail;go_ret;exact⟨ZP4,hK4,by
    have e:∀a b:Jr,a=b->Jg J Zj a w4->Jg J Zj b w4:=fun a b h=>by rw[h];exact id
    refine e _ _ ?_ X5;rw[hU.out.2,Jl.out];cases r;cases RX;simp[Jr.or,ZXx]⟩
  ·rcases x2 with x2|x2;all_goals
    rw[x2]at k3 z0 x1
   ·go_wp2_with fail;refine(Eh J Zj _ true _ XH).mono ?_;rintro e w4 ⟨rfl,hk4,X5⟩;have hK4:=hK3.trans hk4;have k4:=hK4.cell XT z0;go_wp2_with fail;go_ret;exact⟨ZP4,hK4,by
     have e:∀a b:Jr,a=b->Jg J Zj a w4->Jg J Zj b w4:=fun a b h=>by rw[h];exact id
     refine e _ _ ?_ X5;rw[hU.out.2,Jl.out];cases r;cases RX;simp[Jr.or,ZXx]⟩
   ·go_wp2_with fail;refine(Eh J Zj _ true _ XH).mono ?_;rintro e w4 ⟨rfl,hk4,X5⟩;have hK4:=hK3.trans hk4;have k4:=hK4.cell XT z0;go_wp2_with fail;go_ret;exact⟨ZP4,hK4,by
     have e:∀a b:Jr,a=b->Jg J Zj a w4->Jg J Zj b w4:=fun a b h=>by rw[h];exact id
     refine e _ _ ?_ X5;rw[hU.out.2,Jl.out];cases r;cases RX;simp[Jr.or,ZXx]⟩
end Go.Proofs.YthmlacabmlghbaaGreatDoor
