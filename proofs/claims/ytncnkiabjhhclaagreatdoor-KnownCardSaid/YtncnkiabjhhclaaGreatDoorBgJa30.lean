import Derived.Test.YtncnkiabjhhclaaGreatDoorBgXj
set_option maxRecDepth 100000
set_option maxHeartbeats 8000000
set_option linter.all false
namespace Go.Proofs.YtncnkiabjhhclaaGreatDoor
open Go.Proofs.Tryz
variable{cl cl':Bool}{en:Ending}{cs:List (vS×Nat)}{db:List (vS×Nat×Ar)}{S:List Nat}{ps:List PX}{xs:List SX}{ts:List TypeId}{fs ys:List Value}{B C M cb ct fk m sb sz wm:Nat}{fr:Nat×Nat}{ty:TypeId}{ev tv:Value}{W W' W0 W1 w' w3:World}{cn nm:vS}{e':yR}
def lX{p:Prop}(h:p:=by obtain⟨b',rfl,_⟩:=wV;clear wO;go_wp2;exact⟨rfl,HE.out⟩):p:=h
def kK{p:Prop}(h:p:=by go_wp2_with fail;go_ret;exact⟨rfl,(Below.refl _ W).alloc (Nat.le_refl _) _⟩):p:=h
def kS{p:Prop}(h:p:=by go_wp2_with fail;refine NZ.mono ?_;rintro e w2 ⟨rfl,wK⟩;go_wp2_with fail;go_ret;exact⟨⟨k,rfl,Z,Z,⟨λ_=>HE.out,λ_=>Z⟩⟩,hB.trans (wK.mono hB.size)⟩):p:=h
def kQ{p:Prop}(h:p:=by go_wp2_with fail;go_ret;exact⟨⟨-1,rfl,Z,Z,⟨λh=>Z,λh=>absurd h HM.out⟩⟩,hB⟩):p:=h
def lu{p:Prop}(h:p:=by have xM:=vR wV;obtain⟨b',rfl,_⟩:=wV;clear wO;go_wp2;exact⟨rfl,.inl ⟨yD.out,xM.out⟩⟩):p:=h
def jV{p:Prop}(h:p:=by go_enter func158,ntmps158;go_wp2_with fail;go_ret;exact⟨rfl,Below.refl _ _⟩):p:=h
def vN{p:Prop}(h:p:=by rintro e w2 ⟨rfl,wK⟩;go_wp2_with fail;go_ret;exact⟨rfl,wE.trans (wK.mono wE.size)⟩):p:=h
def nT{p:Prop}(h:p:=by unfold vU at ES;go_wp2_with fail;go_ret2;rw[GH];exact ES.out):p:=h
def iX{p:Prop}(h:p:=by clear Xg Gy SE k1 k2 k3 ES wL;go_wp2_with fail;go_ret2;exact HE.out):p:=h
def vO:=@Go.World.ownsRow_lit
open Go.RowKit
def Z0n{p:Prop}(h:p:=by
 refine(HAG.out _ xA).mono ?_;intro en w1 IG;have HE:=vR (IG.from xA);rcases IG with⟨wO,wV⟩|⟨p,t,e',cl',Kf,cp,xz,rfl,hf,wP,zG,yQ,hG1⟩
 ·exact lX
 ·clear xz hf wP zG yQ hG1;go_wp2_with fail;go_ret2;exact HE.out):p:=h
def Zun(n:vS)(v)(hv:v= .nilIface\/∃n y,v= .iface n y)(W0 W)(C M b)(e)(cl)(hC:yL W0 C M cl W)(hP:yS W0 W b e)(res)(hag:∀w',vV W w'->Calls prog 220 #[vU C,.agg #[.string ⟨n.toArray⟩,v],vU b] w' (Oy W0 w' C M b e res)):
  Calls prog 149 #[vU C,.iface 451 (.agg #[.string ⟨n.toArray⟩,v]),vU b] W (Oy W0 W C M b e res):=by
 have HAG:=vR hag;clear hag hC hP;unfold vU at *;rcases hv with rfl|⟨vn,vy,rfl⟩
 ·have ta:=ZAw (.agg #[.string ⟨n.toArray⟩,.nilIface]);have tb:=Zkw (.agg #[.string ⟨n.toArray⟩,.nilIface]);have tc:=ZqA (.agg #[.string ⟨n.toArray⟩,.nilIface]);have td:=ZqB (.agg #[.string ⟨n.toArray⟩,.nilIface]);have te:=ZqC (.agg #[.string ⟨n.toArray⟩,.nilIface]);go_enter func149,ntmps149;go_wp2_with fail;have xA:vV W (W.alloc (.cells #[.string ⟨n.toArray⟩,.nilIface] 451)):=(nW _ W).alloc (nV _) _;exact Z0n
 ·have ta:=ZAw (.agg #[.string ⟨n.toArray⟩,.iface vn vy]);have tb:=Zkw (.agg #[.string ⟨n.toArray⟩,.iface vn vy]);have tc:=ZqA (.agg #[.string ⟨n.toArray⟩,.iface vn vy]);have td:=ZqB (.agg #[.string ⟨n.toArray⟩,.iface vn vy]);have te:=ZqC (.agg #[.string ⟨n.toArray⟩,.iface vn vy]);go_enter func149,ntmps149;go_wp2_with fail;have xA:vV W (W.alloc (.cells #[.string ⟨n.toArray⟩,.iface vn vy] 451)):=(nW _ W).alloc (nV _) _;exact Z0n
def ZHI(n):Na (.star n):=by
 intro W0 W C M b e cl hC hP hr hk;rw[xV];refine Zun n .nilIface (.inl rfl) W0 W C M b e cl hC hP _ (λw' hB=>?_);rw[zo];cases hg:e.xB with
 |none=>
  obtain⟨sv,wv,gv,ho,_,_,_,hgv⟩:=hP.below hB;rw[hg]at hgv;have Zod:gv= .pointer none:=hgv;subst Zod;exact(Ztq W0 w' C b sv wv n .nilIface (.inl rfl) (hC.below hB).low ho).mono λen W' h=>.inl ⟨rfl,h⟩
 |some g=>
  have:=Ztp n .nilIface (.inl rfl) W0 w' C M b e cl g hg (hC.below hB) (hP.below hB) eU (some (.lit (.int 1),1,{e with xB:=none},cl)) (λrb w2 Af yY=>ZFv W0 w2 C M rb _ cl ((hC.below hB).below Af) yY) (λp t e' c h=>by cases h;exact⟨rfl,rfl⟩);exact this
def ZHD(n)(x)(hx:Na x):Na (.agg n x):=by
 intro W0 W C M b e cl hC hP hr hk;rw[xV];refine Zun n (xV x) (.inr (Gq x)) W0 W C M b e cl hC hP _ (λw' hB=>?_);rw[zo];cases hg:e.xB with
 |none=>
  obtain⟨sv,wv,gv,ho,_,_,_,hgv⟩:=hP.below hB;rw[hg]at hgv;have Zod:gv= .pointer none:=hgv;subst Zod;exact(Ztq W0 w' C b sv wv n (xV x) (.inr (Gq x)) (hC.below hB).low ho).mono λen W' h=>.inl ⟨rfl,h⟩
 |some g=>
  have EA:room {e with xB:=none}+CS x<=400:=by
   rw[CS]at hr;simp only[room,hg]at hr ⊢;omega
  have:=Ztp n (xV x) (.inr (Gq x)) W0 w' C M b e cl g hg (hC.below hB) (hP.below hB) eU (zo x {e with xB:=none} cl) (λrb w2 Af yY=>ZFu x hx W0 w2 C M rb _ cl ((hC.below hB).below Af) yY EA hk) (λp t e' c h=>by have:=KN h;exact⟨this.2.2 rfl,this.2.1⟩);exact this
theorem Uu:∀x,Na x
 | .lit v=>ZHG v
 | .zO o s=>ZHF o s
 | .neg x=>ZHH x (Uu x)
 | .arith s l r=>ZHE s l r (Uu l) (Uu r)
 | .star n=>ZHI n
 | .agg n x=>ZHD n x (Uu x)
inductive FC|nil|BS (sign:vS) (l r:FC)|xJ (c:FC)|cmp (sign:vS) (l r:TX)|Fy (x:TX) (neg:Bool)
def cV:FC->Value
 | .nil=>.nilIface
 | .BS s l r=>.iface 330 (.agg #[cV l,.string ⟨s.toArray⟩,cV r])
 | .xJ c=>.iface 333 (.agg #[cV c])
 | .cmp s l r=>.iface 340 (.agg #[xV l,.string ⟨s.toArray⟩,xV r])
 | .Fy x n=>.iface 343 (.agg #[xV x,.bool n])
def F5:FC->Nat
 | .nil=>1| .BS _ l r=>F5 l+F5 r+1| .xJ c=>F5 c+1| .cmp _ l r=>CS l+CS r+1| .Fy x _=>CS x+1
def Q5:FC->Prop
 | .nil=>True| .BS _ l r=>Q5 l/\Q5 r/\l≠.nil/\r≠.nil| .xJ c=>Q5 c/\c≠.nil| .cmp _ l r=>Gp l/\Gp r| .Fy x _=>Gp x
def Zau(n:Bool)(c:PC):PC:=if n then .xJ c else c
def Ce:FC->yR->Bool->Option (PC×yR×Bool)
 | .nil,e,cl=>some (.always,e,cl)
 | .BS s l r,e,cl=>(Ce l e cl).bind λa=>(Ce r a.2.1 a.2.2).map λb=>(.BS (decide (s= [97,110,100])) a.1 b.1,b.2.1,b.2.2)
 | .xJ c,e,cl=>(Ce c e cl).map λa=>(.xJ a.1,a.2.1,a.2.2)
 | .cmp s l r,e,cl=>(zo l e cl).bind λa=>(zo r a.2.2.1 a.2.2.2).map λb=>(.cmp s a.1 b.1,b.2.2.1,b.2.2.2||Cz a.2.1 b.2.1)
 | .Fy x n,e,cl=>(zo x e cl).map λa=>(Zau n (.Fy a.1),a.2.2.1,a.2.2.2)
theorem R8:∀{c:FC} {e e':yR} {cl cl':Bool} {p:PC},Ce c e cl=some (p,e',cl')->room e'<=room e+F5 c/\e'.xs=e.xs/\(e.xB=none->e'.xB=none)
 | .nil,e,e',cl,cl',p,h=>by
  rw[Ce]at h;cases h;exact⟨Z,rfl,λh=>h⟩
 | .BS s l r,e,e',cl,cl',p,h=>by
  rw[Ce]at h;obtain⟨⟨p1,e1,c1⟩,hl,h2⟩:=qV.1 h;obtain⟨⟨p2,e2,c2⟩,hr,h3⟩:=pO.1 h2;cases h3;have a:=R8 hl;have b:=R8 hr;exact⟨iL,b.2.1.trans a.2.1,λh=>b.2.2 (a.2.2 h)⟩
 | .xJ c,e,e',cl,cl',p,h=>by
  rw[Ce]at h;obtain⟨⟨p1,e1,c1⟩,hl,h2⟩:=pO.1 h;cases h2;have a:=R8 hl;exact⟨iM,a.2⟩
 | .cmp s l r,e,e',cl,cl',p,h=>by
  rw[Ce]at h;obtain⟨⟨p1,t1,e1,c1⟩,hl,h2⟩:=qV.1 h;obtain⟨⟨p2,t2,e2,c2⟩,hr,h3⟩:=pO.1 h2;cases h3;have a:=KN hl;have b:=KN hr;exact⟨iL,b.2.1.trans a.2.1,λh=>b.2.2 (a.2.2 h)⟩
 | .Fy x n,e,e',cl,cl',p,h=>by
  rw[Ce]at h;obtain⟨⟨p1,t1,e1,c1⟩,hl,h2⟩:=pO.1 h;cases h2;have a:=KN hl;exact⟨iM,a.2⟩
def CoR(W0 W:World)(C M b:Nat)(e:yR)(wb:Option Nat)(res:Option (PC×yR×Bool))(en:Ending)(W':World):Prop:=
 (res=none/\Gx W0 en W')\/∃p e' cl' K cap,res=some (p,e',cl')/\en= .returned (.func (.func K) #[] cap)/\DC W' wb p (.func (.func K) #[] cap)/\yS W0 W' b e'/\yL W0 C M cl' W'/\CF W W'/\(e.xB=none->KT Cu W W')
def Ty(c:FC):Prop:=∀(W0 W:World) (C M b:Nat) (e:yR) (cl:Bool) (wb:Option Nat),yL W0 C M cl W->yS W0 W b e->room e+F5 c<=400->Q5 c->
 Calls prog 95 #[vU C,cV c,vU b] W (CoR W0 W C M b e wb (Ce c e cl))
def Zme(c)(h:c≠.nil):∃n y,cV c= .iface n y:=by cases c<;>first|exact absurd rfl h|exact⟨_,_,rfl⟩
def ZGt:Ty .nil:=by
 intro W0 W C M b e cl wb hC hP hr hk;have HC:=vR hC;have HP:=vR hP;clear hC hP hr hk;rw[cV,Ce];unfold vU;go_enter func95,ntmps95;go_wp2_with fail;refine(ZP5 _ wb).mono ?_;rintro en w1 ⟨f,rfl,hf,hB⟩;obtain⟨Kf,cp,rfl,_⟩:=hf.func;have HF:=vR hf;clear hf;go_wp2_with fail;go_ret;exact .inr ⟨_,_,_,Kf,cp,rfl,rfl,HF.out,HP.out.below hB,HC.out.below hB,CF.vZ hB,λ_=>KT.vZ hB⟩
def Z0o{p:Prop}(h:p:=by
 have xM:=vR wV;obtain⟨b',rfl,_⟩:=wV;clear wO;go_wp2;exact⟨rfl,.inl ⟨yD.out,xM.out⟩⟩):p:=h
def ZGu(c)(hc:Ty c):Ty (.xJ c):=by
 intro W0 W C M b e cl wb hC hP hr hk;have HN:=vR (λw' (hB:vV W w')=>hc W0 w' C M b e cl wb (hC.below hB) (hP.below hB) gG hk.1);have Ap:Hid (Ce (.xJ c) e cl=(Ce c e cl).map λa=>(.xJ a.1,a.2.1,a.2.2)):=by show _=_;rw[Ce]
 generalize Ce (.xJ c) e cl=res at *;rw[cV];obtain⟨ln,ly,Bl⟩:=Zme c hk.2;rw[Bl]at HN ⊢;have ta:=ZAD (.agg #[.iface ln ly]);have tb:=ZAE (.agg #[.iface ln ly]);clear hc hC hP hr hk Bl;unfold vU at *;go_enter func95,ntmps95;go_wp2_with fail;have xA:vV W (W.alloc (.cells #[.iface ln ly] 333)):=(nW _ W).alloc (nV _) _;refine(HN.out _ xA).mono ?_;rintro en w1 (⟨wO,wV⟩|⟨p,e',cl',Kf,cp,xz,rfl,hf,wP,zG,yQ,hG1⟩)
 ·have yD:Hid (res=none):=by show _=_;rw[Ap.out,wO];try rfl
  exact Z0o
 have HR:Hid (res=some (.xJ p,e',cl')):=by show _=_;rw[Ap.out,xz];try rfl
 have HH:Hid (yS W0 w1 b e'/\yL W0 C M cl' w1/\CF W w1/\(e.xB=none->KT Cu W w1)):=⟨wP,zG,(CF.vZ xA).trans yQ,λh=>(KT.vZ xA).tc (hG1 h)⟩;have OC:=vR (ZpG w1 wb _ p hf);clear xz hf wP zG yQ hG1;go_wp2_with fail;refine OC.out.mono ?_;rintro en w2 ⟨f,rfl,yj,wK⟩;obtain⟨K2,yZ,rfl,_⟩:=yj.func;have Bz:=vR yj;clear yj;go_wp2_with fail;go_ret;exact .inr ⟨_,_,_,K2,yZ,HR.out,rfl,Bz.out,HH.out.1.below wK,HH.out.2.1.below wK,HH.out.2.2.1.trans (CF.vZ wK),λh=>(HH.out.2.2.2 h).tc (KT.vZ wK)⟩
def Ztv(W)(wb)(n)(p)(Kf:Nat)(cp)(hf:DC W wb p (.func (.func Kf) #[] cp)):Calls prog 150 #[.bool n,.func (.func Kf) #[] cp] W (TU W wb (Zau n p)):=by
 have HF:=vR hf;have OC:=vR (ZpG W wb _ p hf);clear hf;cases n
 ·go_enter func150,ntmps150;go_wp2_with fail;go_ret;exact⟨_,rfl,HF.out,nW _ _⟩
 ·go_enter func150,ntmps150;go_wp2_with fail;refine OC.out.mono ?_;rintro en w2 ⟨f,rfl,yj,wK⟩;obtain⟨K2,yZ,rfl,_⟩:=yj.func;have Bz:=vR yj;clear yj;go_wp2_with fail;go_ret;exact⟨_,rfl,Bz.out,wK⟩
def ZGr(x)(n):Ty (.Fy x n):=by
 intro W0 W C M b e cl wb hC hP hr hk;have HN:=vR (λw' (hB:vV W w')=>Uu x W0 w' C M b e cl (hC.below hB) (hP.below hB) gG hk);have Ap:Hid (Ce (.Fy x n) e cl=(zo x e cl).map λa=>(Zau n (.Fy a.1),a.2.2.1,a.2.2.2)):=by show _=_;rw[Ce]
 generalize Ce (.Fy x n) e cl=res at *;rw[cV];obtain⟨ln,ly,hxv⟩:=Gq x;rw[hxv]at HN ⊢;have ta:=ZTq (.agg #[.iface ln ly,.bool n]);have tb:=ZTr (.agg #[.iface ln ly,.bool n]);have tc:=ZTs (.agg #[.iface ln ly,.bool n]);have td:=ZTt (.agg #[.iface ln ly,.bool n]);clear hC hP hr hk hxv;unfold vU at *;go_enter func95,ntmps95;go_wp2_with fail;generalize yn:W.alloc (.cells #[.iface ln ly,.bool n] 343)=Wp;have xA:vV W Wp:=by rw[<-yn];exact(nW _ W).alloc (nV _) _
 have yX:Wp.heap[W.heap.size]? =some (.cells #[.iface ln ly,.bool n] 343):=by rw[<-yn];exact xI W _
 clear yn;obtain⟨c0,c1,_,_⟩:=wS yX;refine(HN.out _ xA).mono ?_;rintro en w1 (⟨wO,wV⟩|⟨p,t,e',cl',Kf,cp,xz,rfl,hf,wP,zG,yQ,hG1⟩)
 ·have yD:Hid (res=none):=by show _=_;rw[Ap.out,wO];try rfl
  exact Z0o
 have HR:Hid (res=some (Zau n (.Fy p),e',cl')):=by show _=_;rw[Ap.out,xz];try rfl
 have HH:Hid (yS W0 w1 b e'/\yL W0 C M cl' w1/\CF W w1/\(e.xB=none->KT Cu W w1)):=⟨wP,zG,(CF.vZ xA).trans yQ,λh=>(KT.vZ xA).tc (hG1 h)⟩;have yG:=yQ.cells yX O;obtain⟨d0,d1,_,_⟩:=wS yG;have OC:=vR (ZQo w1.drew wb _ p (hf.same (KT.vZ (yF (nW _ _) 1))));clear xz hf wP zG yQ hG1 c0 c1;go_wp2_with fail;refine vM (S:=λw'=>w'.cell? ⟨W.heap.size,1,none⟩=some (.bool n)) af (by exact d1) (λwL=>?_);refine tk 0 ?_;refine tk 1 ?_;refine tk 2 ?_;refine og (rs:= [3]) af ae (nZ rfl (λK hK=>?_) oh);go_simp;refine OC.out.mono ?_;rintro en w2 ⟨f,rfl,yj,wK⟩;obtain⟨K2,yZ,rfl,_⟩:=yj.func;replace wK:vV w1 w2:=(yF (nW _ w1) 1).trans (wK.mono (by exact nV _));have Eb:=xq wK yG;refine hK.out _ _ (by exact(wS Eb).2.1) (λwL=>?_);clear hK K;refine og (rs:= [4]) af ae (nZ rfl (λK hK=>?_) oh);go_simp;refine(Ztv w2 wb n _ K2 yZ yj).mono ?_;rintro en w3 ⟨f,rfl,JF,wH⟩;obtain⟨K3,YZ,rfl,_⟩:=JF.func;have EI:=xq wH Eb;refine hK.out _ _ (by exact(wS EI).2.1) (λwL=>?_);clear hK K;refine tk 5 ?_;refine oP af ?_ _;have Uw:=wK.trans (wH.mono wK.size);have JX:=vR JF;clear yj JF;go_wp2_with fail;go_ret;exact .inr ⟨_,_,_,K3,YZ,HR.out,rfl,JX.out,HH.out.1.below Uw,HH.out.2.1.below Uw,HH.out.2.2.1.trans (CF.vZ Uw),λh=>(HH.out.2.2.2 h).tc (KT.vZ Uw)⟩
def ZGs(s)(x y)(hx:Ty x)(hy:Ty y):Ty (.BS s x y):=by
 intro W0 W C M b e cl wb hC hP hr hk;have EA:room e+F5 x+F5 y<=400:=by rw[F5]at hr;omega
 have V6:=vR (λw' (hB:vV W w')=>hx W0 w' C M b e cl wb (hC.below hB) (hP.below hB) Z hk.1);have F8:=vR (λp1 e1 c1 w' (he:Ce x e cl=some (p1,e1,c1)) (Zq:yS W0 w' b e1) (Ux:yL W0 C M c1 w')=>hy W0 w' C M b e1 _ wb Ux Zq (by have:=(R8 he).1;omega) hk.2.1);have Ap:Hid (Ce (.BS s x y) e cl=(Ce x e cl).bind λa=>(Ce y a.2.1 a.2.2).map λb=>(.BS (decide (s= [97,110,100])) a.1 b.1,b.2.1,b.2.2)):=by show _=_;rw[Ce]
 have HG:=vR (λp1 e1 c1 (he:Ce x e cl=some (p1,e1,c1))=>(R8 he).2.2);generalize Ce (.BS s x y) e cl=res at *;rw[cV];obtain⟨ln,ly,hxv⟩:=Zme x hk.2.2.1;obtain⟨rn,ry,hyv⟩:=Zme y hk.2.2.2;rw[hxv]at V6 ⊢;rw[hyv]at F8 ⊢;have ta:=ZTx (.agg #[.iface ln ly,.string ⟨s.toArray⟩,.iface rn ry]);clear hx hy hC hP hr EA hk hxv hyv;unfold vU at *;go_enter func95,ntmps95;go_wp2_with fail;generalize yn:W.alloc (.cells #[.iface ln ly,.string ⟨s.toArray⟩,.iface rn ry] 330)=Wp;have xA:vV W Wp:=by rw[<-yn];exact(nW _ W).alloc (nV _) _
 have yX:Wp.heap[W.heap.size]? =some (.cells #[.iface ln ly,.string ⟨s.toArray⟩,.iface rn ry] 330):=by rw[<-yn];exact xI W _
 clear yn;obtain⟨c0,c1,c2⟩:=xh yX;refine vM (S:=λw'=>w'.cell? ⟨W.heap.size,0,none⟩=some (.iface ln ly)/\w'.cell? ⟨W.heap.size,1,none⟩=some (.string ⟨s.toArray⟩)/\w'.cell? ⟨W.heap.size,2,none⟩=some (.iface rn ry)) af ⟨by exact c0,by exact c1,by exact c2⟩ (λwL=>?_);refine tk 0 ?_;refine tk 1 ?_;refine tk 2 ?_;refine tk 3 ?_;refine tk 4 ?_;refine tk 5 ?_;refine tk 6 ?_;refine tk 7 ?_;refine tk 9 ?_;refine tk 10 ?_;refine tk 11 ?_;refine tk 12 ?_;refine tk 13 ?_;refine og (rs:= [8]) af ae (nZ rfl (λK hK=>?_) oh);go_simp;refine(V6.out _ (yF xA 1)).mono ?_;rintro en w1 (⟨wO,wV⟩|⟨p1,e1,Ac,K1,Cr,QV,rfl,Ci,wP,zG,yQ,hG1⟩)
 ·have yD:Hid (res=none):=by show _=_;rw[Ap.out,wO];try rfl
  exact Z0o
 have yG:=yQ.cells dJ O;obtain⟨d0,d1,d2⟩:=xh yG;refine hK.out _ _ ⟨by exact d0,by exact d1,by exact d2⟩ (λwL=>?_);clear hK K;refine og (rs:= [14]) af ae (nZ rfl (λK hK=>?_) oh);go_simp;have ZdE:=vR (F8.out p1 e1 Ac w1 QV wP zG);have Df:=vR QV;clear QV;refine ZdE.out.mono ?_;rintro en w2 (⟨wO,wV⟩|⟨p2,e2,Cb,K2,yZ,hres2,rfl,yj,hP2,CE,hF2,MH⟩)
 ·have yD:Hid (res=none):=by show _=_;rw[Ap.out,Df.out,Option.bind_some,wO];try rfl
  exact Z0o
 have HR:Hid (res=some (.BS (decide (s= [97,110,100])) p1 p2,e2,Cb)):=by show _=_;rw[Ap.out,Df.out,Option.bind_some,hres2];try rfl
 clear hres2;have Eb:=hF2.cells yG O;obtain⟨g0,g1,g2⟩:=xh Eb;refine hK.out _ _ ⟨by exact g0,by exact g1,by exact g2⟩ (λwL=>?_);clear hK K;refine og (rs:= [15]) af ae (nZ rfl (λK hK=>?_) oh);go_simp;refine(ZQt w2 wb s _ _ p1 p2 (Ci.same hF2.BV) yj).mono ?_;rintro en w3 ⟨f,rfl,JF,wH⟩;obtain⟨K3,YZ,rfl,_⟩:=JF.func;have EI:=xq wH Eb;obtain⟨k0,k1,k2⟩:=xh EI;refine hK.out _ _ ⟨by exact k0,by exact k1,by exact k2⟩ (λwL=>?_);clear hK K;refine tk 16 ?_;refine oP af ?_ _;have HGG:=vR (fun(h:e.xB=none)=>(((KT.vZ (yF xA 1)).tc (hG1 h)).tc (MH (HG.out _ _ _ Df.out h))).tc (KT.vZ wH));have HCF:=vR ((((CF.vZ (yF xA 1)).trans yQ).trans hF2).trans (CF.vZ wH));have P9:=vR (hP2.below wH);have TG:=vR (CE.below wH);have JX:=vR JF;clear Ci wP zG yQ hG1 yj hP2 CE hF2 MH JF;go_wp2_with fail;go_ret;exact .inr ⟨_,_,_,K3,YZ,HR.out,rfl,JX.out,P9.out,TG.out,HCF.out,HGG.out⟩
def ZFq(s)(x y)(W0 W)(C M b)(e)(cl)(wb)(hC:yL W0 C M cl W)(hP:yS W0 W b e)(hr:room e+CS x+CS y<=400)(hkx:Gp x)(hky:Gp y):
  Calls prog 148 #[vU C,.agg #[xV x,.string ⟨s.toArray⟩,xV y],vU b] W (CoR W0 W C M b e wb (Ce (.cmp s x y) e cl)):=by
 have V6:=vR (λw' (hB:vV W w')=>Uu x W0 w' C M b e cl (hC.below hB) (hP.below hB) Z hkx);have F8:=vR (λp1 t1 e1 c1 w' (he:zo x e cl=some (p1,t1,e1,c1)) (Zq:yS W0 w' b e1) (Ux:yL W0 C M c1 w')=>Uu y W0 w' C M b e1 _ Ux Zq (by have:=(KN he).1;omega) hky);have Ap:Hid (Ce (.cmp s x y) e cl=(zo x e cl).bind λa=>(zo y a.2.2.1 a.2.2.2).map λb=>(.cmp s a.1 b.1,b.2.2.1,b.2.2.2||Cz a.2.1 b.2.1)):=by show _=_;rw[Ce]
 have HG:=vR (λp1 t1 e1 c1 (he:zo x e cl=some (p1,t1,e1,c1))=>(KN he).2.2);generalize Ce (.cmp s x y) e cl=res at *;obtain⟨ln,ly,hxv⟩:=Gq x;obtain⟨rn,ry,hyv⟩:=Gq y;rw[hxv]at V6 ⊢;rw[hyv]at F8 ⊢;clear hC hP hr hkx hky hxv hyv;unfold vU at *;go_enter func148,ntmps148;go_wp2_with fail;generalize yn:W.alloc (.cells #[.iface ln ly,.string ⟨s.toArray⟩,.iface rn ry] 340)=Wp;have xA:vV W Wp:=by rw[<-yn];exact(nW _ W).alloc (nV _) _
 have yX:Wp.heap[W.heap.size]? =some (.cells #[.iface ln ly,.string ⟨s.toArray⟩,.iface rn ry] 340):=by rw[<-yn];exact xI W _
 clear yn;obtain⟨c0,c1,c2⟩:=xh yX;refine(V6.out _ xA).mono ?_;rintro en w1 (⟨wO,wV⟩|⟨p1,t1,e1,Ac,K1,Cr,QV,rfl,Ci,wP,zG,yQ,hG1⟩)
 ·have yD:Hid (res=none):=by show _=_;rw[Ap.out,wO];try rfl
  exact Z0o
 have yG:=yQ.cells dJ O;obtain⟨d0,d1,d2⟩:=xh yG;have ZdE:=vR (F8.out p1 t1 e1 Ac w1 QV wP zG);have Df:=vR QV;have H1:Hid (zz w1 p1 (.func (.func K1) #[] Cr)/\CF W w1/\(e.xB=none->KT Cu W w1)):=⟨Ci,(CF.vZ xA).trans yQ,λh=>(KT.vZ xA).tc (hG1 h)⟩;clear QV Ci wP zG yQ hG1 c0 c1 c2;go_wp2_with fail;refine ZdE.out.mono ?_;rintro en w2 (⟨wO,wV⟩|⟨p2,t2,e2,Cb,K2,yZ,hres2,rfl,yj,hP2,CE,hF2,MH⟩)
 ·have yD:Hid (res=none):=by show _=_;rw[Ap.out,Df.out,Option.bind_some,wO];try rfl
  exact Z0o
 have HR:Hid (res=some (.cmp s p1 p2,e2,Cb||Cz t1 t2)):=by show _=_;rw[Ap.out,Df.out,Option.bind_some,hres2];try rfl
 have Eb:=hF2.cells yG O;have HTG:=vR (ZhV W0 C M Cb t1 t2 w2 CE);have H2:Hid (zz w2 p1 (.func (.func K1) #[] Cr)/\zz w2 p2 (.func (.func K2) #[] yZ)/\CF W w2/\(e.xB=none->KT Cu W w2)/\yS W0 w2 b e2/\yL W0 C M Cb w2):=⟨H1.out.1.same hF2.BV,yj,H1.out.2.1.trans hF2,λh=>(H1.out.2.2 h).tc (MH (HG.out _ _ _ _ Df.out h)),hP2,CE⟩;clear hres2 yj hP2 CE hF2 MH d0 d1 d2;go_wp2_with fail;refine HTG.out.mono ?_;rintro en w3 ⟨rfl,Lv,Uy⟩;obtain⟨h1,h2,h3⟩:=CF.ck Lv H2.out.2.2.2.2.2;have EI:=h1.cells Eb O;obtain⟨k0,k1,k2⟩:=xh EI;have YD:=vR (ZQf w3 wb s _ _ p1 p2 (H2.out.1.same h1.BV) (H2.out.2.1.same h1.BV));have TG:=vR Uy;clear Lv Uy;go_wp2_with fail;refine YD.out.mono ?_;rintro en w4 ⟨f,rfl,ZO,xw⟩;obtain⟨K4,cap4,rfl,_⟩:=ZO.func;have P5:=vR ZO;clear ZO;go_wp2_with fail;go_ret;exact .inr ⟨_,_,_,K4,cap4,HR.out,rfl,P5.out,(H2.out.2.2.2.2.1.cf h1 h2 h3).below xw,TG.out.below xw,(H2.out.2.2.1.trans h1).trans (CF.vZ xw),λh=>((H2.out.2.2.2.1 h).tc h3).tc (KT.vZ xw)⟩
def ZGq(s)(x y):Ty (.cmp s x y):=by
 intro W0 W C M b e cl wb hC hP hr hk;have HN:=vR (λw' (hB:vV W w')=>ZFq s x y W0 w' C M b e cl wb (hC.below hB) (hP.below hB) gG hk.1 hk.2);generalize Ce (.cmp s x y) e cl=res at *;rw[cV];obtain⟨ln,ly,hxv⟩:=Gq x;obtain⟨rn,ry,hyv⟩:=Gq y;rw[hxv,hyv]at HN ⊢;have ta:=ZTc (.agg #[.iface ln ly,.string ⟨s.toArray⟩,.iface rn ry]);have tb:=ZTd (.agg #[.iface ln ly,.string ⟨s.toArray⟩,.iface rn ry]);have tc:=ZTe (.agg #[.iface ln ly,.string ⟨s.toArray⟩,.iface rn ry]);clear hC hP hr hk hxv hyv;unfold vU at *;go_enter func95,ntmps95;go_wp2_with fail;have xA:vV W (W.alloc (.cells #[.iface ln ly,.string ⟨s.toArray⟩,.iface rn ry] 340)):=(nW _ W).alloc (nV _) _;refine(HN.out _ xA).mono ?_;rintro en w1 (⟨wO,wV⟩|⟨p,e',cl',Kf,cp,xz,rfl,hf,wP,zG,yQ,hG1⟩)
 ·have yD:=vR wO;exact Z0o
 have HE:Hid (CoR W0 W C M b e wb res (.returned (.func (.func Kf) #[] cp)) w1):=.inr ⟨p,e',cl',Kf,cp,xz,rfl,hf,wP,zG,(CF.vZ xA).trans yQ,λh=>(KT.vZ xA).tc (hG1 h)⟩;clear xz hf wP zG yQ hG1;go_wp2_with fail;go_ret;exact HE.out
theorem ZbD:∀c,Ty c
 | .nil=>ZGt
 | .BS s l r=>ZGs s l r (ZbD l) (ZbD r)
 | .xJ c=>ZGu c (ZbD c)
 | .cmp s l r=>ZGq s l r
 | .Fy x n=>ZGr x n
def FI{k:IntKind}{a b:Int}(h:a=b):Value.int k a= .int k b:=by rw[h]
def Zpk(W)(g)(s t:vS)(c0:W.cell? ⟨g,0,none⟩=some (.string ⟨s.toArray⟩))(c1:W.cell? ⟨g,1,none⟩=some (.string ⟨t.toArray⟩)):
  Calls prog 142 #[.slice (some ⟨g,0,none⟩) 2 2] W λe w'=>e= .returned (.string ⟨(if s= []then t else s).toArray⟩)/\W=w':=by
 go_enter func142,ntmps142;go_wp2_with fail;go_loopg [8] 3 (λgk iv wr=>∃k:Nat,k<=2/\gk=3-k/\iv= .int .i64 k/\W=wr/\Hid (1<=k->s= [])/\Hid (2<=k->t= []));case atStart=>exact⟨0,Z,Z,rfl,rfl,λh=>Z,λh=>Z⟩
 case round=>
  obtain⟨k,hk,rfl,rfl,rfl,h1,h2⟩:=hrel;rcases k with _|_|_|k
  ·by_cases hs:s= []
   ·have HS:=vR hs;subst hs;go_wp2_with fail;go_roundg 2;case measure=>omega
    case rel=>exact⟨1,Z,rfl,rfl,rfl,iN,λh=>Z⟩
   ·have hb:(s== [])=false:=by simpa using hs
    have HS:Hid (s≠ []):=hs;clear hs;go_wp2_with fail;go_ret;exact⟨by first|rfl|(rw[nU HS.out];try rfl),rfl⟩
  ·have HS:=vR (h1.out Z);by_cases ht:t= []
   ·subst ht;go_wp2_with fail;go_roundg 1;case measure=>omega
    case rel=>exact⟨2,Z,rfl,rfl,rfl,λ_=>HS.out,iN⟩
   ·have hb:(t== [])=false:=by simpa using ht
    clear ht;go_wp2_with fail;go_ret;exact⟨by first|rfl|(rw[nY HS.out];try rfl),rfl⟩
  ·have HS:=vR (h1.out Z);have HT:=vR (h2.out Z);go_wp2_with fail;go_ret;exact⟨by first|rfl|(rw[nY HS.out,HT.out];try rfl)|(rw[HT.out];try rfl),rfl⟩
  ·omega
def YT(W:World)(sa:Option Addr)(xs:List SX):Prop:=∀i (h:i<xs.length),∃g f,sa=some ⟨g,0,none⟩/\W.cell? ⟨g,i*3,none⟩=some (.string ⟨xs[i].name.toArray⟩)/\W.cell? ⟨g,i*3+1,none⟩=some (.pointer (some ⟨xs[i].T,0,none⟩))/\W.cell? ⟨g,i*3+2,none⟩=some (.int .i64 f)
def YT.below{sa}(h:YT W sa xs)(hB:vV W W'):YT W' sa xs:=λi hi=>by
 obtain⟨g,f,e,c0,c1,c2⟩:=h i hi;exact⟨g,f,e,wT hB (oH W _ c0) c0,wT hB (oH W _ c1) c1,wT hB (oH W _ c2) c2⟩
def ZM9(W)(b)(nm on:vS)(pv)(f)(c:W.cell? ⟨b,0,none⟩=some (.string ⟨nm.toArray⟩)):
  Calls prog 144 #[.agg #[.string ⟨on.toArray⟩,.pointer pv,.int .i64 f],.pointer (some ⟨b,0,none⟩)] W λe w'=>e= .returned (.bool (on==nm))/\vV W w':=by
 have zi:=oH W _ c;go_enter func144,ntmps144;exact kK
def ZM4(W)(sa)(cap b:Nat)(xs)(nm:vS)(hS:YT W sa xs)(hl:xs.length<=400)(hc:W.cell? ⟨b,0,none⟩=some (.string ⟨nm.toArray⟩)):
  Calls prog 206 #[.slice sa xs.length cap,.func (.func 144) #[] #[.pointer (some ⟨b,0,none⟩)]] W λe w'=>(∃n:Int,e= .returned (.int .i64 n)/\ -1<=n/\n<=400/\(0<=n↔nm∈xs.map (·.name)))/\vV W w':=by
 have HS:=(show Hid _ from hS);have zi:=oH W _ hc;clear hS;go_enter func206,ntmps206;go_wp2_with fail;go_loopg [8] (xs.length+1) (λgk iv wr=>∃k:Nat,k<=xs.length/\gk=xs.length-k+1/\iv= .int .i64 k/\vV W wr/\Hid (∀j (hj:j<xs.length),j<k->xs[j].name≠nm));case atStart=>exact⟨0,Z,Z,rfl,nW _ _,λj _ h=>Z⟩
 case round=>
  obtain⟨k,hk,rfl,rfl,hB,wO⟩:=hrel;by_cases hlt:k<xs.length
  ·obtain⟨g,f,rfl,q0,q1,q2⟩:=YT.below HS.out hB k hlt;have ZI:=wT hB zi hc;have hki:(k:Int)<(xs.length:Int):=by omega
   have HM:Hid (nm∈xs.map (·.name)\/xs[k].name≠nm):=by
    by_cases h:xs[k].name=nm
    ·exact .inl (qm.2 ⟨_,oC hlt,h⟩)
    ·exact .inr h
   have NZ:=ZM9 wr b nm xs[k].name (some ⟨xs[k].T,0,none⟩) f ZI;by_cases he:xs[k].name=nm
   ·have HE:Hid (nm∈xs.map (·.name)):=qm.2 ⟨_,oC hlt,he⟩;rw[show(xs[k].name==nm)=true from by simpa using he]at NZ;clear he HM;generalize xs[k]=x at *;exact kS
   ·have HN:Hid (∀j (hj:j<xs.length),j<k+1->xs[j].name≠nm):=λj hj h=>by
     by_cases e:j=k
     ·subst e;exact he
     ·exact wO.out j hj Z
    rw[show(xs[k].name==nm)=false from by simpa using he]at NZ;clear he HM;generalize xs[k]=x at *;go_wp2_with fail;refine NZ.mono ?_;rintro e w2 ⟨rfl,wK⟩;go_wp2_with fail;go_roundg (xs.length-(k+1)+1);case measure=>omega
    case rel=>exact jR
  ·have HM:Hid (nm∉xs.map (·.name)):=λhm=>by
    obtain⟨x,hx,e⟩:=qm.1 hm;obtain⟨j,hj,rfl⟩:=rY hx;exact wO.out j hj Z e
   exact kQ
def ZM2(W)(sa)(cap b:Nat)(xs)(nm:vS)(hS:YT W sa xs)(hl:xs.length<=400)(hc:W.cell? ⟨b,0,none⟩=some (.string ⟨nm.toArray⟩)):
  Calls prog 143 #[.slice sa xs.length cap,.func (.func 144) #[] #[.pointer (some ⟨b,0,none⟩)]] W λe w'=>e= .returned (.bool ((xs.map (·.name)).contains nm))/\vV W w':=by
 go_enter func143,ntmps143;go_wp2_with fail;refine(ZM4 _ sa cap b xs nm hS hl hc).mono ?_;rintro e w' ⟨⟨n,rfl,h1,h2,h3⟩,hB⟩;have HC:Hid ((xs.map (·.name)).contains nm=decide (0<=n)):=by
  show _=_;rw[p9,oL,h3,rC]
 clear h3;go_wp2_with fail;go_ret;exact⟨dZ,hB⟩
def elem_nil{v:Value}{ps:List MemPlace}(h:Pv v=some (.agg [],ps)):v= .pointer none:=by
 unfold Pv at h;split at h
 ·cases h
 ·cases h
 ·rfl
 ·cases h
def ZBv(w):(zeroValue 88).run prog w= .ok (.pointer none) w:=by kernel_rfl
structure JV (W0:World) (M:Nat) (db:List (vS×Nat×Ar)):Prop where
 val:JS W0 M db.length (db.map λx=>(x.1,nP x.2.1))
 nd:(db.map (·.1)).Nodup
 ne:∀x∈db,x.1≠ []
 VH:∀x∈db,Ub W0 x.2.1 x.2.2
def OP:List (vS×Nat×Ar)->vS->Option (Nat×Ar)
 | [],_=>none
 |x::r,s=>if x.1=s then some x.2 else OP r s
theorem Zut:∀{db:List (vS×Nat×Ar)} {s:vS} {y:Nat×Ar},OP db s=some y->(s,y)∈db
 |x::r,s,y,h=>by
  rw[OP]at h;split at h
  ·rename_i e;cases h;subst e;exact tF
  ·exact qb _ (Zut h)
theorem Zuu:∀{db:List (vS×Nat×Ar)} {s:vS},OP db s=none->s∉db.map (·.1)
 | [],s,_=>ae
 |x::r,s,h=>by
  rw[OP]at h;split at h
  ·cases h
  ·rename_i e;rw[oq,oQ,not_or];exact⟨λe2=>e e2.symm,Zuu h⟩
def XI(p:vS×vS):vS:=if p.2= []then p.1 else p.2
def Zdb(db:List (vS×Nat×Ar)):List (vS×vS)->List SX->Option (List SX)
 | [],xs=>some xs
 |p::r,xs=>match OP db p.1 with
  |none=>none
  |some y=>if XI p∈xs.map (·.name)then none else Zdb db r (xs++ [⟨XI p,y.1,y.2⟩])
def M6(db:List (vS×Nat×Ar))(ps:List (vS×vS)):Option (List SX):=if ps.length<=3 then Zdb db ps []else none
def ZOu(hD:JV W0 M db)(s)(hs:s.length<=100000):M<W0.heap.size/\
  ((∃y,OP db s=some y/\Ub W0 y.1 y.2/\s≠ []/\∀w,w.heap[M]? =W0.heap[M]?->(Instr.lookup 48 (.map (some M)) (.string ⟨s.toArray⟩) true).run prog w= .ok (.tuple #[.pointer (some ⟨y.1,0,none⟩),.bool true]) w)\/
  (OP db s=none/\∀w,w.heap[M]? =W0.heap[M]?->(Instr.lookup 48 (.map (some M)) (.string ⟨s.toArray⟩) true).run prog w= .ok (.tuple #[.pointer none,.bool false]) w)):=by
 have hM:M<W0.heap.size:=by
  obtain⟨es,ck,hm⟩:=hD.val.obj;exact(wo hm)
 have Zn8:(db.map λx=>(x.1,nP x.2.1)).map (·.1)=db.map (·.1):=by rw[rD];try rfl
 refine⟨hM,?_⟩;cases hf:OP db s with
 |some y=>
  have hy:=Zut hf;have hm:s∈db.map (·.1):=qm.2 ⟨_,hy,rfl⟩;have LG:(s,nP y.1)∈db.map λx=>(x.1,nP x.2.1):=qm.2 ⟨_,hy,rfl⟩;refine .inl ⟨y,rfl,hD.VH _ hy,hD.ne _ hy,λw hw=>?_⟩;obtain⟨v,ps,Ba,hv⟩:=vK (R:=Pv) (D:=Ov (db.map λx=>(x.1,nP x.2.1))) (Il hD.val hw) K8 underlying48 (ZBv w) rfl (K7 s hs);rw[ZiT,Zn8,rC.2 hm]at Ba;rw[ZsN (by rw[Zn8];exact hD.nd) LG]at hv;rw[ZHd hv]at Ba;exact Ba
 |none=>
  have hm:=Zuu hf;refine .inr ⟨rfl,λw hw=>?_⟩;obtain⟨v,ps,Ba,hv⟩:=vK (R:=Pv) (D:=Ov (db.map λx=>(x.1,nP x.2.1))) (Il hD.val hw) K8 underlying48 (ZBv w) rfl (K7 s hs);have hh:Maps.has (Ov (db.map λx=>(x.1,nP x.2.1))) (AB s)=false:=by rw[ZiT,Zn8,uM];simpa using hm
  rw[hh]at Ba;rw[Maps.atKey_of_not_has hh]at hv;rw[elem_nil hv]at Ba;exact Ba
def JR:List SX->Nat->List Value
 | [],_=> []
 |x::r,f=>.string ⟨x.name.toArray⟩:: .pointer (some ⟨x.T,0,none⟩):: .int .i64 (f:Int)::JR r (f+x.tb.wu.length)
theorem ZAl:∀xs x f,JR (xs++ [x]) f=JR xs f++ [.string ⟨x.name.toArray⟩,.pointer (some ⟨x.T,0,none⟩),.int .i64 ((f+AL xs xs.length:Nat):Int)]
 | [],x,f=>by simp[JR,AL]
 |y::xs,x,f=>by
  rw[List.cons_append,JR,ZAl xs x,JR];have:f+y.tb.wu.length+AL xs xs.length=f+AL (y::xs) (y::xs).length:=by
   simp[AL];omega
  rw[this];try rfl
theorem ZAm:∀xs f i (h:i<xs.length),(JR xs f)[i*3]? =some (.string ⟨xs[i].name.toArray⟩)/\(JR xs f)[i*3+1]? =some (.pointer (some ⟨xs[i].T,0,none⟩))/\(JR xs f)[i*3+2]? =some (.int .i64 ((f+AL xs i:Nat):Int))
 |x::xs,f,0,_=>⟨rfl,rfl,by simp[JR,AL]⟩
 |x::xs,f,i+1,h=>by
  have ih:=ZAm xs (f+x.tb.wu.length) i ay;have e:∀j,(JR (x::xs) f)[j+3]? =(JR xs (f+x.tb.wu.length))[j]? :=λj=>by simp[JR]
  rw[show(i+1)*3=i*3+3 from Z,show i*3+3+1=i*3+1+3 from Z,show i*3+3+2=i*3+2+3 from Z,e,e,e];have hf:f+x.tb.wu.length+AL xs i=f+AL (x::xs) (i+1):=by simp[AL];omega
  rw[hf]at ih;simpa using ih
def Zze{v:Value}(h:W.ownsRow B 261 3 v xs.length (JR xs 0)):I6 W v xs:=by
 have hc:=λg=>h.cells (g:=g);rcases h.2 with⟨rfl,h0⟩|⟨g,cap,cu,rfl,_,hh,_⟩
 ·exact⟨none,0,bB,λi hi=>Z⟩
 ·refine⟨some ⟨g,0,none⟩,cap,rfl,λi hi=>?_⟩;obtain⟨e0,e1,e2⟩:=ZAm xs 0 i hi;have hg:∀j u,(JR xs 0)[j]? =some u->W.cell? ⟨g,j,none⟩=some u:=λj u hj=>by have:=hc g rfl j u hj;rw[uY]at this;simpa using this
  rw[o9]at e2;exact⟨g,cu,rfl,hh,hg _ _ e0,hg _ _ e1,hg _ _ e2⟩
def Tryz.ZMI:(prog.info? 261).map (λi=>(i.zero,i.size,i.bytes))=some (some (.agg #[.string ⟨#[]⟩,.pointer none,.int .i64 0]),3,32):=by kernel_rfl
def ZPU{v:Value}{k:Nat}(h:W.ownsRow B 261 3 v k (JR xs 0))(hk:xs.length=k):∃a cap,v= .slice a xs.length cap/\YT W a xs:=by
 subst hk;obtain⟨a,cap,rfl,hc⟩:=Zze h;refine⟨a,cap,rfl,λi hi=>?_⟩;obtain⟨g,cu,e,_,c0,c1,c2⟩:=hc i hi;exact⟨g,_,e,c0,c1,c2⟩
def ZF3(w:World)(a b c)(ty):∀j u, [a,b,c][j]? =some u->(w.alloc (.cells #[a,b,c] ty)).cell? ((⟨w.heap.size,0,none⟩:Addr).add j)=some u:=by
 intro j u h;have hb:=oK w (.cells #[a,b,c] ty);rw[uY];rcases j with _|_|_|j
 ·exact nL
 ·exact nL
 ·exact nL
 ·simp at h
def ZIb(xs)(x):AL (xs++ [x]) (xs++ [x]).length=AL xs xs.length+x.tb.wu.length:=by
 unfold AL;rw[oO (nV _),oO (nV _),oo,tL];simp
def ZDo(W0 W:World)(R:Option (List SX))(e:Ending)(W':World):Prop:=
 (R=none/\Gx W0 e W')\/∃lv xs,R=some xs/\e= .returned lv/\vV W W'/\I6 W' lv xs/\Ml W0 xs
structure RL (W0:World) (db:List (vS×Nat×Ar)) (ps:List (vS×vS)) (R:Option (List SX)) (k:Nat) (xs:List SX):Prop where
 len:xs.length=k
 run:Zdb db (ps.drop k) xs=R
 ok:Ml W0 xs
def RL.noT{ps}{R}{k}(h:RL W0 db ps R k xs)(hk:k<ps.length)(hf:OP db ps[k].1=none):R=none:=by
 rw[<-h.run,pM hk,Zdb,hf]
def RL.dup{ps}{R}{k}{y:Nat×Ar}(h:RL W0 db ps R k xs)(hk:k<ps.length)(hf:OP db ps[k].1=some y)(hd:(xs.map (·.name)).contains (XI ps[k])=true):R=none:=by
 rw[<-h.run,pM hk,Zdb,hf];exact nY (rC.1 hd)
def RL.next{ps}{R}{k}{y:Nat×Ar}(h:RL W0 db ps R k xs)(hk:k<ps.length)(hl:ps.length<=3)(hf:OP db ps[k].1=some y)(hd:(xs.map (·.name)).contains (XI ps[k])=false)(hT:Ub W0 y.1 y.2)(wF:ps[k].1≠ []):RL W0 db ps R (k+1) (xs++ [⟨XI ps[k],y.1,y.2⟩]):=by
 have hlen:=h.len;refine⟨by rw[o6,hlen];try rfl,?_,⟨by rw[o6,hlen];simp;omega,λx hx=>?_,λx hx=>?_⟩⟩
 ·rw[<-h.run,pM hk,Zdb,hf];exact(nU (λhm=>by rw[rC.2 hm]at hd;cases hd)).symm
 ·rcases qH.1 hx with h1|h1
  ·exact h.ok.VH x h1
  ·rw[qU.1 h1];exact hT
 ·rcases qH.1 hx with h1|h1
  ·exact h.ok.ne x h1
  ·rw[qU.1 h1];show XI ps[k]≠ [];unfold XI;split
   ·exact wF
   ·assumption
def ZFM(W0 W)(C M)(cl)(db)(ps)(g cap)(hD:JV W0 M db)(hC:yL W0 C M cl W)(II:ps.length<=100000)(Br:∀p∈ps,p.1.length<=1000/\p.2.length<=1000)(Qz:∀i (h:i<ps.length),W0.cell? ⟨g,i*2,none⟩=some (.string ⟨ps[i].1.toArray⟩)/\W0.cell? ⟨g,i*2+1,none⟩=some (.string ⟨ps[i].2.toArray⟩)):
  Calls prog 94 #[vU C,.slice (some ⟨g,0,none⟩) ps.length cap] W (ZDo W0 W (M6 db ps)):=by
 unfold vU;by_cases hl:ps.length<=3
 ·have Ip:Hid (RL W0 db ps (M6 db ps) 0 []):=⟨rfl,by rw[M6,nY hl];try rfl,⟨pI _,λx h=>(nomatch h),λx h=>(nomatch h)⟩⟩;have zQ:(ps.length:Int)<=3:=by omega
  generalize M6 db ps=R at *;have HPL:=(show Hid _ from Br);have HD:=(show Hid _ from hD);have HC:=(show Hid _ from hC);have Gu:=(show Hid _ from hC.low);have HCE:=(show Hid _ from Qz);clear Br hD hC Qz;obtain⟨i0,hi,hz0,yo,hz2⟩:=oM Tryz.ZMI;go_enter func94,ntmps94;go_wp2_with fail;refine(Um _).mono ?_;rintro e w' ⟨rfl,rfl⟩;go_wp2_with fail;go_loopg [5,6,18] (ps.length+1) (λgk mv fv iv wr=>∃(k:Nat) (xs:List SX),k<=ps.length/\gk=ps.length-k+1/\iv= .int .i64 k/\fv= .int .i64 (AL xs xs.length:Nat)/\wr.ownsRow W.heap.size 261 3 mv k (JR xs 0)/\vV W wr/\Hid (RL W0 db ps R k xs));case atStart=>exact⟨0, [],Z,Z,rfl,rfl,pV _ _ _ _,nW _ _,Ip.out⟩
  case round=>
   obtain⟨k,xs,hk,rfl,rfl,rfl,wD,hB,zP⟩:=hrel;have Dx:=zP.out.len;by_cases hlt:k<ps.length
   ·have hki:(k:Int)<(ps.length:Int):=by omega
    obtain⟨q0,q1⟩:=HCE.out k hlt;have xL:g<W0.heap.size:=oH W0 _ q0;have x8:=Gu.out.trans (hB.mono Gu.out.size);have r0:=wT x8 xL q0;have r1:=wT x8 xL q1;have hCr:=HC.out.below hB;obtain⟨z0,z1,z2,zf⟩:=wS hCr.obj;obtain⟨CZ,yY⟩:=HPL.out ps[k] (oC hlt);obtain⟨hM,ZK0⟩:=ZOu HD.out ps[k].1 Z;generalize Z9:ps[k]=p at *;have Nh:=(show Hid _ from Z9);clear Z9 q0 q1;obtain⟨p1,p2⟩:=p;simp only at *;go_wp2_with fail;generalize yX:(Obj.cells #[.string ⟨p1.toArray⟩,.string ⟨p2.toArray⟩] 322)=ob;have Jh:(wr.alloc ob).heap[wr.heap.size]? =some (.cells #[.string ⟨p1.toArray⟩,.string ⟨p2.toArray⟩] 322):=by rw[<-yX];exact oK wr _
    have zA:vV wr (wr.alloc ob):=(nW _ wr).alloc (nV _) _;have xX:=hB.trans (zA.mono hB.size);have ZuO:=x8.trans (zA.mono x8.size);have hzA:=(wS (hCr.below zA).obj).1;have SN:=wD.alloc ob;have Zxy:(wr.alloc ob).heap.size=wr.heap.size+1:=ae
    have hMA:∀nq,((wr.alloc ob).drewN nq).heap[M]? =W0.heap[M]? :=λnq=>ZuO.block M hM;have Ca:=(show Hid _ from zP.out);clear zP hB x8 hCr z0 z1 z2 zf r0 r1 yX wD;generalize wr.alloc ob=wA at *;obtain⟨e0,e1,_,_⟩:=wS Jh;rcases ZK0 with⟨⟨T,tb⟩,hf,hTM,wF,Ba⟩|⟨hf,Ba⟩
    ·have Jg:=λnq=>Ba _ (hMA nq);have El:(Instr.lookup 48 (.map (some M)) (.string ⟨p1.toArray⟩) true).run prog wA= .ok (.tuple #[.pointer (some ⟨T,0,none⟩),.bool true]) wA:=Jg 0;have HF:=(show Hid _ from hf);have HTM:=(show Hid _ from hTM);have Mc:=(show Hid _ from wF);clear Ba hf hTM wF;go_quiet (fail);go_wp2_with fail;refine(Um _).mono ?_;rintro e w' ⟨rfl,rfl⟩;go_wp2_with fail;have hnS:((wA.drewN nq).alloc (.cells #[.string ⟨p2.toArray⟩,.string ⟨p1.toArray⟩] 9)).heap[wr.heap.size+1]? =some (.cells #[.string ⟨p2.toArray⟩,.string ⟨p1.toArray⟩] 9):=by
      have:=oK (wA.drewN nq) (.cells #[.string ⟨p2.toArray⟩,.string ⟨p1.toArray⟩] 9);rw[<-Zxy];exact this
     obtain⟨f0,f1,_,_⟩:=wS hnS;refine(Zpk _ _ p2 p1 f0 f1).mono ?_;rintro e w' ⟨rfl,rfl⟩;have OB:Hid (XI (p1,p2)=if p2= []then p1 else p2):=rfl;generalize (if p2= []then p1 else p2)=nm at *;have Ei:vV wA ((wA.drewN nq).alloc (.cells #[.string ⟨p2.toArray⟩,.string ⟨p1.toArray⟩] 9)):=(yF (nW _ wA) nq).alloc (nV _) _;have ZLU:((wA.drewN nq).alloc (.cells #[.string ⟨p2.toArray⟩,.string ⟨p1.toArray⟩] 9)).heap.size=wA.heap.size+1:=ae
     have ZoC:=zC SN Ei;clear hnS f0 f1 Jg El hMA hzA;generalize (wA.drewN nq).alloc (.cells #[.string ⟨p2.toArray⟩,.string ⟨p1.toArray⟩] 9)=wB at *;obtain⟨ua,uc,rfl,hSC⟩:=ZPU ZoC Dx;rw[Dx]at ZoC;go_wp2_with fail;have WW:vV wB (wB.alloc (.cells #[.string ⟨nm.toArray⟩] 9)):=(nW _ wB).alloc (nV _) _;have hnN:(wB.alloc (.cells #[.string ⟨nm.toArray⟩] 9)).heap[wr.heap.size+1+1]? =some (.cells #[.string ⟨nm.toArray⟩] 9):=by
      have:=oK wB (.cells #[.string ⟨nm.toArray⟩] 9);rw[<-Zxy,<-ZLU];exact this
     have hcN:=xH hnN;have BC:=ZM2 _ ua uc _ xs nm (hSC.below WW) (by have:=Ca.out.len;omega) hcN;rw[Dx]at BC;refine BC.mono ?_;rintro e w3 ⟨rfl,wH⟩;have hBD:=WW.trans (wH.mono WW.size);have Zxd:=zC ZoC hBD;have ZX1:=hBD.size;have IC:=(wH.block (wr.heap.size+1+1) ah).trans hnN;have FX:=xH IC;have Zin:=(xX.trans (Ei.mono xX.size)).trans (hBD.mono (xX.trans (Ei.mono xX.size)).size);have ZIQ:=Gu.out.trans (Zin.mono Gu.out.size);clear BC hnN hcN hSC WW wH hBD IC;cases Xm:(xs.map (·.name)).contains nm with
     |true=>
      have HR:=vR (Ca.out.dup hlt (by rw[Nh.out];exact HF.out) (by rw[Nh.out,OB.out];exact Xm));clear Xm;go_wp2_with fail;refine(Ul _).mono ?_;rintro e w' wV;have xM:=vR (wV.from ZIQ);exact lY
     |false=>
      have Ld:Hid (RL W0 db ps R (k+1) (xs++ [⟨nm,T,tb⟩])):=by
       have:=Ca.out.next (y:=(T,tb)) hlt hl (by rw[Nh.out];exact HF.out) (by rw[Nh.out,OB.out];exact Xm) HTM.out (by rw[Nh.out];exact Mc.out);rw[Nh.out,OB.out]at this;exact this
      clear Xm;obtain⟨gc,Cr,P,rv,ND,hgc,Zr,Cv,Ji,_⟩:=HTM.out.obj;have Lu:=(wo ND);have HT6:Hid (∀w',vV W w'->w'.cell? ⟨T,0,none⟩=some (.slice (some ⟨gc,0,none⟩) tb.wu.length Cr)):=λw' hb=>wT (Gu.out.trans (hb.mono Gu.out.size)) Lu (xH ND);have hc6:=HTM.out.le;have Kg:AL xs k<=18:=by
       have:=ZeB Ca.out.ok k;omega
      clear ND Cv Ji Zr hgc Lu;go_wp2_with fail;refine(Um _).mono ?_;rintro e w' ⟨rfl,rfl⟩;go_wp2_with (at_builtin;go_must (refine pE _ rfl _ _ 240 rfl W.heap.size 261 i0 (.agg #[.string ⟨#[]⟩,.pointer none,.int .i64 0]) 3 32 underlying240 hi hz0 yo hz2 rfl O (.slice ua k uc) k (JR xs 0) rfl (Zxd.alloc _) ⟨w3.heap.size,0,none⟩ 1 1 [.string ⟨nm.toArray⟩,.pointer (some ⟨T,0,none⟩),.int .i64 ((AL xs k:Nat):Int)] rfl rfl (ZF3 _ _ _ _ _) au aj Z (by have:=Zin.size;simp;omega) ?_);intro v' w6 zm xQ _;have Gf:=Zbx Zin Zin.size Zxd xQ;have ht6:=HT6.out _ Gf);go_roundg (ps.length-(k+1)+1);case measure=>omega
      case rel=>
       have Fp:=ZAl xs ⟨nm,T,tb⟩ 0;rw[Dx,o9]at Fp;have O6:=ZIb xs ⟨nm,T,tb⟩;rw[Dx]at O6;exact⟨k+1,xs++ [⟨nm,T,tb⟩],Z,rfl,aG,by exact FI (by rw[O6];simp),by rw[Fp];exact zm,Gf,Ld⟩
    ·have Jg:=λnq=>Ba _ (hMA nq);have El:(Instr.lookup 48 (.map (some M)) (.string ⟨p1.toArray⟩) true).run prog wA= .ok (.tuple #[.pointer none,.bool false]) wA:=Jg 0;have HR:=vR (Ca.out.noT hlt (by rw[Nh.out];exact hf));clear Ba hf;go_quiet (fail);go_wp2_with fail;refine(Ul _).mono ?_;rintro e w' wV;have xM:=vR (wV.from (yF ZuO nq));exact lY
   ·obtain rfl:k=ps.length:=by omega
    have JY:=vR (Zze (by rw[Dx];exact wD));clear wD;go_wp2_with fail;go_ret;have hd:=zP.out.run;rw[sG]at hd;exact .inr ⟨_,xs,hd.symm,rfl,hB,JY.out,zP.out.ok⟩
 ·have HF:Hid (M6 db ps=none):=nU hl;have zQ:¬(ps.length:Int)<=3:=by omega
  have Fu:(3:Int)<(ps.length:Int):=Z
  generalize M6 db ps=R at *;have Gu:=(show Hid _ from hC.low);clear Br hD hC Qz;go_enter func94,ntmps94;go_wp2_with fail;refine(Ul _).mono ?_;rintro e w' wV;have xM:=vR (wV.from Gu.out);obtain⟨b',rfl,_⟩:=wV;go_wp2;exact⟨rfl,.inl ⟨HF.out,xM.out⟩⟩
def Tryz.ZMC:(prog.info? 3).map (λi=>(i.zero,i.size,i.bytes))=some (some (.int .i64 0),1,8):=by kernel_rfl
def Zes(w:World)(a)(ty):∀j u, [a][j]? =some u->(w.alloc (.cells #[a] ty)).cell? ((⟨w.heap.size,0,none⟩:Addr).add j)=some u:=by
 intro j u h;have hb:=xI w (.cells #[a] ty);rw[uY];rcases j with _|j
 ·exact nL
 ·simp at h
def ZFG(W0 W)(ob)(FD)(xs)(wW text)(x8:vV W0 W)(yX:W.heap[ob]? =some (.cells #[FD,.pointer none,.pointer none] 244))(CL:I6 W FD xs)(wQ:Ml W0 xs)(zW:text.length<=90000):
  Calls prog 155 #[vU ob,.agg #[.string ⟨wW.toArray⟩,.string ⟨text.toArray⟩]] W (Wj W0 W (BI wW text xs none none) (λa=>vV W a)):=by
 refine Zmg W0 W ob FD (.pointer none) none ⟨xs,none,none⟩ wW text none _ x8 yX ⟨FD,.pointer none,.pointer none,yX,CL,wQ,rfl,rfl⟩ zW ?_ ?_ ?_ ?_
 ·exact⟨λa c ha Xi=>ha.trans (Xi.mono ha.size),λa g k cu u ha hg he=>ha.setCell (p:=⟨g,k,none⟩) hg _⟩
 ·exact λ_ a ha=>ha
 ·intro r hr;cases hr
 ·intro W' hb _;exact Zmk W0 W' wW text _ (x8.trans (hb.mono x8.size))
def Oc(xs:List SX):List (vS×vS)->List Nat->Option (List Nat)
 | [],acc=>some acc
 |p::r,acc=>match BI p.1 p.2 xs none none with
  |none=>none
  |some y=>Oc xs r (acc++ [y.2.1])
theorem Zym:∀{ps:List (vS×vS)} {acc l:List Nat},Oc xs ps acc=some l->l.length=acc.length+ps.length
 | [],acc,l,h=>by cases h;rfl
 |p::r,acc,l,h=>by
  rw[Oc]at h;split at h
  ·cases h
  ·have:=Zym h;simp at this ⊢;omega
def ZcK(l:List Nat):List Value:=l.map fun(j:Nat)=>Value.int .i64 (j:Int)
def Zza{v:Value}{l:List Nat}(h:W.ownsRow B 3 1 v l.length (ZcK l)):Ni W v l:=by
 have hc:=λg=>h.cells (g:=g);rcases h.2 with⟨rfl,h0⟩|⟨g,cap,cu,rfl,_,hh,_⟩
 ·exact⟨none,0,bB,λi hi=>Z⟩
 ·refine⟨some ⟨g,0,none⟩,cap,rfl,λi hi=>⟨g,cu,rfl,hh,?_⟩⟩;have:=hc g rfl i (.int .i64 (l[i]:Nat)) (by simp[ZcK,hi]);exact mV
def ZPO{v:Value}{l:List Nat}(h:W.ownsRow B 3 1 v l.length (ZcK l)):We W v l:=by
 have hi:=Zza h;obtain⟨a,c,e,hx⟩:=hi;refine⟨⟨a,c,e,?_,?_,λi hi=>?_⟩,λg o n c' e2=>?_⟩
 ·rcases h.2 with⟨h0,h1⟩|⟨g,cap,cu,h0,_,_,h1,_⟩
  ·rw[h1];exact pI _
  ·rw[h0]at e;cases e;exact h1
 ·rcases h.2 with⟨h0,h1⟩|⟨g,cap,cu,h0,_,_,_,h1,_⟩
  ·rw[h0]at e;injection e with _ _ e3;rw[<-e3];exact pI _
  ·rw[h0]at e;cases e;exact h1
 ·obtain⟨g,cu,e1,_,c0⟩:=hx i hi;exact⟨g,e1,c0⟩
 ·rcases h.2 with⟨h0,h1⟩|⟨g1,cap,cu,h0,_,hh,_⟩
  ·rw[h0]at e2;cases e2
  ·rw[h0]at e2;cases e2;exact⟨cu,hh⟩
def ZDh(W0 W:World)(R:Option (List Nat))(e:Ending)(W':World):Prop:=
 (R=none/\Gx W0 e W')\/∃lv l,R=some l/\e= .returned lv/\vV W W'/\Ni W' lv l/\We W' lv l/\∀n∈l,n<=100
structure Wh (xs:List SX) (ps:List (vS×vS)) (R:Option (List Nat)) (k:Nat) (l:List Nat):Prop where
 len:l.length=k
 run:Oc xs (ps.drop k) l=R
 le:∀n∈l,n<=100
def Wh.noT{ps}{R}{k}{l}(h:Wh xs ps R k l)(hk:k<ps.length)(hf:BI ps[k].1 ps[k].2 xs none none=none):R=none:=by
 rw[<-h.run,pM hk,Oc,hf]
def Wh.next{ps}{R}{k}{l}{o a t:Nat}(h:Wh xs ps R k l)(hk:k<ps.length)(hf:BI ps[k].1 ps[k].2 xs none none=some (o,a,t))(ha:a<=100):Wh xs ps R (k+1) (l++ [a]):=by
 refine⟨by rw[o6,h.len];try rfl,by rw[<-h.run,pM hk,Oc,hf],λn hn=>?_⟩;rcases qH.1 hn with h1|h1
 ·exact h.le n h1
 ·rw[qU.1 h1];exact ha
def ZFE(W0 W)(b)(sa)(sn sc)(av gv)(xs)(ps)(la)(cap)(x8:vV W0 W)(ho:W.heap[b]? =some (.cells #[.slice sa sn sc,av,gv] 244))(CL:I6 W (.slice sa sn sc) xs)(wQ:Ml W0 xs)(II:ps.length<=400)(Br:∀p∈ps,p.2.length<=1000)(Qz:∀i (h:i<ps.length),∃g,la=some ⟨g,0,none⟩/\W0.cell? ⟨g,i*2,none⟩=some (.string ⟨ps[i].1.toArray⟩)/\W0.cell? ⟨g,i*2+1,none⟩=some (.string ⟨ps[i].2.toArray⟩)):
  Calls prog 96 #[vU b,.slice la ps.length cap] W (ZDh W0 W (Oc xs ps [])):=by
 have Ip:Hid (Wh xs ps (Oc xs ps []) 0 []):=⟨rfl,rfl,λn h=>(nomatch h)⟩;generalize Oc xs ps []=R at *;obtain⟨c0,c1,c2⟩:=xh ho;have zi:=(wo ho);have RA:Hid (∀(w':World) (ob:Nat) (wW text:vS),vV W w'->w'.heap[ob]? =some (.cells #[.slice sa sn sc,.pointer none,.pointer none] 244)->text.length<=90000->Calls prog 155 #[.pointer (some ⟨ob,0,none⟩),.agg #[.string ⟨wW.toArray⟩,.string ⟨text.toArray⟩]] w' (Wj W0 w' (BI wW text xs none none) (λa=>vV w' a))):=λw' ob wW text hB yX zW=>
  ZFG W0 w' ob _ xs wW text (x8.trans (hB.mono x8.size)) yX (CL.cf (CF.vZ hB)) wQ zW
 have HPL:=vR Br;have Gu:=vR x8;have HCE:=vR Qz;have P7:=vR (λo s r (h:BI o s xs none none=some r)=>(Zj1 wQ (inner:=none) (λr hr=>by cases hr) h).2);clear Br x8 Qz CL;obtain⟨i0,hi,hz0,yo,hz2⟩:=oM Tryz.ZMC;unfold vU;go_enter func96,ntmps96;go_wp2_with fail;generalize yn:W.alloc (.cells #[.slice sa sn sc,.pointer none,.pointer none] 244)=Wp;have xA:vV W Wp:=by rw[<-yn];exact(nW _ W).alloc (nV _) _
 have Hz:Wp.heap.size=W.heap.size+1:=by rw[<-yn];simp
 have SL:Wp.heap[W.heap.size]? =some (.cells #[.slice sa sn sc,.pointer none,.pointer none] 244):=by rw[<-yn];exact xI W _
 clear yn c0 c1 c2;go_loopg [6,19] (ps.length+1) (λgk kv iv wr=>∃(k:Nat) (l:List Nat),k<=ps.length/\gk=ps.length-k+1/\iv= .int .i64 k/\wr.ownsRow Wp.heap.size 3 1 kv k (ZcK l)/\vV Wp wr/\Hid (Wh xs ps R k l));case atStart=>exact⟨0, [],Z,Z,rfl,pV _ _ _ _,nW _ _,Ip⟩
 case round=>
  obtain⟨k,l,hk,rfl,rfl,wD,hB,zP⟩:=hrel;have Ca:=(show Hid _ from zP.out);clear zP;have xX:=xA.trans (hB.mono xA.size);by_cases hlt:k<ps.length
  ·have hki:(k:Int)<(ps.length:Int):=by omega
   obtain⟨g,rfl,q0,q1⟩:=HCE.out k hlt;have xL:g<W0.heap.size:=oH W0 _ q0;have x8:=Gu.out.trans (xX.mono Gu.out.size);have r0:=wT x8 xL q0;have r1:=wT x8 xL q1;have yY:=HPL.out ps[k] (oC hlt);generalize Z9:ps[k]=p at *;have Nh:=(show Hid _ from Z9);clear Z9 q0 q1;obtain⟨p1,p2⟩:=p;simp only at *;go_wp2_with fail;have zA:vV wr (wr.alloc (.cells #[.string ⟨p1.toArray⟩,.string ⟨p2.toArray⟩] 365)):=(nW _ wr).alloc (nV _) _;have ZmZ:=xX.trans (zA.mono xX.size);have ZmY:=hB.trans (zA.mono hB.size);have SN:=zC wD zA;have ZLe:=(ZmY.block W.heap.size Z).trans SL;generalize wr.alloc (.cells #[.string ⟨p1.toArray⟩,.string ⟨p2.toArray⟩] 365)=wA at *;refine(RA.out _ W.heap.size p1 p2 ZmZ ZLe Z).mono ?_;rintro e w2 (⟨wO,wV⟩|⟨o,a,ty,hr,rfl,wH,_⟩)
   ·have HR:=vR (Ca.out.noT hlt (by rw[Nh.out];exact wO));have xM:=vR wV;obtain⟨b',rfl,_⟩:=wV;clear wO;go_wp2;exact⟨rfl,.inl ⟨HR.out,xM.out⟩⟩
   ·have Qu:=P7.out _ _ _ hr;have Ld:Hid (Wh xs ps R (k+1) (l++ [a])):=Ca.out.next hlt (by rw[Nh.out];exact hr) Qu;clear hr;have ZuQ:=ZmY.trans (wH.mono ZmY.size);have Ay:=ZuQ.size;have zI:=zC SN wH;obtain⟨ua,uc,rfl⟩:=yN zI;go_wp2_with (at_builtin;go_must (refine pE _ rfl _ _ 32 rfl Wp.heap.size 3 i0 (.int .i64 0) 1 8 underlying32 hi hz0 yo hz2 rfl O (.slice ua k uc) k (ZcK l) rfl ((zI.alloc _).alloc _) ⟨w2.heap.size+1,0,none⟩ 1 1 [.int .i64 (a:Int)] rfl rfl (by have hq:=Zes (w2.alloc (.cells #[.int .i64 (a:Int),.int .i64 (ty:Nat)] 367)) (.int .i64 (a:Int)) 3;rw[uP]at hq;exact hq) au aj Z ah ?_);intro v' w6 zm xQ _);go_roundg (ps.length-(k+1)+1);case measure=>omega
    case rel=>
     have Gf:=Zbx (ZuQ.alloc Ay _) ah (zI.alloc _) xQ;exact⟨k+1,l++ [a],Z,rfl,aG,by rw[ZcK,oo];exact zm,Gf,Ld⟩
  ·obtain rfl:k=ps.length:=by omega
   have zM:=Ca.out.len;have JY:Hid (Ni wr u6 l/\We wr u6 l):=⟨Zza (by rw[zM];exact wD),ZPO (by rw[zM];exact wD)⟩;clear wD zM;go_wp2_with fail;go_ret;have hd:=Ca.out.run;rw[sG]at hd;exact .inr ⟨_,l,hd.symm,rfl,xX,JY.out.1,JY.out.2,Ca.out.le⟩
def One(a c:World):Prop:=∀(k:Nat) (x:Value) (ty:TypeId) (fr:Nat×Nat),a.heap[k]? =some (.cells #[x] ty fr)->c.heap[k]? =some (.cells #[x] ty fr)
def ZR5{P:Program}(w)(t ty)(base)(e)(i)(z)(bytes)(ht:P.underlying t=some (.slice e))(hi:P.info? e=some i)(hz:i.zero=some z)(ZfU:i.size=1)(hby:i.bytes=bytes)(hzs:z.cells.size=1)(v)(n)(xs)(wD:w.ownsRow base e 1 v n xs)(hv:v= .slice none 0 0\/0<n)(ad)(c)(u)(Zjq:∀j y, [u][j]? =some y->w.cell? (ad.add j)=some y)(h1:u.oneCell'=true)(OU:n+1<=maxLen)(ZiY:(n+1)*bytes<=140737488355328)(ZnM:base<=w.heap.size)(H)(hH:w.heap.size=H):
  ∃g cap w',(Builtin.append_ #[t,t] ty #[v,.slice (some ad) 1 c]).run P w= .ok (.slice (some ⟨g,0,none⟩) (n+1) cap) w'/\
   w'.ownsRow base e 1 (.slice (some ⟨g,0,none⟩) (n+1) cap) (n+1) (xs++ [u])/\w.grownBy w' v.ownBlock/\(v.ownBlock=some g\/g=H)/\g<w'.heap.size/\One w w':=by
 have hl: [u].length=1*1:=rfl;have h1':∀y∈ [u],y.oneCell'=true:=λy hy=>by rw[qU.1 hy];exact h1
 obtain⟨g,cap,w',hr,h2,h3,h4,h5⟩:=run_append_lies (P:=P) w t ty base e i z 1 bytes ht hi hz ZfU hby hzs O v n xs wD ad 1 c [u] hl Zjq h1' O OU ZiY ZnM H hH;refine⟨g,cap,w',hr,h2,h3,h4,h5,λk x ty' fr hk=>?_⟩;have zl:=(wo hk);have ZXV:n+1<=9223372036854775807:=by simp only[maxLen]at OU;omega
 have Fu: [u].length=1*i.size:=by rw[ZfU];try rfl
 rcases wD.2 with⟨rfl,rfl⟩|⟨g1,Cr,cur,rfl,FW,hg,hnc,QB,Fp,ZxA⟩
 ·exact(h3.block k zl (λe=>ai)).trans hk
 ·by_cases Zac:n+1<=Cr
  ·refine(h3.block k zl (λe=>?_)).trans hk;cases e;rw[hg]at hk;cases hk;have hn:0<n:=by
    rcases hv with hv|hv
    ·cases hv
    ·exact hv
   simp at Fp;omega
  ·have holds:=wD.cells (g:=g1) rfl;have EA:=run_append_grow (P:=P) w t ty e i z ht hi hz ⟨g1,0,none⟩ n Cr xs (by rw[ZfU];exact wD.1) holds ad 1 c [u] Fu Zjq Z Z (growslice_fits Z (by rw[hby];exact ZiY));rw[EA]at hr;cases hr;exact(ow w.drew _ k zl).trans hk
def VF{P:Program}{w:World}{ops:Array Oper}{o:Oper}{a:Act}{K:Act->World->Prop}{Q:Exit->Act->World->Prop}{E:Prop}(hgd:o.guard=none)(s x)(t)(ho:o.op= .call {callee:=.builtin .append,args:=#[s,x],argTypes:=#[t,t]})(base)(e)(i)(z)(bytes)(ht:P.underlying t=some (.slice e))(hi:P.info? e=some i)(hz:i.zero=some z)(ZfU:i.size=1)(hby:i.bytes=bytes)(hzs:z.cells.size=1)(v)(n)(xs)(hs:a.eval s=v)(wD:w.ownsRow base e 1 v n xs)(hv:v= .slice none 0 0\/0<n)(ad)(c)(u)(hx:a.eval x= .slice (some ad) 1 c)(Zjq:∀j y, [u][j]? =some y->w.cell? (ad.add j)=some y)(h1:u.oneCell'=true)(OU:n+1<=maxLen)(ZiY:(n+1)*bytes<=140737488355328)(ZnM:base<=w.heap.size)(H)(hH:w.heap.size=H)(h:∀g cap w',w'.ownsRow base e 1 (.slice (some ⟨g,0,none⟩) (n+1) cap) (n+1) (xs++ [u])->w.grownBy w' v.ownBlock->(v.ownBlock=some g\/g=H)->g<w'.heap.size->One w w'->K (a.put o.dst (.slice (some ⟨g,0,none⟩) (n+1) cap)) w'):
  if Region.wanted o (yielded ops a.tmps)=true then Oper.wp P o a w K Q else E:=by
 have hw:Region.wanted o (yielded ops a.tmps)=true:=by simp[Region.wanted,hgd]
 rw[nY hw];obtain⟨g,cap,w',hr,h2,h3,h4,h5,h6⟩:=ZR5 (P:=P) w t o.type base e i z bytes ht hi hz ZfU hby hzs v n xs wD hv ad c u Zjq h1 OU ZiY ZnM H hH;unfold Oper.wp execOp;simp only[ho,resolve,invoke,builtin,pg,Sem.run_pure,Result.andThen_ok,List.map_toArray,oq,oF,hs,hx,hr];exact h g cap w' h2 h3 h4 h5 h6
theorem zz.one(h:One W W'):∀{e:PX} {f:Value},zz W e f->zz W' e f
 | .lit v,f,⟨b,h1,h2⟩=>⟨b,h1,h _ _ _ _ h2⟩
 | .zO o p,f,⟨b,c,h1,h2,h3,h4⟩=>⟨b,c,h1,h _ _ _ _ h2,h _ _ _ _ h3,h4⟩
 | .made k,f,⟨b,h1,h2,h3⟩=>⟨b,h1,h _ _ _ _ h2,h3⟩
 | .arith op l r,f,⟨b,c,d,x,y,h1,h2,h3,h4,h5,h6⟩=>⟨b,c,d,x,y,h1,h _ _ _ _ h2,h _ _ _ _ h3,h _ _ _ _ h4,zz.one h h5,zz.one h h6⟩
def One.vZ(h:vV W W'):One W W':=λk x ty fr e=>xq h e
def One.tr{a b c}(h:One a b)(k:One b c):One a c:=λn x ty fr e=>k n x ty fr (h n x ty fr e)
structure Gw (B:Nat) (a c:World):Prop where
 os:c.os=a.os
 tape:c.tape=a.tape
 output:c.output=a.output
 size:a.heap.size<=c.heap.size
 wJ:∀(g:Nat) (ob:Obj),a.heap[g]? =some ob->(∀cu fr,ob≠.cells cu 345 fr)->(∀cu fr,ob≠.cells cu 119 fr)->c.heap[g]? =some ob
 one:One a c
 low:∀g,g<B->g<a.heap.size->c.heap[g]? =a.heap[g]?
theorem Gw.tr{a b c}(h:Gw B a b)(k:Gw B b c):Gw B a c:=⟨k.os.trans h.os,k.tape.trans h.tape,k.output.trans h.output,om h.size k.size,λg ob e h1 h2=>k.wJ g ob (h.wJ g ob e h1 h2) h1 h2,h.one.tr k.one,λg h1 h2=>(k.low g h1 (oU h2 h.size)).trans (h.low g h1 h2)⟩
theorem Gw.vZ{a c}(h:vV a c):Gw B a c:=⟨h.os,h.tape,h.output,h.size,λg ob e _ _=>xq h e,One.vZ h,λg _ hl=>h.block g hl⟩
def Z0p{p:Prop}(h:p:=by
 refine(key g (wo e) (λeg=>?_)).trans e;rcases wD.2 with⟨e1,_⟩|⟨g1,cap,Au,e1,_,hh,_⟩
 ·rw[e1]at eg;cases eg
 ·rw[e1]at eg;cases eg;rw[e]at hh;cases hh;exact h2 _ _ rfl):p:=h
def Gw.ex{n:Nat}{a c:World}{o:Obj}{v:Value}{xs:List Value}(wD:a.ownsRow B 345 1 v n xs)(hg:(a.alloc o).grownBy c v.ownBlock)(h1:One (a.alloc o) c):Gw B a c:=by
 have yA:a.heap.size<=c.heap.size:=by have:=hg.size;simp at this;omega
 have key:=λg (hl:g<a.heap.size) (wF:some g≠v.ownBlock)=>(hg.block g ah wF).trans (ow a o g hl);refine⟨hg.os,hg.tape,hg.output,yA,λg ob e h2 _=>?_,λk x ty fr e=>h1 k x ty fr ((ow a o k (wo e)).trans e),λg hB hl=>key g hl (λeg=>by have:=(wD.lt g eg.symm).1;omega)⟩;exact Z0p
def Gw.co{n:Nat}{a c:World}{o:Obj}{v:Value}{xs:List Value}(wD:a.ownsRow B 119 2 v n xs)(hg:(a.alloc o).grownBy c v.ownBlock):Gw B a c:=by
 have yA:a.heap.size<=c.heap.size:=by have:=hg.size;simp at this;omega
 have key:=λg (hl:g<a.heap.size) (wF:some g≠v.ownBlock)=>(hg.block g ah wF).trans (ow a o g hl);refine⟨hg.os,hg.tape,hg.output,yA,λg ob e _ h2=>?_,λk x ty fr e=>?_,λg hB hl=>key g hl (λeg=>by have:=(wD.lt g eg.symm).1;omega)⟩
 ·exact Z0p
 ·refine(key k (wo e) (λeg=>?_)).trans e;rcases wD.2 with⟨e1,_⟩|⟨g1,cap,Au,e1,_,hh,_,_,Fp,_⟩
  ·rw[e1]at eg;cases eg
  ·rw[e1]at eg;cases eg;rw[e]at hh;cases hh;simp at Fp;omega
def Gw.kt{a c}(h:Gw B a c)(h1:345∉ts)(h2:119∉ts):KT ts a c:=λg cu ty ht e=>h.wJ g _ e (λ_ _ e2=>by cases e2;exact h1 ht) (λ_ _ e2=>by cases e2;exact h2 ht)
def Gw.cf{a c}(h:Gw W.heap.size a c)(hc:CF W a):CF W c:=⟨h.os.trans hc.os,h.tape.trans hc.tape,h.output.trans hc.output,om hc.size h.size,λg ob e hn=>(h.low g (wo e) (oU (wo e) hc.size)).trans (hc.bl g ob e hn)⟩
def Gw.ktW{a c}(h:Gw W.heap.size a c)(hs:W.heap.size<=a.heap.size)(hk:KT ts W a):KT ts W c:=λg cu ty ht e=>(h.low g (wo e) (oU (wo e) hs)).trans (hk g cu ty ht e)
def Gw.bl{a c}(h:Gw B a c)(hB:W0.heap.size<=B)(h0:vV W0 a):vV W0 c:=h0.trans ⟨h.os,h.tape,h.output,h.size,λg hg=>h.low g Z (by have:=h0.size;omega)⟩
def Gw.ck{a c}(h:Gw B a c)(hB:W0.heap.size<=B)(hC:yL W0 C M cl a):yL W0 C M cl c:=⟨h.bl hB hC.low,hC.hC,h.wJ _ _ hC.obj (λ_ _ e=>ai) (λ_ _ e=>ai)⟩
def ZQ0:List TypeId:= [261,244,457,461,267,402,3]
def yS.gw{b}{e}(h:yS W0 W b e)(hg:Gw B W W'):yS W0 W' b e:=by
 have hk:KT ZQ0 W W':=hg.kt O O;obtain⟨sv,wv,gv,k1,k2,k3,k4,k5⟩:=h;have hsx:∀{v:Value} {xs:List SX},I6 W v xs->I6 W' v xs:=by
  rintro v xs ⟨a,cap,rfl,hx⟩;exact mr
 refine⟨sv,wv,gv,hk _ _ _ O k1,hsx k2,k3,?_,?_⟩
 ·revert k4;cases e.out with
  |none=>exact λh=>h
  |some o=>
   obtain⟨zX,xY⟩:=o;rintro⟨w,ob,FD,nv,e,h1,h2,h3,h4,h5,h6,h7,h8⟩;exact⟨w,ob,FD,nv,e,hk _ _ _ O h1,hk _ _ _ O h2,hsx h3,h4,h5,h6,MZ h7 hk O,h8⟩
 ·revert k5;cases e.xB with
  |none=>exact λh=>h
  |some o=>
   obtain⟨keys,made⟩:=o;rintro⟨G,kv,mv,rb,fs,e,h1,h2,h3,h4,h5,h6,h7,h8,h9⟩;refine⟨G,kv,mv,rb,fs,e,hk _ _ _ O h1,?_,h3,hk _ _ _ O h4,h5,h6,h7,MZ h8 hk O,λi p q=>(h9 i p q).one hg.one⟩;obtain⟨a,cap,rfl,hx⟩:=h2;refine⟨a,cap,rfl,λi hi=>?_⟩;obtain⟨g,cu,e,ho,c0⟩:=hx i hi;have q1:=hk _ _ _ O ho;exact⟨g,cu,e,q1,yP (q1.trans ho.symm) c0⟩
def ZTv(y)(w):(Instr.typeAssert (.iface 439 y) 336 365 true).run prog w= .ok (.tuple #[.agg #[.string ⟨#[]⟩,.string ⟨#[]⟩],.bool false]) w:=by kernel_rfl
def ZyL:TX->vS
 | .zO _ s=>s
 |_=> [63]
def ZaK(x:TX)(xZ:vS):vS:=if xZ= []then ZyL x else xZ
def tyX(x):(∃o s,x= .zO o s)\/(ZyL x= [63]/\∀w,(Instr.typeAssert (xV x) 336 365 true).run prog w= .ok (.tuple #[.agg #[.string ⟨#[]⟩,.string ⟨#[]⟩],.bool false]) w):=by
 cases x with
 |zO o s=>exact .inl ⟨o,s,rfl⟩
 |lit v=>exact .inr ⟨rfl,λw=>ZTv _ w⟩
 |neg e=>exact .inr ⟨rfl,λw=>ZAB _ w⟩
 |arith s l r=>exact .inr ⟨rfl,λw=>ZAx _ w⟩
 |star n=>exact .inr ⟨rfl,λw=>Zkw _ w⟩
 |agg n e=>exact .inr ⟨rfl,λw=>Zkw _ w⟩
def Z0q{p:Prop}(h:p:=by
 have hB:vV W W3:=by rw[<-ZB];exact Ui W _ _ _
 clear JI ZB;go_wp2_with fail;go_ret;exact⟨by rw[HN.out];try rfl,hB⟩):p:=h
def ZFJ(W)(x)(xZ):Calls prog 160 #[.agg #[xV x,.string ⟨xZ.toArray⟩]] W λe W'=>e= .returned (.string ⟨(ZaK x xZ).toArray⟩)/\vV W W':=by
 rcases tyX x with⟨o,s,rfl⟩|⟨hn,hta⟩
 ·have HN:Hid (ZaK (.zO o s) xZ=if xZ= []then s else xZ):=rfl;have tb:=ZAA (.agg #[.string ⟨o.toArray⟩,.string ⟨s.toArray⟩]);rw[xV];go_enter func160,ntmps160;go_wp2_with fail;generalize ZB:((W.alloc (.cells #[.iface 365 (.agg #[.string ⟨o.toArray⟩,.string ⟨s.toArray⟩]),.string ⟨xZ.toArray⟩] 372)).alloc (.cells #[.string ⟨o.toArray⟩,.string ⟨s.toArray⟩] 365)).alloc (.cells #[.string ⟨xZ.toArray⟩,.string ⟨(s).toArray⟩] 9)=W3;have JI:W3.heap[W.heap.size+1+1]? =some (.cells #[.string ⟨xZ.toArray⟩,.string ⟨(s).toArray⟩] 9):=by rw[<-ZB];exact(OI W _ _ _).2.2
  refine(Zpk _ _ xZ s (wS JI).1 (wS JI).2.1).mono ?_;rintro en w' ⟨rfl,rfl⟩;generalize (if xZ= []then s else xZ)=nm at *;exact Z0q
 ·have HN:Hid (ZaK x xZ=if xZ= []then[63]else xZ):=by show _=_;rw[ZaK,hn]
  obtain⟨xn,xy,hxv⟩:=Gq x;rw[hxv]at hta ⊢;clear hn hxv;go_enter func160,ntmps160;go_wp2_with fail;generalize ZB:((W.alloc (.cells #[.iface xn xy,.string ⟨xZ.toArray⟩] 372)).alloc (.cells #[.string ⟨#[]⟩,.string ⟨#[]⟩] 365)).alloc (.cells #[.string ⟨xZ.toArray⟩,.string ⟨#[63]⟩] 9)=W3;have JI:W3.heap[W.heap.size+1+1]? =some (.cells #[.string ⟨xZ.toArray⟩,.string ⟨([63]).toArray⟩] 9):=by rw[<-ZB];exact(OI W _ _ _).2.2
  refine(Zpk _ _ xZ [63] (wS JI).1 (wS JI).2.1).mono ?_;rintro en w' ⟨rfl,rfl⟩;generalize (if xZ= []then[63]else xZ)=nm at *;exact Z0q
def Nj(W0:World)(v:Value)(vY:List (TX×vS)):Prop:=∃a cap,v= .slice a vY.length cap/\∀i (h:i<vY.length),∃g,a=some ⟨g,0,none⟩/\W0.cell? ⟨g,i*2,none⟩=some (xV vY[i].1)/\W0.cell? ⟨g,i*2+1,none⟩=some (.string ⟨vY[i].2.toArray⟩)
def La(vY:List (TX×vS)):Nat:=(vY.map λp=>CS p.1).sum
def GL:List (TX×vS)->yR->Bool->List PX->List (vS×Nat)->Option (List PX×List (vS×Nat)×yR×Bool)
 | [],e,cl,ps,cs=>some (ps,cs,e,cl)
 |it::r,e,cl,ps,cs=>match zo it.1 e cl with
  |none=>none
  |some y=>GL r y.2.2.1 y.2.2.2 (ps++ [y.1]) (cs++ [(ZaK it.1 it.2,y.2.1)])
def Ir(l:List (vS×Nat)):List Value:=l.flatMap λp=> [.string ⟨p.1.toArray⟩,.int .i64 (p.2:Nat)]
def ZtU(a b):Ir (a++b)=Ir a++Ir b:=by simp[Ir]
structure KE (B:Nat) (w:World) (ev tv:Value) (ps:List PX) (cs:List (vS×Nat)):Prop where
 ex:∃fs:List Value,fs.length=ps.length/\w.ownsRow B 345 1 ev ps.length fs/\∀i (h:i<ps.length) (h':i<fs.length),zz w ps[i] fs[i]
 co:w.ownsRow B 119 2 tv cs.length (Ir cs)
def ZcU{ty n:Nat}{v:Value}{xs:List Value}(h:W.ownsRow B ty sz v n xs)(hk:CF W W')(ht:ty∉Y0):W'.ownsRow B ty sz v n xs:=by
 refine⟨h.1,?_⟩;rcases h.2 with h0|⟨g,cap,cur,e,hg,hh,r⟩
 ·exact jg
 ·exact .inr ⟨g,cap,cur,e,hg,hk.cells hh ht,r⟩
def KE.cf{w}(h:KE B w ev tv ps cs)(hc:CF w w'):KE B w' ev tv ps cs:=by
 obtain⟨⟨fs,h1,h2,h3⟩,h4⟩:=h;exact⟨⟨fs,h1,ZcU h2 hc O,λi p q=>(h3 i p q).same hc.BV⟩,ZcU h4 hc O⟩
def ItR(W0 W:World)(C M b:Nat)(e:yR)(res:Option (List PX×List (vS×Nat)×yR×Bool))(en:Ending)(W':World):Prop:=
 (res=none/\Gx W0 en W')\/∃ps cs e' cl' ev tv,res=some (ps,cs,e',cl')/\en= .returned (.tuple #[ev,tv])/\KE W.heap.size W' ev tv ps cs/\yS W0 W' b e'/\yL W0 C M cl' W'/\CF W W'/\(e.xB=none->KT Cu W W')
structure Zhw (W0 W:World) (C M b:Nat) (e:yR) (vY:List (TX×vS)) (R:Option (List PX×List (vS×Nat)×yR×Bool)) (k:Nat) (ps:List PX) (cs:List (vS×Nat)) (e':yR) (cl':Bool) (w:World):Prop where
 lp:ps.length=k
 lc:cs.length=k
 run:GL (vY.drop k) e' cl' ps cs=R
 room:room e'+La (vY.drop k)<=400
 xB:e.xB=none->e'.xB=none
 pl:yS W0 w b e'
 ck:yL W0 C M cl' w
 cf:CF W w
 kt:e.xB=none->KT Cu W w
def ZPM{a c:World}{n:Nat}{o:Obj}{v u:Value}{xs:List Value}(h:a.ownsRow B 345 1 v n xs)(hc:a.ownsRow B 119 2 u m ys)(hg:(a.alloc o).grownBy c u.ownBlock):c.ownsRow B 345 1 v n xs:=by
 refine⟨h.1,?_⟩;rcases h.2 with h0|⟨g,cap,cur,e,hb,hh,r⟩
 ·exact jg
 ·have hl:=(wo hh);refine .inr ⟨g,cap,cur,e,hb,(hg.block g ah (λeg=>?_)).trans ((ow a o g hl).trans hh),r⟩;exact Ib hc hh O eg
def Gw.ZPK{a c}{n:Nat}{o:Obj}{v u:Value}{xs:List Value}(_:Gw B a c)(h:a.ownsRow B 345 1 v n xs)(hc:a.ownsRow B 119 2 u m ys)(hg:(a.alloc o).grownBy c v.ownBlock):c.ownsRow B 119 2 u m ys:=by
 refine⟨hc.1,?_⟩;rcases hc.2 with h0|⟨g,cap,cur,e,hb,hh,r⟩
 ·exact jg
 ·have hl:=(wo hh);refine .inr ⟨g,cap,cur,e,hb,(hg.block g ah (λeg=>?_)).trans ((ow a o g hl).trans hh),r⟩;exact Ib h hh O eg
def KE.gw{w}(h:KE B w ev tv ps cs)(hB:vV w w'):KE B w' ev tv ps cs:=by
 obtain⟨⟨fs,h1,h2,h3⟩,h4⟩:=h;exact⟨⟨fs,h1,zC h2 hB,λi p q=>(h3 i p q).one (One.vZ hB)⟩,zC h4 hB⟩
def Tryz.ZcJ0:(prog.info? 119).map (λi=>(i.zero,i.size,i.bytes))=some (some (.agg #[.string ⟨#[]⟩,.int .i64 0]),2,24):=by kernel_rfl
def Tryz.Zpc:(prog.info? 345).map (λi=>(i.zero,i.size,i.bytes))=some (some .nilFunc,1,8):=by kernel_rfl
def ZFC(W0 W)(C M b)(e)(cl)(vY)(lv)(hC:yL W0 C M cl W)(hP:yS W0 W b e)(hr:room e+La vY<=400)(JH:Nj W0 lv vY)(ZfN:0<vY.length)(hle:vY.length<=400)(hk:∀p∈vY,Gp p.1):
  Calls prog 100 #[vU C,lv,vU b] W (ItR W0 W C M b e (GL vY e cl [] [])):=by
 have Ip:Hid (Zhw W0 W C M b e vY (GL vY e cl [] []) 0 [] [] e cl W):=⟨rfl,rfl,rfl,hr,λh=>h,hP,hC,CF.refl _,λ_=>λg cu ty _ h=>h⟩;generalize GL vY e cl [] []=R at *;obtain⟨la,lc,rfl,Qz⟩:=JH;have HCE:=vR Qz;have ET:=vR hk;have ZK9:((vY.length:Int)==0)=false:=by rw[pQ];omega
 have ZBH:=vR hC.low.size;clear hC hP hr Qz hk;obtain⟨i0,hi,hz0,yo,hz2⟩:=oM Tryz.ZcJ0;obtain⟨j0,hj,hy0,GK,hy2⟩:=oM Tryz.Zpc;unfold vU;go_enter func100,ntmps100;go_wp2_with fail;go_loopg [8,9,23] (vY.length+1) (λgk ev tv iv wr=>∃(k:Nat) (ps:List PX) (cs:List (vS×Nat)) (e':yR) (cl':Bool),k<=vY.length/\gk=vY.length-k+1/\iv= .int .i64 k/\Hid (ps.length=0->ev= .slice none 0 0\/0<ps.length)/\KE W.heap.size wr ev tv ps cs/\Hid (Zhw W0 W C M b e vY R k ps cs e' cl' wr));case atStart=>exact⟨0, [], [],e,cl,Z,Z,rfl,λ_=>.inl rfl,⟨⟨[],rfl,pV _ _ _ _,λi h=>(nomatch h)⟩,pV _ _ _ _⟩,Ip.out⟩
 case round=>
  obtain⟨k,ps,cs,e',cl',hk,rfl,rfl,Zlh,Ex,zP⟩:=hrel;have Ca:=vR zP.out;clear zP;have V9:=vR Ex;by_cases hlt:k<vY.length
  ·obtain⟨g,rfl,q0,q1⟩:=HCE.out k hlt;have xL:g<W0.heap.size:=oH W0 _ q0;have OV:=Ca.out.ck.low;have r0:=wT OV xL q0;have r1:=wT OV xL q1;have NJ:=pM hlt;have hrm:=Ca.out.room;rw[NJ]at hrm;have wQ:=ET.out vY[k] (oC hlt);have Zlq:Hid (GL (vY[k]::vY.drop (k+1)) e' cl' ps cs=R):=by show _=_;rw[<-NJ];exact Ca.out.run
   generalize Z9:vY[k]=it at *;obtain⟨x,xZ⟩:=it;clear Z9 q0 q1 NJ;have Zab:room e'+CS x+La (vY.drop (k+1))<=400:=by simp only[La,oq,List.sum_cons]at hrm ⊢;omega
   have Ap:=vR (λw' (hB:vV wr w')=>Uu x W0 w' C M b e' cl' (Ca.out.ck.below hB) (Ca.out.pl.below hB) Z wQ);have HSH:=vR (λw'=>ZFJ w' x xZ);obtain⟨xn,xy,hxv⟩:=Gq x;simp only[]at r0 r1;rw[hxv]at r0 Ap HSH;unfold vU at Ap;clear hrm wQ hxv;go_wp2_with fail;generalize yn:wr.alloc (.cells #[.iface xn xy,.string ⟨xZ.toArray⟩] 372)=Wp;have xA:vV wr Wp:=by rw[<-yn];exact(nW _ wr).alloc (nV _) _
   have yX:Wp.heap[wr.heap.size]? =some (.cells #[.iface xn xy,.string ⟨xZ.toArray⟩] 372):=by rw[<-yn];exact xI wr _
   clear yn r0 r1;refine(Ap.out _ xA).mono ?_;rintro en w1 (⟨wO,wV⟩|⟨p,ty,e2,Cb,Kf,cp,xz,rfl,hf,wP,zG,yQ,hG1⟩)
   ·have yD:Hid (R=none):=by show _=_;rw[<-Zlq.out,GL,wO]
    exact lu
   have yG:=yQ.cells yX O;obtain⟨d0,d1,_,_⟩:=wS yG;have WY:=(CF.vZ xA).trans yQ;have ZC0:=vR (V9.out.cf WY);have Ld:Hid (Zhw W0 W C M b e vY R (k+1) (ps++ [p]) (cs++ [(ZaK x xZ,ty)]) e2 Cb w1):=by
    have hrr:=KN xz;refine⟨by rw[o6,Ca.out.lp];try rfl,by rw[o6,Ca.out.lc];try rfl,?_,by have:=hrr.1;omega,λh=>hrr.2.2 (Ca.out.xB h),wP,zG,Ca.out.cf.trans WY,λh=>(Ca.out.kt h).tc ((KT.vZ xA).tc (hG1 (Ca.out.xB h)))⟩;rw[<-Zlq.out,GL,xz]
   have HF:=vR hf;have HLP:=vR Ca.out.lp;have HLC:=vR Ca.out.lc;clear xz hf wP zG yQ hG1 Ca Zlq Ap;obtain⟨⟨fs,Jf,hex,Bo⟩,D9⟩:=id ZC0.out;have Gv:Hid (u8= .slice none 0 0\/0<ps.length):=by
    rcases hex.2 with⟨h0,_⟩|⟨g0,cap0,cu0,h0,_,hh0,_⟩
    ·exact jg
    ·rcases sV ps.length with U0|U0
     ·exact Zlh.out U0
     ·exact .inr U0
   have hp4:ps.length<400:=by have:=HLP.out;omega
   have hc4:cs.length<400:=by have:=HLC.out;omega
   have En:=Ld.out.cf.size;obtain⟨ea,ec,rfl⟩:=yN hex;obtain⟨ta,tc,rfl⟩:=yN D9;go_wp2_with fail;refine vM (S:=λw'=>w'.cell? ⟨wr.heap.size,0,none⟩=some (.iface xn xy)/\w'.cell? ⟨wr.heap.size,1,none⟩=some (.string ⟨xZ.toArray⟩)) af ⟨by exact d0,by exact d1⟩ (λwL=>?_);refine tk 0 ?_;refine tk 1 ?_;refine tk 4 ?_;refine tk 5 ?_;refine tk 7 ?_;refine og (rs:= [2]) af ae (nZ rfl (λK hK=>?_) oh);go_simp;have yx:vV w1 (w1.alloc (.cells #[.func (.func Kf) #[] cp] 345)):=(nW _ w1).alloc (nV _) _;have Zak:∀g ob,w1.heap[g]? =some ob->(w1.alloc (.cells #[.func (.func Kf) #[] cp] 345)).heap[g]? =some ob:=λg ob e=>xq yx e;refine hK.out _ _ ⟨by exact(wS (Zak _ _ yG)).1,by exact(wS (Zak _ _ yG)).2.1⟩ (λwL=>?_);clear hK K;refine og (rs:= [3]) af ae (nZ rfl (λK hK=>?_) oh);refine VF rfl _ _ 251 rfl W.heap.size 345 j0 .nilFunc 8 underlying251 hj hy0 GK hy2 rfl (.slice ea ps.length ec) ps.length fs rfl (by exact hex.alloc _) Gv.out ⟨w1.heap.size,0,none⟩ 1 (.func (.func Kf) #[] cp) rfl (by exact Zes _ _ _) au aj Z ah _ rfl ?_;intro g2 yZ w2 zI x9 O9 Pf FY;have WX:=Gw.ex hex (o:=.cells #[.func (.func Kf) #[] cp] 345) ⟨x9.os,x9.tape,x9.output,x9.size,x9.block⟩ aK;have Eb:=WX.wJ _ _ yG (λ_ _ e=>ai) (λ_ _ e=>ai);have Ay:=WX.size;simp only[Act.put,pz,List.set_cons_zero,List.set_cons_succ,List.getElem_toArray,List.getElem_cons_zero,List.getElem_cons_succ];refine hK.out _ _ ⟨by exact(wS Eb).1,by exact(wS Eb).2.1⟩ (λwL=>?_);clear hK K;refine og (rs:= [6]) af ae (nZ rfl (λK hK=>?_) oh);go_simp;refine(HSH.out _).mono ?_;rintro en w3 ⟨rfl,wH⟩;have EI:=xq wH Eb;have C8:=wH.size;generalize Bq:ZaK x xZ=nm at *;refine hK.out _ _ ⟨by exact(wS EI).1,by exact(wS EI).2.1⟩ (λwL=>?_);clear hK K;refine tk 8 ?_;refine og (rs:= [9]) af ae (nZ rfl (λK hK=>?_) oh);go_simp;have ZuS:vV w3 (w3.alloc (.cells #[.string ⟨nm.toArray⟩,.int .i64 (ty:Nat)] 119)):=(nW _ w3).alloc (nV _) _;have QQ:=xq ZuS EI;refine hK.out _ _ ⟨by exact(wS QQ).1,by exact(wS QQ).2.1⟩ (λwL=>?_);clear hK K;refine og (rs:= [10]) af ae (nZ rfl (λK hK=>?_) oh);have Zi1:=zC (WX.ZPK hex D9 ⟨x9.os,x9.tape,x9.output,x9.size,x9.block⟩) wH;refine qz _ rfl _ _ 114 rfl W.heap.size 119 i0 (.agg #[.string ⟨#[]⟩,.int .i64 0]) 2 24 underlying114 hi hz0 yo hz2 rfl O (.slice ta cs.length tc) cs.length (Ir cs) rfl (by exact Zi1.alloc _) ⟨w3.heap.size,0,none⟩ 1 1 [.string ⟨nm.toArray⟩,.int .i64 (ty:Nat)] rfl rfl gF au Z aj Z ah _ rfl ?_;intro g5 Qg w5 BF A8 QJ QK;have hg5:(w3.alloc (.cells #[.string ⟨nm.toArray⟩,.int .i64 (ty:Nat)] 119)).grownBy w5 (Value.slice ta cs.length tc).ownBlock:=⟨A8.os,A8.tape,A8.output,A8.size,A8.block⟩;have hE5:=Gw.co Zi1 hg5;have QR:=hE5.wJ _ _ EI (λ_ _ e=>ai) (λ_ _ e=>ai);simp only[Act.put,pz,List.set_cons_zero,List.set_cons_succ,List.getElem_toArray,List.getElem_cons_zero,List.getElem_cons_succ];refine hK.out _ _ ⟨by exact(wS QR).1,by exact(wS QR).2.1⟩ (λwL=>?_);clear hK K;refine tk 11 ?_;refine tk 12 ?_;refine oP af ?_ _;have Zh:=(WX.tr (Gw.vZ wH)).tr hE5;have ZC1:Hid (KE W.heap.size w5 (.slice (some ⟨g2,0,none⟩) (ps.length+1) yZ) (.slice (some ⟨g5,0,none⟩) (cs.length+1) Qg) (ps++ [p]) (cs++ [(nm,ty)])):=by
    have ZLn:=zC zI wH;refine⟨⟨fs++ [.func (.func Kf) #[] cp],by simp[Jf],?_,λi h h'=>?_⟩,?_⟩
    ·rw[o6,List.length_singleton];exact ZPM ZLn Zi1 hg5
    ·by_cases hi:i<ps.length
     ·rw[pJ hi,pJ Z];exact(Bo i hi Z).one Zh.one
     ·have QF:i=ps.length:=by simp at h;omega
      subst QF;have q1:(ps++ [p])[ps.length]'h=p:=ae
      have q2:(fs++ [Value.func (.func Kf) #[] cp])[ps.length]'h'= .func (.func Kf) #[] cp:=by
       rw[qW Z];simp[Jf]
      rw[q1,q2];exact HF.out.one Zh.one
    ·rw[ZtU,o6,List.length_singleton];exact BF
   have HN5:Hid (Zhw W0 W C M b e vY R (k+1) (ps++ [p]) (cs++ [(nm,ty)]) e2 Cb w5):=⟨Ld.out.lp,Ld.out.lc,Ld.out.run,Ld.out.room,Ld.out.xB,Ld.out.pl.gw Zh,Zh.ck ZBH.out Ld.out.ck,Zh.cf Ld.out.cf,λh=>Zh.ktW Ld.out.cf.size (Ld.out.kt h)⟩;clear zI x9 O9 Pf FY WX wH Zi1 BF A8 QJ QK hE5 Zh yG Eb EI QQ QR yx ZuS Zak wL hg5 hex D9 Bo d0 d1;go_wp2_with fail;go_roundg (vY.length-(k+1)+1);case measure=>omega
   case rel=>exact⟨k+1,ps++ [p],cs++ [(nm,ty)],e2,Cb,Z,rfl,aG,(λh=>ax),ZC1.out,HN5.out⟩
  ·obtain rfl:k=vY.length:=by omega
   obtain⟨⟨fs,Jf,hex,Bo⟩,D9⟩:=id V9.out;obtain⟨ea,ec,rfl⟩:=yN hex;obtain⟨ta,tc,rfl⟩:=yN D9;clear hex D9 Bo Ex;go_wp2_with fail;go_ret2;have hd:=Ca.out.run;rw[sG]at hd;exact .inr ⟨ps,cs,e',cl',_,_,hd.symm,rfl,V9.out,Ca.out.pl,Ca.out.ck,Ca.out.cf,Ca.out.kt⟩
def M3(n:Nat):List PX:=(List.range n).map λi=>PX.zO 0 i
def Zgx(n):M3 (n+1)=M3 n++ [.zO 0 n]:=by simp[M3,List.range_succ]
def Zkp(n):(M3 n).length=n:=by simp[M3]
def Mq(xs:List SX):List (vS×Nat):=xs.flatMap λx=>x.tb.wu
def ZDR(xs)(x):Mq (xs++ [x])=Mq xs++x.tb.wu:=by simp[Mq]
def Zsg(xs)(k):(Mq (xs.take k)).length=AL xs k:=by
 unfold Mq AL;rw[List.length_flatMap]
def Cy(w)(o):vV w (w.alloc o):=(nW _ w).alloc (nV _) _
def WG{w:World}{b:Nat}{x:Value}(h:w.heap[b]? =some (.cells #[x] ty fr)):∀j y, [x][j]? =some y->w.cell? ((⟨b,0,none⟩:Addr).add j)=some y:=by
 intro j u hj;rw[uY];rcases j with _|j
 ·exact nM
 ·simp at hj
def Zet{w:World}{b:Nat}{x y:Value}(h:w.heap[b]? =some (.cells #[x,y] ty fr)):∀j u, [x,y][j]? =some u->w.cell? ((⟨b,0,none⟩:Addr).add j)=some u:=by
 intro j u hj;rw[uY];rcases j with _|_|j
 ·exact nM
 ·exact nM
 ·simp at hj
structure PR (W:World) (sb cb:Nat) (nm:vS) (T fk:Nat) (cn:vS) (ct n:Nat) (ps:List PX) (cs:List (vS×Nat)) (ev tv:Value) (fs:List Value) (w:World):Prop where
 yE:w.heap[sb]? =some (.cells #[.string ⟨nm.toArray⟩,.pointer (some ⟨T,0,none⟩),.int .i64 (fk:Nat)] 261)
 zT:w.heap[cb]? =some (.cells #[.string ⟨cn.toArray⟩,.int .i64 (ct:Nat)] 119)
 bw:vV W w
 pl:ps.length=n
 fl:fs.length=n
 ex:w.ownsRow W.heap.size 345 1 ev n fs
 co:w.ownsRow W.heap.size 119 2 tv cs.length (Ir cs)
 fn:∀i (h:i<ps.length) (h':i<fs.length),zz w ps[i] fs[i]
 lt:∀g,tv.ownBlock=some g->g<cb
def PR.below{T}{n}{w}(h:PR W sb cb nm T fk cn ct n ps cs ev tv fs w)(hB:vV w w'):PR W sb cb nm T fk cn ct n ps cs ev tv fs w':=
 ⟨xq hB h.yE,xq hB h.zT,h.bw.trans (hB.mono h.bw.size),h.pl,h.fl,zC h.ex hB,zC h.co hB,λi p q=>(h.fn i p q).one (One.vZ hB),h.lt⟩
def ZcL{n:Nat}{a c:World}{v:Value}{xs:List Value}{g:Nat}{cu:Array Value}(wD:a.ownsRow B 345 1 v n xs)(hg:a.grownBy c v.ownBlock)(hb:a.heap[g]? =some (.cells cu 119)):c.heap[g]? =some (.cells cu 119):=
 (hg.block g (wo hb) (Ib wD hb O)).trans hb
def PR.Zee{T}{n}{w}(h:PR W sb cb nm T fk cn ct n ps cs ev tv fs w){g2 yZ Kf:Nat}{cp:Array Value}{p}(wD:w'.ownsRow W.heap.size 345 1 (.slice (some ⟨g2,0,none⟩) (n+1) yZ) (n+1) (fs++ [.func (.func Kf) #[] cp]))(hg:w.grownBy w' ev.ownBlock)(h1:One w w')(hf:zz w p (.func (.func Kf) #[] cp)):PR W sb cb nm T fk cn ct (n+1) (ps++ [p]) cs (.slice (some ⟨g2,0,none⟩) (n+1) yZ) tv (fs++ [.func (.func Kf) #[] cp]) w':=by
 refine⟨(hg.block _ (wo h.yE) (Ib h.ex h.yE O)).trans h.yE,ZcL h.ex hg h.zT,h.bw.grown hg h.bw.size (λk e=>(h.ex.lt k e).1),by simp[h.pl],by simp[h.fl],wD,?_,λi p1 q1=>?_,h.lt⟩
 ·refine⟨h.co.1,?_⟩;rcases h.co.2 with h0|⟨g,cap,cur,e,hb,hh,r⟩
  ·exact jg
  ·exact .inr ⟨g,cap,cur,e,hb,ZcL h.ex hg hh,r⟩
 ·by_cases hi:i<ps.length
  ·rw[pJ hi,pJ (by rw[h.fl,<-h.pl];exact hi)];exact(h.fn i hi (by rw[h.fl,<-h.pl];exact hi)).one h1
  ·have QF:i=ps.length:=by simp at p1;omega
   subst QF;have e1:(ps++ [p])[ps.length]'p1=p:=ae
   have e2:(fs++ [Value.func (.func Kf) #[] cp])[ps.length]'q1= .func (.func Kf) #[] cp:=by
    rw[qW (by rw[h.fl,h.pl];exact nV _)];simp[h.fl,h.pl]
   rw[e1,e2];exact hf.one h1
def PR.Zef{T}{n}{w}(h:PR W sb cb nm T fk cn ct n ps cs ev tv fs w){g5 Qg:Nat}(wD:w'.ownsRow W.heap.size 119 2 (.slice (some ⟨g5,0,none⟩) (cs.length+1) Qg) (cs.length+1) (Ir cs++ [.string ⟨cn.toArray⟩,.int .i64 (ct:Nat)]))(hg:w.grownBy w' tv.ownBlock):
  (w'.heap[sb]? =some (.cells #[.string ⟨nm.toArray⟩,.pointer (some ⟨T,0,none⟩),.int .i64 (fk:Nat)] 261)/\w'.heap[cb]? =some (.cells #[.string ⟨cn.toArray⟩,.int .i64 (ct:Nat)] 119))/\vV W w'/\KE W.heap.size w' ev (.slice (some ⟨g5,0,none⟩) (cs.length+1) Qg) ps (cs++ [(cn,ct)]):=by
 have NZ:One w w':=λk x ty fr e=>by
  refine(hg.block k (wo e) (λeg=>?_)).trans e;rcases h.co.2 with⟨e1,_⟩|⟨g1,cap,Au,e1,_,hh,_,_,Fp,_⟩
  ·rw[e1]at eg;cases eg
  ·rw[e1]at eg;cases eg;rw[e]at hh;cases hh;simp at Fp;omega
 refine⟨⟨(hg.block _ (wo h.yE) (Ib h.co h.yE O)).trans h.yE,(hg.block _ (wo h.zT) (λeg=>by have:=h.lt cb eg.symm;omega)).trans h.zT⟩,h.bw.grown hg h.bw.size (λk e=>(h.co.lt k e).1),⟨⟨fs,by rw[h.fl,h.pl],?_,λi p q=>(h.fn i p q).one NZ⟩,?_⟩⟩
 ·rw[h.pl];refine⟨h.ex.1,?_⟩;rcases h.ex.2 with h0|⟨g,cap,cur,e,hb,hh,r⟩
  ·exact jg
  ·exact .inr ⟨g,cap,cur,e,hb,(hg.block g (wo hh) (Ib h.co hh O)).trans hh,r⟩
 ·rw[ZtU,o6,List.length_singleton];exact wD
def Z0r{p:Prop}(h:p:=by
 clear QJ QK BF A8;go_wp2_with fail;go_roundg (tb.wu.length-(c+1)+1);case measure=>omega
 case rel=>exact⟨c+1,Z,rfl,aG,(λh=>Z),HJ.out.1,HJ.out.2.1,by rw[TM.out,<-Nat.add_assoc,Zgx];exact HJ.out.2.2⟩):p:=h
def ZFo(W0 W)(b)(sv av gv)(xs)(x8:vV W0 W)(ho:W.heap[b]? =some (.cells #[sv,av,gv] 244))(CL:I6 W sv xs)(wQ:Ml W0 xs):
  Calls prog 159 #[vU b] W λe W'=>∃ev tv,e= .returned (.tuple #[ev,tv])/\vV W W'/\KE W.heap.size W' ev tv (M3 (AL xs xs.length)) (Mq xs):=by
 have c0:=xH ho;have zi:=(wo ho);obtain⟨sa,sc,rfl,hsc⟩:=CL;have HSC:Hid (∀w',vV W w'->∀k (hk:k<xs.length),∃g,sa=some ⟨g,0,none⟩/\w'.cell? ⟨g,k*3,none⟩=some (.string ⟨xs[k].name.toArray⟩)/\w'.cell? ⟨g,k*3+1,none⟩=some (.pointer (some ⟨xs[k].T,0,none⟩))/\w'.cell? ⟨g,k*3+2,none⟩=some (.int .i64 (AL xs k:Nat))):=λw' hB k hk=>by
  exact l8
 have HFL:=vR (ZeB wQ);have SA:=vR (λw' (hB:vV W w')=>x8.trans (hB.mono x8.size));have hle:=wQ.le;have ET:=vR wQ;clear hsc wQ;obtain⟨i0,hi,hz0,yo,hz2⟩:=oM Tryz.ZcJ0;obtain⟨j0,hj,hy0,GK,hy2⟩:=oM Tryz.Zpc;unfold vU;go_enter func159,ntmps159;go_wp2_with fail;go_loopg [4,5,15] (xs.length+1) (λgk ev tv iv wr=>∃k:Nat,k<=xs.length/\gk=xs.length-k+1/\iv= .int .i64 k/\Hid (AL xs k=0->ev= .slice none 0 0)/\vV W wr/\KE W.heap.size wr ev tv (M3 (AL xs k)) (Mq (xs.take k)));case atStart=>exact⟨0,Z,Z,rfl,λ_=>rfl,nW _ _,⟨⟨[],rfl,pV _ _ _ _,λi h=>(nomatch h)⟩,pV _ _ _ _⟩⟩
 case round=>
  obtain⟨k,hk,rfl,rfl,Zlh,hB,Ex⟩:=hrel;by_cases hlt:k<xs.length
  ·obtain⟨g,rfl,d0,d1,d2⟩:=HSC.out wr hB k hlt;have C9:=ET.out.VH xs[k] (oC hlt);obtain⟨gc,cap,P,rv,ND,hgc,Zr,Cv,Ji,_⟩:=C9.obj;have Lu:=(wo ND);have HTC:Hid (∀w',vV W w'->w'.cell? ⟨xs[k].T,0,none⟩=some (.slice (some ⟨gc,0,none⟩) xs[k].tb.wu.length cap)):=λw' hb=>wT (SA.out _ hb) Lu (xH ND);have HCC:Hid (∀w',vV W w'->∀c (h:c<xs[k].tb.wu.length),w'.cell? ⟨gc,c*2,none⟩=some (.string ⟨xs[k].tb.wu[c].1.toArray⟩)/\w'.cell? ⟨gc,c*2+1,none⟩=some (.int .i64 (xs[k].tb.wu[c].2:Nat))):=λw' hb c hc=>⟨wT (SA.out _ hb) hgc (Cv c hc).1,wT (SA.out _ hb) hgc (Cv c hc).2⟩;have hc6:=C9.le;have hkf:=HFL.out k;have P6:=vR (ZIc xs k hlt);have HTS:Hid (Mq (xs.take (k+1))=Mq (xs.take k)++xs[k].tb.wu):=by show _=_;rw[o8 hlt,ZDR]
   have zW:(Mq (xs.take k)).length<=18:=by rw[Zsg];omega
   have HTK:=vR C9;clear C9 ND Cv Ji Lu Zr hgc;generalize hxk:xs[k]=x at *;obtain⟨nm,T,tb⟩:=x;clear hxk;simp only at *;generalize AL xs k=fk at *;have tA:=λob=>HTC.out (wr.alloc ob) (hB.alloc hB.size _);go_wp2_with fail;have yE:(wr.alloc (.cells #[.string ⟨nm.toArray⟩,.pointer (some ⟨T,0,none⟩),.int .i64 (fk:Nat)] 261)).heap[wr.heap.size]? =some (.cells #[.string ⟨nm.toArray⟩,.pointer (some ⟨T,0,none⟩),.int .i64 (fk:Nat)] 261):=xI wr _;have zA:vV wr (wr.alloc (.cells #[.string ⟨nm.toArray⟩,.pointer (some ⟨T,0,none⟩),.int .i64 (fk:Nat)] 261)):=(nW _ wr).alloc (nV _) _;have ZvA:=Ex.gw zA;have ZmZ:=hB.trans (zA.mono hB.size);generalize wr.alloc (.cells #[.string ⟨nm.toArray⟩,.pointer (some ⟨T,0,none⟩),.int .i64 (fk:Nat)] 261)=wA at *;try unfold vV at *;generalize wr.heap.size=sb at *;generalize ZE:Mq (xs.take k)=YX at *;clear tA d0 d1 d2 Ex hB ZE zA;go_loopg [4,5,25] (tb.wu.length+1) (λgk ev tv iv w=>∃c:Nat,c<=tb.wu.length/\gk=tb.wu.length-c+1/\iv= .int .i64 c/\Hid (fk+c=0->ev= .slice none 0 0)/\vV W w/\w.heap[sb]? =some (.cells #[.string ⟨nm.toArray⟩,.pointer (some ⟨T,0,none⟩),.int .i64 (fk:Nat)] 261)/\KE W.heap.size w ev tv (M3 (fk+c)) (YX++tb.wu.take c));case atStart=>exact⟨0,Z,Z,rfl,λh=>Zlh.out h,ZmZ,yE,by rw[List.take_zero,sD];exact ZvA⟩
   case round=>
    obtain⟨c,hc,rfl,rfl,F8,wK,ZjD,Zfb⟩:=hrel;by_cases hlc:c<tb.wu.length
    ·obtain⟨s0,s1,s2⟩:=xh ZjD;obtain⟨q0,q1⟩:=HCC.out _ wK c hlc;have TM:Hid ((YX++tb.wu.take (c+1))=(YX++tb.wu.take c)++ [tb.wu[c]]):=by show _=_;rw[o8 hlc,oI]
     have Kl:(YX++tb.wu.take c).length<=24:=by rw[o6,sw];omega
     have Zlt:Hid (∀w',vV W w'->Calls prog 230 #[.agg #[.string ⟨nm.toArray⟩,.pointer (some ⟨T,0,none⟩),.int .i64 (fk:Nat)],.int .i64 (c:Nat)] w' λe GU=>e= .returned (.agg #[.int .i64 ((fk+c:Nat):Int),.int .i64 (tb.wu[c].2:Nat)])/\vV w' GU):=λw' hb=>Ztx W0 nm T tb fk c w' HTK.out (SA.out _ hb) hlc Z;generalize Zfm:tb.wu[c]=zO at *;obtain⟨cn,ct⟩:=zO;simp only[]at q0 q1 Zlt;generalize (YX++tb.wu.take c)=cs at *;clear Zfm;obtain⟨⟨fs,Jf,hex,Bo⟩,D9⟩:=id Zfb;rw[Zkp]at hex Jf;have ZXb:∀(a b:Value) (w:World),(Instr.field 367 (.agg #[a,b]) 0).run prog w= .ok a w:=λ_ _ _=>af
     have Gv:Hid (u4= .slice none 0 0\/0<fk+c):=by
      rcases sV (fk+c)with h0|h0
      ·exact .inl (F8.out h0)
      ·exact .inr h0
     go_wp2_with fail;have AP:=Cy wr (.cells #[.string ⟨cn.toArray⟩,.int .i64 (ct:Nat)] 119);have Zv0:=xI wr (.cells #[.string ⟨cn.toArray⟩,.int .i64 (ct:Nat)] 119);have H0:PR W sb wr.heap.size nm T fk cn ct (fk+c) (M3 (fk+c)) cs u4 u5 fs (wr.alloc (.cells #[.string ⟨cn.toArray⟩,.int .i64 (ct:Nat)] 119)):=⟨xq AP ZjD,Zv0,wK.trans (AP.mono wK.size),Zkp _,Jf,zC hex AP,zC D9 AP,λi p q=>(Bo i p q).one (One.vZ AP),λg hg=>(D9.lt g hg).2⟩;generalize Bd:wr.alloc (.cells #[.string ⟨cn.toArray⟩,.int .i64 (ct:Nat)] 119)=wv at *;try unfold vV at *;generalize wr.heap.size=cb at *;clear Zfb ZjD s0 s1 s2 q0 q1 hex D9 Bo AP Zv0 wK ZvA Bd;obtain⟨w0,Bd⟩:∃w0,w0=wv.drew:=⟨_,rfl⟩;have H0d:PR W sb cb nm T fk cn ct (fk+c) (M3 (fk+c)) cs u4 u5 fs wv.drew:=H0.below (yF (nW _ _) 1);refine vM (S:=λw'=>w'.cell? ⟨sb,0,none⟩=some (.string ⟨nm.toArray⟩)/\w'.cell? ⟨sb,1,none⟩=some (.pointer (some ⟨T,0,none⟩))/\w'.cell? ⟨sb,2,none⟩=some (.int .i64 (fk:Nat))/\w'.cell? ⟨cb,0,none⟩=some (.string ⟨cn.toArray⟩)/\w'.cell? ⟨cb,1,none⟩=some (.int .i64 (ct:Nat))) af ⟨by exact(xh H0.yE).1,by exact(xh H0.yE).2.1,by exact(xh H0.yE).2.2,by exact(wS H0.zT).1,by exact(wS H0.zT).2.1⟩ (λwL=>?_);clear H0;refine tk 0 ?_;refine tk 1 ?_;refine tk 2 ?_;refine tk 8 ?_;refine tk 9 ?_;rw[<-Bd]at *;rename PR W sb cb nm T fk cn ct (fk+c) (M3 (fk+c)) cs u4 u5 fs w0=>H0
     refine og (rs:= [3,10]) af ae (nZ rfl (λK hK=>?_) (nZ rfl (λK hK=>?_) oh))
     ·go_simp;refine(Zlt.out _ H0.bw).mono ?_;rintro en w1 ⟨rfl,yz⟩;have H1:=H0.below yz;refine hK.out _ _ ⟨by exact(xh H1.yE).1,by exact(xh H1.yE).2.1,by exact(xh H1.yE).2.2,by exact(wS H1.zT).1,by exact(wS H1.zT).2.1⟩ (λwL=>?_);clear hK K;refine tk 4 ?_;refine og (rs:= [5,10]) af ae (nZ rfl (λK hK=>?_) (nZ rfl (λK hK=>?_) oh))
      ·go_simp;refine(Zc0 _ 0 (fk+c) Z Z).mono ?_;rintro en w2 ⟨f2,rfl,yj,Af⟩;obtain⟨Kf,cp,rfl,_⟩:=yj.func;have H2:=H1.below Af;refine hK.out _ _ ⟨by exact(xh H2.yE).1,by exact(xh H2.yE).2.1,by exact(xh H2.yE).2.2,by exact(wS H2.zT).1,by exact(wS H2.zT).2.1⟩ (λwL=>?_);clear hK K;refine og (rs:= [6,10]) af ae (nZ rfl (λK hK=>?_) (nZ rfl (λK hK=>?_) oh))
       ·go_simp;have z8:=Cy w2 (.cells #[.func (.func Kf) #[] cp] 345);have H3:=H2.below z8;have ZL:=xI w2 (.cells #[.func (.func Kf) #[] cp] 345);have JF:=yj.one (One.vZ z8);try unfold vV at *;generalize hbe:w2.heap.size=be at *;generalize w2.alloc (.cells #[.func (.func Kf) #[] cp] 345)=w3 at *;refine hK.out _ _ ⟨by exact(xh H3.yE).1,by exact(xh H3.yE).2.1,by exact(xh H3.yE).2.2,by exact(wS H3.zT).1,by exact(wS H3.zT).2.1⟩ (λwL=>?_);clear hK K;refine og (rs:= [7,10]) af ae (nZ rfl (λK hK=>?_) (nZ rfl (λK hK=>?_) oh))
        ·obtain⟨ea,ec,AZ⟩:=yN H3.ex;refine VF rfl _ _ 251 rfl W.heap.size 345 j0 .nilFunc 8 underlying251 hj hy0 GK hy2 rfl u4 (fk+c) fs rfl (by exact H3.ex) Gv.out ⟨be,0,none⟩ 1 (.func (.func Kf) #[] cp) rfl (WG ZL) au aj Z (by exact H3.bw.size) _ rfl ?_;intro g2 yZ w4 zI x9 O9 Pf FY;have H4:=H3.Zee zI ⟨x9.os,x9.tape,x9.output,x9.size,x9.block⟩ aK JF;simp only[Act.put,pz,List.set_cons_zero,List.set_cons_succ,List.getElem_toArray,List.getElem_cons_zero,List.getElem_cons_succ];refine hK.out _ _ ⟨by exact(xh H4.yE).1,by exact(xh H4.yE).2.1,by exact(xh H4.yE).2.2,by exact(wS H4.zT).1,by exact(wS H4.zT).2.1⟩ (λwL=>?_);clear hK K;refine og (rs:= [10]) af ae (nZ rfl (λK hK=>?_) oh);go_simp;have CJ:=Cy w4 (.cells #[.string ⟨cn.toArray⟩,.int .i64 (ct:Nat)] 119);have H5:=H4.below CJ;have ht5:=xI w4 (.cells #[.string ⟨cn.toArray⟩,.int .i64 (ct:Nat)] 119);try unfold vV at *;generalize UJ:w4.heap.size=bt at *;generalize w4.alloc (.cells #[.string ⟨cn.toArray⟩,.int .i64 (ct:Nat)] 119)=w5 at *;refine hK.out _ _ ⟨by exact(xh H5.yE).1,by exact(xh H5.yE).2.1,by exact(xh H5.yE).2.2,by exact(wS H5.zT).1,by exact(wS H5.zT).2.1⟩ (λwL=>?_);clear hK K;refine og (rs:= [11]) af ae (nZ rfl (λK hK=>?_) oh);obtain⟨ta,tc,htv⟩:=yN H5.co;refine qz _ rfl _ _ 114 rfl W.heap.size 119 i0 (.agg #[.string ⟨#[]⟩,.int .i64 0]) 2 24 underlying114 hi hz0 yo hz2 rfl O u5 cs.length (Ir cs) rfl (by exact H5.co) ⟨bt,0,none⟩ 1 1 [.string ⟨cn.toArray⟩,.int .i64 (ct:Nat)] rfl rfl (Zet ht5) au Z aj Z (by exact H5.bw.size) _ rfl ?_;intro g5 Qg w6 BF A8 QJ QK;have H6:=H5.Zef BF ⟨A8.os,A8.tape,A8.output,A8.size,A8.block⟩;simp only[Act.put,pz,List.set_cons_zero,List.set_cons_succ,List.getElem_toArray,List.getElem_cons_zero,List.getElem_cons_succ];refine hK.out _ _ ⟨by exact(xh H6.1.1).1,by exact(xh H6.1.1).2.1,by exact(xh H6.1.1).2.2,by exact(wS H6.1.2).1,by exact(wS H6.1.2).2.1⟩ (λwL=>?_);clear hK K;refine tk 12 ?_;refine tk 13 ?_;refine oP af ?_ _;have HJ:Hid (_/\_/\_):=⟨H6.2.1,H6.1.1,H6.2.2⟩;exact Z0r
        ·go_simp;have GG:=Cy w3 (.cells #[.string ⟨cn.toArray⟩,.int .i64 (ct:Nat)] 119);have H7:=H3.below GG;have ht7:=xI w3 (.cells #[.string ⟨cn.toArray⟩,.int .i64 (ct:Nat)] 119);have hf7:=JF.one (One.vZ GG);have he7:=xq GG ZL;try unfold vV at *;generalize UJ:w3.heap.size=bt at *;generalize w3.alloc (.cells #[.string ⟨cn.toArray⟩,.int .i64 (ct:Nat)] 119)=w7 at *;refine hK.out _ _ ⟨by exact(xh H7.yE).1,by exact(xh H7.yE).2.1,by exact(xh H7.yE).2.2,by exact(wS H7.zT).1,by exact(wS H7.zT).2.1⟩ (λwL=>?_);clear hK K;refine og (rs:= [7]) af ae (nZ rfl (λK hK=>?_) oh);obtain⟨ea,ec,AZ⟩:=yN H7.ex;refine VF rfl _ _ 251 rfl W.heap.size 345 j0 .nilFunc 8 underlying251 hj hy0 GK hy2 rfl u4 (fk+c) fs rfl (by exact H7.ex) Gv.out ⟨be,0,none⟩ 1 (.func (.func Kf) #[] cp) rfl (WG he7) au aj Z (by exact H7.bw.size) _ rfl ?_;intro g2 yZ w8 zI x9 O9 Pf FY;have H8:=H7.Zee zI ⟨x9.os,x9.tape,x9.output,x9.size,x9.block⟩ aK hf7;have ht8:=ZcL H7.ex ⟨x9.os,x9.tape,x9.output,x9.size,x9.block⟩ ht7;simp only[Act.put,pz,List.set_cons_zero,List.set_cons_succ,List.getElem_toArray,List.getElem_cons_zero,List.getElem_cons_succ];refine hK.out _ _ ⟨by exact(xh H8.yE).1,by exact(xh H8.yE).2.1,by exact(xh H8.yE).2.2,by exact(wS H8.zT).1,by exact(wS H8.zT).2.1⟩ (λwL=>?_);clear hK K;refine og (rs:= [11]) af ae (nZ rfl (λK hK=>?_) oh);obtain⟨ta,tc,htv⟩:=yN H8.co;refine qz _ rfl _ _ 114 rfl W.heap.size 119 i0 (.agg #[.string ⟨#[]⟩,.int .i64 0]) 2 24 underlying114 hi hz0 yo hz2 rfl O u5 cs.length (Ir cs) rfl (by exact H8.co) ⟨bt,0,none⟩ 1 1 [.string ⟨cn.toArray⟩,.int .i64 (ct:Nat)] rfl rfl (Zet ht8) au Z aj Z (by exact H8.bw.size) _ rfl ?_;intro g5 Qg w9 BF A8 QJ QK;have H9:=H8.Zef BF ⟨A8.os,A8.tape,A8.output,A8.size,A8.block⟩;simp only[Act.put,pz,List.set_cons_zero,List.set_cons_succ,List.getElem_toArray,List.getElem_cons_zero,List.getElem_cons_succ];refine hK.out _ _ ⟨by exact(xh H9.1.1).1,by exact(xh H9.1.1).2.1,by exact(xh H9.1.1).2.2,by exact(wS H9.1.2).1,by exact(wS H9.1.2).2.1⟩ (λwL=>?_);clear hK K;refine tk 12 ?_;refine tk 13 ?_;refine oP af ?_ _;have HJ:Hid (_/\_/\_):=⟨H9.2.1,H9.1.1,H9.2.2⟩;exact Z0r
       ·go_simp;have ZvL:=Cy w2 (.cells #[.string ⟨cn.toArray⟩,.int .i64 (ct:Nat)] 119);have H10:=H2.below ZvL;have ZLV:=xI w2 (.cells #[.string ⟨cn.toArray⟩,.int .i64 (ct:Nat)] 119);have ZKj:=yj.one (One.vZ ZvL);try unfold vV at *;generalize UJ:w2.heap.size=bt at *;generalize w2.alloc (.cells #[.string ⟨cn.toArray⟩,.int .i64 (ct:Nat)] 119)=FJ at *;refine hK.out _ _ ⟨by exact(xh H10.yE).1,by exact(xh H10.yE).2.1,by exact(xh H10.yE).2.2,by exact(wS H10.zT).1,by exact(wS H10.zT).2.1⟩ (λwL=>?_);clear hK K;refine og (rs:= [6]) af ae (nZ rfl (λK hK=>?_) oh);go_simp;have ZnI:=Cy FJ (.cells #[.func (.func Kf) #[] cp] 345);have Rv:=H10.below ZnI;have ZKd:=xI FJ (.cells #[.func (.func Kf) #[] cp] 345);have ZLW:=xq ZnI ZLV;have ZKk:=ZKj.one (One.vZ ZnI);try unfold vV at *;generalize hbe:FJ.heap.size=be at *;generalize FJ.alloc (.cells #[.func (.func Kf) #[] cp] 345)=CU at *;refine hK.out _ _ ⟨by exact(xh Rv.yE).1,by exact(xh Rv.yE).2.1,by exact(xh Rv.yE).2.2,by exact(wS Rv.zT).1,by exact(wS Rv.zT).2.1⟩ (λwL=>?_);clear hK K;refine og (rs:= [7]) af ae (nZ rfl (λK hK=>?_) oh);obtain⟨ea,ec,AZ⟩:=yN Rv.ex;refine VF rfl _ _ 251 rfl W.heap.size 345 j0 .nilFunc 8 underlying251 hj hy0 GK hy2 rfl u4 (fk+c) fs rfl (by exact Rv.ex) Gv.out ⟨be,0,none⟩ 1 (.func (.func Kf) #[] cp) rfl (WG ZKd) au aj Z (by exact Rv.bw.size) _ rfl ?_;intro g2 yZ JU zI x9 O9 Pf FY;have TB:=Rv.Zee zI ⟨x9.os,x9.tape,x9.output,x9.size,x9.block⟩ aK ZKk;have ZLX:=ZcL Rv.ex ⟨x9.os,x9.tape,x9.output,x9.size,x9.block⟩ ZLW;simp only[Act.put,pz,List.set_cons_zero,List.set_cons_succ,List.getElem_toArray,List.getElem_cons_zero,List.getElem_cons_succ];refine hK.out _ _ ⟨by exact(xh TB.yE).1,by exact(xh TB.yE).2.1,by exact(xh TB.yE).2.2,by exact(wS TB.zT).1,by exact(wS TB.zT).2.1⟩ (λwL=>?_);clear hK K;refine og (rs:= [11]) af ae (nZ rfl (λK hK=>?_) oh);obtain⟨ta,tc,htv⟩:=yN TB.co;refine qz _ rfl _ _ 114 rfl W.heap.size 119 i0 (.agg #[.string ⟨#[]⟩,.int .i64 0]) 2 24 underlying114 hi hz0 yo hz2 rfl O u5 cs.length (Ir cs) rfl (by exact TB.co) ⟨bt,0,none⟩ 1 1 [.string ⟨cn.toArray⟩,.int .i64 (ct:Nat)] rfl rfl (Zet ZLX) au Z aj Z (by exact TB.bw.size) _ rfl ?_;intro g5 Qg Tu BF A8 QJ QK;have VT:=TB.Zef BF ⟨A8.os,A8.tape,A8.output,A8.size,A8.block⟩;simp only[Act.put,pz,List.set_cons_zero,List.set_cons_succ,List.getElem_toArray,List.getElem_cons_zero,List.getElem_cons_succ];refine hK.out _ _ ⟨by exact(xh VT.1.1).1,by exact(xh VT.1.1).2.1,by exact(xh VT.1.1).2.2,by exact(wS VT.1.2).1,by exact(wS VT.1.2).2.1⟩ (λwL=>?_);clear hK K;refine tk 12 ?_;refine tk 13 ?_;refine oP af ?_ _;have HJ:Hid (_/\_/\_):=⟨VT.2.1,VT.1.1,VT.2.2⟩;exact Z0r
      ·go_simp;have ZJW:=Cy w1 (.cells #[.string ⟨cn.toArray⟩,.int .i64 (ct:Nat)] 119);have H14:=H1.below ZJW;have ZLY:=xI w1 (.cells #[.string ⟨cn.toArray⟩,.int .i64 (ct:Nat)] 119);try unfold vV at *;generalize UJ:w1.heap.size=bt at *;generalize w1.alloc (.cells #[.string ⟨cn.toArray⟩,.int .i64 (ct:Nat)] 119)=w14 at *;refine hK.out _ _ ⟨by exact(xh H14.yE).1,by exact(xh H14.yE).2.1,by exact(xh H14.yE).2.2,by exact(wS H14.zT).1,by exact(wS H14.zT).2.1⟩ (λwL=>?_);clear hK K;refine og (rs:= [5]) af ae (nZ rfl (λK hK=>?_) oh);go_simp;refine(Zc0 _ 0 (fk+c) Z Z).mono ?_;rintro en w15 ⟨f15,rfl,Zwo,ZvM⟩;obtain⟨Kf,cp,rfl,_⟩:=Zwo.func;have H15:=H14.below ZvM;have ZLZ:=xq ZvM ZLY;refine hK.out _ _ ⟨by exact(xh H15.yE).1,by exact(xh H15.yE).2.1,by exact(xh H15.yE).2.2,by exact(wS H15.zT).1,by exact(wS H15.zT).2.1⟩ (λwL=>?_);clear hK K;refine og (rs:= [6]) af ae (nZ rfl (λK hK=>?_) oh);go_simp;have ZnJ:=Cy w15 (.cells #[.func (.func Kf) #[] cp] 345);have Rw:=H15.below ZnJ;have ZKe:=xI w15 (.cells #[.func (.func Kf) #[] cp] 345);have ZL0:=xq ZnJ ZLZ;have ZKl:=Zwo.one (One.vZ ZnJ);try unfold vV at *;generalize hbe:w15.heap.size=be at *;generalize w15.alloc (.cells #[.func (.func Kf) #[] cp] 345)=w16 at *;refine hK.out _ _ ⟨by exact(xh Rw.yE).1,by exact(xh Rw.yE).2.1,by exact(xh Rw.yE).2.2,by exact(wS Rw.zT).1,by exact(wS Rw.zT).2.1⟩ (λwL=>?_);clear hK K;refine og (rs:= [7]) af ae (nZ rfl (λK hK=>?_) oh);obtain⟨ea,ec,AZ⟩:=yN Rw.ex;refine VF rfl _ _ 251 rfl W.heap.size 345 j0 .nilFunc 8 underlying251 hj hy0 GK hy2 rfl u4 (fk+c) fs rfl (by exact Rw.ex) Gv.out ⟨be,0,none⟩ 1 (.func (.func Kf) #[] cp) rfl (WG ZKe) au aj Z (by exact Rw.bw.size) _ rfl ?_;intro g2 yZ w17 zI x9 O9 Pf FY;have TD:=Rw.Zee zI ⟨x9.os,x9.tape,x9.output,x9.size,x9.block⟩ aK ZKl;have ZL1:=ZcL Rw.ex ⟨x9.os,x9.tape,x9.output,x9.size,x9.block⟩ ZL0;simp only[Act.put,pz,List.set_cons_zero,List.set_cons_succ,List.getElem_toArray,List.getElem_cons_zero,List.getElem_cons_succ];refine hK.out _ _ ⟨by exact(xh TD.yE).1,by exact(xh TD.yE).2.1,by exact(xh TD.yE).2.2,by exact(wS TD.zT).1,by exact(wS TD.zT).2.1⟩ (λwL=>?_);clear hK K;refine og (rs:= [11]) af ae (nZ rfl (λK hK=>?_) oh);obtain⟨ta,tc,htv⟩:=yN TD.co;refine qz _ rfl _ _ 114 rfl W.heap.size 119 i0 (.agg #[.string ⟨#[]⟩,.int .i64 0]) 2 24 underlying114 hi hz0 yo hz2 rfl O u5 cs.length (Ir cs) rfl (by exact TD.co) ⟨bt,0,none⟩ 1 1 [.string ⟨cn.toArray⟩,.int .i64 (ct:Nat)] rfl rfl (Zet ZL1) au Z aj Z (by exact TD.bw.size) _ rfl ?_;intro g5 Qg w18 BF A8 QJ QK;have VU:=TD.Zef BF ⟨A8.os,A8.tape,A8.output,A8.size,A8.block⟩;simp only[Act.put,pz,List.set_cons_zero,List.set_cons_succ,List.getElem_toArray,List.getElem_cons_zero,List.getElem_cons_succ];refine hK.out _ _ ⟨by exact(xh VU.1.1).1,by exact(xh VU.1.1).2.1,by exact(xh VU.1.1).2.2,by exact(wS VU.1.2).1,by exact(wS VU.1.2).2.1⟩ (λwL=>?_);clear hK K;refine tk 12 ?_;refine tk 13 ?_;refine oP af ?_ _;have HJ:Hid (_/\_/\_):=⟨VU.2.1,VU.1.1,VU.2.2⟩;exact Z0r
     ·go_simp;have ZJX:=Cy w0 (.cells #[.string ⟨cn.toArray⟩,.int .i64 (ct:Nat)] 119);have Ym:=H0.below ZJX;have ZL2:=xI w0 (.cells #[.string ⟨cn.toArray⟩,.int .i64 (ct:Nat)] 119);try unfold vV at *;generalize UJ:w0.heap.size=bt at *;generalize w0.alloc (.cells #[.string ⟨cn.toArray⟩,.int .i64 (ct:Nat)] 119)=w19 at *;refine hK.out _ _ ⟨by exact(xh Ym.yE).1,by exact(xh Ym.yE).2.1,by exact(xh Ym.yE).2.2,by exact(wS Ym.zT).1,by exact(wS Ym.zT).2.1⟩ (λwL=>?_);clear hK K;refine og (rs:= [3]) af ae (nZ rfl (λK hK=>?_) oh);go_simp;refine(Zlt.out _ Ym.bw).mono ?_;rintro en w20 ⟨rfl,ZvN⟩;have H20:=Ym.below ZvN;have ZL3:=xq ZvN ZL2;refine hK.out _ _ ⟨by exact(xh H20.yE).1,by exact(xh H20.yE).2.1,by exact(xh H20.yE).2.2,by exact(wS H20.zT).1,by exact(wS H20.zT).2.1⟩ (λwL=>?_);clear hK K;refine tk 4 ?_;refine og (rs:= [5]) af ae (nZ rfl (λK hK=>?_) oh);go_simp;refine(Zc0 _ 0 (fk+c) Z Z).mono ?_;rintro en w21 ⟨f21,rfl,Zwp,ZvO⟩;obtain⟨Kf,cp,rfl,_⟩:=Zwp.func;have H21:=H20.below ZvO;have ZL4:=xq ZvO ZL3;refine hK.out _ _ ⟨by exact(xh H21.yE).1,by exact(xh H21.yE).2.1,by exact(xh H21.yE).2.2,by exact(wS H21.zT).1,by exact(wS H21.zT).2.1⟩ (λwL=>?_);clear hK K;refine og (rs:= [6]) af ae (nZ rfl (λK hK=>?_) oh);go_simp;have ZnK:=Cy w21 (.cells #[.func (.func Kf) #[] cp] 345);have Rx:=H21.below ZnK;have ZKf:=xI w21 (.cells #[.func (.func Kf) #[] cp] 345);have ZL5:=xq ZnK ZL4;have ZKm:=Zwp.one (One.vZ ZnK);try unfold vV at *;generalize hbe:w21.heap.size=be at *;generalize w21.alloc (.cells #[.func (.func Kf) #[] cp] 345)=w22 at *;refine hK.out _ _ ⟨by exact(xh Rx.yE).1,by exact(xh Rx.yE).2.1,by exact(xh Rx.yE).2.2,by exact(wS Rx.zT).1,by exact(wS Rx.zT).2.1⟩ (λwL=>?_);clear hK K;refine og (rs:= [7]) af ae (nZ rfl (λK hK=>?_) oh);obtain⟨ea,ec,AZ⟩:=yN Rx.ex;refine VF rfl _ _ 251 rfl W.heap.size 345 j0 .nilFunc 8 underlying251 hj hy0 GK hy2 rfl u4 (fk+c) fs rfl (by exact Rx.ex) Gv.out ⟨be,0,none⟩ 1 (.func (.func Kf) #[] cp) rfl (WG ZKf) au aj Z (by exact Rx.bw.size) _ rfl ?_;intro g2 yZ w23 zI x9 O9 Pf FY;have TE:=Rx.Zee zI ⟨x9.os,x9.tape,x9.output,x9.size,x9.block⟩ aK ZKm;have ZL6:=ZcL Rx.ex ⟨x9.os,x9.tape,x9.output,x9.size,x9.block⟩ ZL5;simp only[Act.put,pz,List.set_cons_zero,List.set_cons_succ,List.getElem_toArray,List.getElem_cons_zero,List.getElem_cons_succ];refine hK.out _ _ ⟨by exact(xh TE.yE).1,by exact(xh TE.yE).2.1,by exact(xh TE.yE).2.2,by exact(wS TE.zT).1,by exact(wS TE.zT).2.1⟩ (λwL=>?_);clear hK K;refine og (rs:= [11]) af ae (nZ rfl (λK hK=>?_) oh);obtain⟨ta,tc,htv⟩:=yN TE.co;refine qz _ rfl _ _ 114 rfl W.heap.size 119 i0 (.agg #[.string ⟨#[]⟩,.int .i64 0]) 2 24 underlying114 hi hz0 yo hz2 rfl O u5 cs.length (Ir cs) rfl (by exact TE.co) ⟨bt,0,none⟩ 1 1 [.string ⟨cn.toArray⟩,.int .i64 (ct:Nat)] rfl rfl (Zet ZL6) au Z aj Z (by exact TE.bw.size) _ rfl ?_;intro g5 Qg w24 BF A8 QJ QK;have VV:=TE.Zef BF ⟨A8.os,A8.tape,A8.output,A8.size,A8.block⟩;simp only[Act.put,pz,List.set_cons_zero,List.set_cons_succ,List.getElem_toArray,List.getElem_cons_zero,List.getElem_cons_succ];refine hK.out _ _ ⟨by exact(xh VV.1.1).1,by exact(xh VV.1.1).2.1,by exact(xh VV.1.1).2.2,by exact(wS VV.1.2).1,by exact(wS VV.1.2).2.1⟩ (λwL=>?_);clear hK K;refine tk 12 ?_;refine tk 13 ?_;refine oP af ?_ _;have HJ:Hid (_/\_/\_):=⟨VV.2.1,VV.1.1,VV.2.2⟩;exact Z0r
    ·obtain rfl:c=tb.wu.length:=by omega
     rw[oO (nV _)]at Zfb;have HT9:Hid (KE W.heap.size wr u4 u5 (M3 (AL xs (k+1))) (Mq (xs.take (k+1)))):=by
      show KE _ _ _ _ _ _;rw[P6.out,HTS.out];exact Zfb
     have HN9:=vR (fun(h:AL xs (k+1)=0)=>F8.out (by rw[P6.out]at h;exact h));clear Zfb ZjD;go_wp2_with fail;go_roundg (xs.length-(k+1)+1);case measure=>omega
     case rel=>exact⟨k+1,Z,rfl,aG,HN9,wK,HT9.out⟩
  ·obtain rfl:k=xs.length:=by omega
   rw[oO (nV _)]at Ex;have V9:=vR Ex;obtain⟨⟨fs,Jf,hex,Bo⟩,D9⟩:=Ex;rw[Zkp]at hex;obtain⟨ea,ec,rfl⟩:=yN hex;obtain⟨ta,tc,rfl⟩:=yN D9;clear hex D9 Bo;go_wp2_with fail;go_ret2;exact⟨_,_,rfl,hB,V9.out⟩
def ZUc(y)(w):(Instr.typeAssert (.iface 439 y) 336 444 true).run prog w= .ok (.tuple #[.agg #[.nilIface],.bool false]) w:=by kernel_rfl
def ZUd(y)(w):(Instr.typeAssert (.iface 439 y) 336 448 true).run prog w= .ok (.tuple #[.agg #[.nilIface,.string ⟨#[]⟩,.nilIface],.bool false]) w:=by kernel_rfl
def ZUe(y)(w):(Instr.typeAssert (.iface 439 y) 336 451 true).run prog w= .ok (.tuple #[.agg #[.string ⟨#[]⟩,.nilIface],.bool false]) w:=by kernel_rfl
def ZT9(y)(w):(Instr.typeAssert (.iface 365 y) 336 444 true).run prog w= .ok (.tuple #[.agg #[.nilIface],.bool false]) w:=by kernel_rfl
def ZUa(y)(w):(Instr.typeAssert (.iface 365 y) 336 448 true).run prog w= .ok (.tuple #[.agg #[.nilIface,.string ⟨#[]⟩,.nilIface],.bool false]) w:=by kernel_rfl
def ZUb(y)(w):(Instr.typeAssert (.iface 365 y) 336 451 true).run prog w= .ok (.tuple #[.agg #[.string ⟨#[]⟩,.nilIface],.bool false]) w:=by kernel_rfl
def KU:TX->Bool
 | .lit _=>false| .zO _ _=>false| .neg e=>KU e| .arith _ l r=>KU l||KU r| .star _=>true| .agg _ _=>true
def RG(l:Value)(c:Bool):Prop:=∀W,Calls prog 158 #[l] W λe W'=>e= .returned (.bool c)/\vV W W'
def ZJU(y):RG (.iface 439 y) false:=by
 intro W;have t2:=ZUc y;have t3:=ZUd y;have t4:=ZUe y;exact jV
def ZJT(y):RG (.iface 365 y) false:=by
 intro W;have t2:=ZT9 y;have t3:=ZUa y;have t4:=ZUb y;exact jV
def ZvK(s:vS)(v)(hv:v= .nilIface\/∃n y,v= .iface n y):RG (.iface 451 (.agg #[.string ⟨s.toArray⟩,v])) true:=by
 intro W;have t2:=ZqA (.agg #[.string ⟨s.toArray⟩,v]);have t3:=ZqB (.agg #[.string ⟨s.toArray⟩,v]);have t4:=ZqC (.agg #[.string ⟨s.toArray⟩,v]);rcases hv with rfl|⟨n,y,rfl⟩;all_goals
  go_enter func158,ntmps158;exact kK
def ZJV(l)(c)(hl:RG l c)(Hr:∃n y,l= .iface n y):RG (.iface 444 (.agg #[l])) c:=by
 intro W;obtain⟨ln,ly,rfl⟩:=Hr;have t2:=ZAC (.agg #[.iface ln ly]);have HL:=vR hl;clear hl;go_enter func158,ntmps158;go_wp2_with fail;refine(HL.out _).mono ?_;rintro e w1 ⟨rfl,hB⟩;go_wp2_with fail;go_ret;exact⟨rfl,((nW _ W).alloc (nV _) _).trans (hB.mono ae)⟩
def ZJS(l r)(cx cy)(s:vS)(hl:RG l cx)(hr:RG r cy)(Hr:∃n y,l= .iface n y)(KW:∃n y,r= .iface n y):RG (.iface 448 (.agg #[l,.string ⟨s.toArray⟩,r])) (cx||cy):=by
 intro W;obtain⟨ln,ly,rfl⟩:=Hr;obtain⟨rn,ry,rfl⟩:=KW;have t2:=ZAy (.agg #[.iface ln ly,.string ⟨s.toArray⟩,.iface rn ry]);have t3:=ZAz (.agg #[.iface ln ly,.string ⟨s.toArray⟩,.iface rn ry]);have HL:Hid (∀W,Calls prog 158 #[.iface ln ly] W λe W'=>e= .returned (.bool (cx))/\vV W W'):=hl;have HR:Hid (∀W,Calls prog 158 #[.iface rn ry] W λe W'=>e= .returned (.bool (cy))/\vV W W'):=hr;clear hl hr;cases cx with
 |true=>
  go_enter func158,ntmps158;go_wp2_with fail;generalize yn:W.alloc (.cells #[.iface ln ly,.string ⟨s.toArray⟩,.iface rn ry] 448)=Wp;have xA:vV W Wp:=by rw[<-yn];exact(nW _ W).alloc (nV _) _
  have yX:Wp.heap[W.heap.size]? =some (.cells #[.iface ln ly,.string ⟨s.toArray⟩,.iface rn ry] 448):=by rw[<-yn];exact xI W _
  clear yn;refine(HL.out _).mono ?_;rintro e w1 ⟨rfl,hB⟩;have wE:=xA.trans (hB.mono xA.size);obtain⟨c0,c1,c2⟩:=xh (xq hB yX);go_wp2_with fail;go_ret;exact⟨rfl,wE⟩
 |false=>
  go_enter func158,ntmps158;go_wp2_with fail;generalize yn:W.alloc (.cells #[.iface ln ly,.string ⟨s.toArray⟩,.iface rn ry] 448)=Wp;have xA:vV W Wp:=by rw[<-yn];exact(nW _ W).alloc (nV _) _
  have yX:Wp.heap[W.heap.size]? =some (.cells #[.iface ln ly,.string ⟨s.toArray⟩,.iface rn ry] 448):=by rw[<-yn];exact xI W _
  clear yn;refine(HL.out _).mono ?_;rintro e w1 ⟨rfl,hB⟩;have wE:=xA.trans (hB.mono xA.size);obtain⟨c0,c1,c2⟩:=xh (xq hB yX);go_wp2_with fail;refine(HR.out _).mono ?_;exact vN
theorem ZiS:∀x,RG (xV x) (KU x)
 | .lit v=>ZJU _
 | .zO o s=>ZJT _
 | .neg x=>ZJV _ _ (ZiS x) (Gq x)
 | .arith s l r=>ZJS _ _ _ _ s (ZiS l) (ZiS r) (Gq l) (Gq r)
 | .star n=>ZvK n _ (.inl rfl)
 | .agg n x=>ZvK n _ (.inr (Gq x))
def TT(W:World)(ia:Option Addr)(vY:List (TX×vS)):Prop:=∀i (h:i<vY.length),∃g,ia=some ⟨g,0,none⟩/\W.cell? ⟨g,i*2,none⟩=some (xV vY[i].1)/\W.cell? ⟨g,i*2+1,none⟩=some (.string ⟨vY[i].2.toArray⟩)
def TT.below{ia}{vY}(h:TT W ia vY)(hB:vV W W'):TT W' ia vY:=λi hi=>by
 obtain⟨g,e,c0,c1⟩:=h i hi;exact⟨g,e,wT hB (oH W _ c0) c0,wT hB (oH W _ c1) c1⟩
def ZM7(W)(n)(y)(s:vS)(c)(h:RG (.iface n y) c):
  Calls prog 157 #[.agg #[.iface n y,.string ⟨s.toArray⟩]] W λe w'=>e= .returned (.bool c)/\vV W w':=by
 have HH:=vR h;clear h;go_enter func157,ntmps157;go_wp2_with fail;refine(HH.out _).mono ?_;rintro e w2 ⟨rfl,wK⟩;go_wp2_with fail;go_ret;exact⟨rfl,((nW _ W).alloc (nV _) _).trans (wK.mono ae)⟩
def ZM3(W)(ia)(cap)(vY)(hI:TT W ia vY)(hl:vY.length<=100000):
  Calls prog 229 #[.slice ia vY.length cap,.func (.func 157) #[] #[]] W λe w'=>(∃n,e= .returned (.int .i64 n)/\ -1<=n/\n<=100000/\(0<=n↔vY.any (λp=>KU p.1)=true))/\vV W w':=by
 have HS:=vR hI;clear hI;go_enter func229,ntmps229;go_wp2_with fail;go_loopg [8] (vY.length+1) (λgk iv wr=>∃k:Nat,k<=vY.length/\gk=vY.length-k+1/\iv= .int .i64 k/\vV W wr/\Hid (∀j (hj:j<vY.length),j<k->KU vY[j].1=false));case atStart=>exact⟨0,Z,Z,rfl,nW _ _,λj _ h=>Z⟩
 case round=>
  obtain⟨k,hk,rfl,rfl,hB,wO⟩:=hrel;by_cases hlt:k<vY.length
  ·obtain⟨g,rfl,q0,q1⟩:=TT.below HS.out hB k hlt;have Zja:=ZiS vY[k].1;obtain⟨n,y,e1⟩:=Gq vY[k].1;rw[e1]at q0 Zja;have hki:(k:Int)<(vY.length:Int):=by omega
   have NZ:=ZM7 wr n y vY[k].2 _ Zja;cases he:KU vY[k].1 with
   |true=>
    have HE:Hid (vY.any (λp=>KU p.1)=true):=rR.2 ⟨_,oC hlt,he⟩;rw[he]at NZ;clear he Zja e1;exact kS
   |false=>
    have HN:Hid (∀j (hj:j<vY.length),j<k+1->KU vY[j].1=false):=λj hj h=>by
     by_cases e:j=k
     ·subst e;exact he
     ·exact wO.out j hj Z
    rw[he]at NZ;clear he Zja e1;go_wp2_with fail;refine NZ.mono ?_;rintro e w2 ⟨rfl,wK⟩;go_wp2_with fail;go_roundg (vY.length-(k+1)+1);case measure=>omega
    case rel=>exact jR
  ·have HM:Hid (¬vY.any (λp=>KU p.1)=true):=λhm=>by
    obtain⟨x,hx,e⟩:=rR.1 hm;obtain⟨j,hj,rfl⟩:=rY hx;have:=wO.out j hj Z;rw[e]at this;cases this
   exact kQ
def ZM1(W)(ia)(cap)(vY)(hI:TT W ia vY)(hl:vY.length<=100000):
  Calls prog 156 #[.slice ia vY.length cap,.func (.func 157) #[] #[]] W λe w'=>e= .returned (.bool (vY.any (λp=>KU p.1)))/\vV W w':=by
 have HS:=vR hI;clear hI;go_enter func156,ntmps156;go_wp2_with fail;refine(ZM3 _ ia cap vY HS.out hl).mono ?_;rintro e w' ⟨⟨n,rfl,h1,h2,h3⟩,hB⟩;have HC:Hid (vY.any (λp=>KU p.1)=decide (0<=n)):=by
  show _=_;rw[p9,oL,h3]
 clear h3;go_wp2_with fail;go_ret;exact⟨dZ,hB⟩
def YJ(v:Value):Prop:=v= .nilIface\/∃n y,v= .iface n y
def ZM6(W)(d)(ia)(ic)(fa)(fl fc)(wv hv)(ga)(gl gc)(vY)(hw:YJ wv)(hh:YJ hv)(hI:TT W ia vY)(hl:vY.length<=100000)(xL:gl<=100000):
  Calls prog 97 #[.agg #[.bool d,.slice ia vY.length ic,.slice fa fl fc,wv,.slice ga gl gc,hv]] W λe w'=>e= .returned (.bool (decide (0<gl)||vY.any (λp=>KU p.1)))/\vV W w':=by
 have HC:=vR (λw' (hB:vV W w')=>ZM1 w' ia ic vY (TT.below hI hB) hl);clear hI;generalize vY.any (λp=>KU p.1)=R at *;generalize vY.length=ll at *;by_cases hg:0<gl
 ·have Fq:(0:Int)<(gl:Int):=by omega
  have HG:Hid ((decide (0<gl)||R)=true):=by show _=_;simp[hg]
  rcases hw with rfl|⟨wn,wy,rfl⟩<;>rcases hh with rfl|⟨hn,hy,rfl⟩;all_goals
   generalize (decide (0<gl)||R)=RR at *;go_enter func97,ntmps97;go_wp2_with fail;go_ret;exact⟨by rw[HG.out];try rfl,(nW _ W).alloc (nV _) _⟩
 ·obtain rfl:gl=0:=by omega
  rw[qd Z,sM];rcases hw with rfl|⟨wn,wy,rfl⟩<;>rcases hh with rfl|⟨hn,hy,rfl⟩;all_goals
   go_enter func97,ntmps97;go_wp2_with fail;have xA:=λob=>(nW W.heap.size W).alloc (nV _) ob;refine(HC.out _ (xA _)).mono ?_;rintro e w2 ⟨rfl,wK⟩;go_wp2_with fail;go_ret;exact⟨rfl,(xA _).trans (wK.mono ae)⟩
def Io(W:World)(v:Value)(cs:List (vS×Nat)):Prop:=∃a cap,v= .slice a cs.length cap/\∀i (h:i<cs.length),∃g cu,a=some ⟨g,0,none⟩/\W.heap[g]? =some (.cells cu 119)/\W.cell? ⟨g,i*2,none⟩=some (.string ⟨cs[i].1.toArray⟩)/\W.cell? ⟨g,i*2+1,none⟩=some (.int .i64 (cs[i].2:Nat))
def Io.kt{v}(h:Io W v cs)(hk:KT [119] W W'):Io W' v cs:=by
 obtain⟨a,cap,rfl,hx⟩:=h;refine⟨a,cap,rfl,λi hi=>?_⟩;obtain⟨g,cu,e,ho,c0,c1⟩:=hx i hi;have h1:=hk _ _ _ O ho;exact⟨g,cu,e,h1,yP (h1.trans ho.symm) c0,yP (h1.trans ho.symm) c1⟩
def Io.cf{v}(h:Io W v cs)(hc:CF W W'):Io W' v cs:=h.kt (λg cu ty ht e=>hc.cells e gH)
theorem ZtV:∀l i (h:i<l.length),(Ir l)[i*2]? =some (.string ⟨l[i].1.toArray⟩)/\(Ir l)[i*2+1]? =some (.int .i64 (l[i].2:Nat))
 |x::l,0,_=>⟨rfl,rfl⟩
 |x::l,i+1,h=>by
  have ih:=ZtV l i ay;have e:∀j,(Ir (x::l))[j+2]? =(Ir l)[j]? :=λj=>by simp[Ir]
  exact nD
def Zy9{v:Value}(h:W.ownsRow B 119 2 v cs.length (Ir cs)):Io W v cs:=by
 have hc:=λg=>h.cells (g:=g);rcases h.2 with⟨rfl,h0⟩|⟨g,cap,cu,rfl,_,hh,_⟩
 ·exact⟨none,0,bB,λi hi=>Z⟩
 ·refine⟨some ⟨g,0,none⟩,cap,rfl,λi hi=>?_⟩;obtain⟨e0,e1⟩:=ZtV cs i hi;have hg:∀j u,(Ir cs)[j]? =some u->W.cell? ⟨g,j,none⟩=some u:=λj u hj=>by have:=hc g rfl j u hj;rw[uY]at this;simpa using this
  exact⟨g,cu,rfl,hh,hg _ _ e0,hg _ _ e1⟩
def M5{w:World}{b k g o:Nat}{u v:Value}(h:w.cell? ⟨g,o,none⟩=some v)(wF:g≠b):(w.setCell ⟨b,k,none⟩ u).cell? ⟨g,o,none⟩=some v:=yP (uX w ⟨b,k,none⟩ u g wF) h
def Zzi{a}{g k:Nat}{u:Value}(h:Ox S W a)(hg:W.heap.size<=g):Ox S W (a.setCell ⟨g,k,none⟩ u):=⟨h.os,h.tape,h.output,eQ,λb hl hb=>(uX a ⟨g,k,none⟩ u b (λe=>by have e2:b=g:=e;omega)).trans (h.block b hl hb)⟩
def Lj(L R:List (vS×Nat)):Bool:=decide (L.length≠R.length)||(List.zipWith (λa b=>Cz a.2 b.2) L R).any id
def Ku(L R:List (vS×Nat)):List (vS×Nat):=if L.length=R.length then List.zipWith (λa b=>(a.1,JP a.2 b.2)) L R else L
def Zmi(W0)(C M)(cl)(lv rv)(L R)(W)(hC:yL W0 C M cl W)(hL:Io W lv L)(hR:Io W rv R)(hl:L.length<=100000)(hr:R.length<=100000):
  Calls prog 65 #[vU C,lv,rv] W λe W'=>∃tv,e= .returned tv/\Ox [C] W W'/\yL W0 C M (cl||Lj L R) W'/\Io W' tv (Ku L R):=by
 obtain⟨la,lc,rfl⟩:∃a c,lv= .slice a L.length c:=by obtain⟨a,c,e,_⟩:=hL;exact⟨a,c,e⟩
 obtain⟨ra,rc,rfl⟩:∃a c,rv= .slice a R.length c:=by obtain⟨a,c,e,_⟩:=hR;exact⟨a,c,e⟩
 obtain⟨z0,z1,z2,zf⟩:=wS hC.obj;have MM:∀w',Ox [C] W w'->KT [119] W w':=λw' hx=>KT.Zpu hx λg hg cu ty ht e=>by
  have:g=C:=bJ
  subst this;rw[hC.obj]at e;cases e;revert ht;decide
 unfold vU at *;by_cases hlen:L.length=R.length
 ·have HP:Hid (Ku L R=List.zipWith (λa b=>(a.1,JP a.2 b.2)) L R):=by show _=_;rw[Ku,nY hlen]
  have HQ:Hid (Lj L R=(List.zipWith (λa b=>Cz a.2 b.2) L R).any id):=by show _=_;simp[Lj,hlen]
  have HLN:=vR hlen;have Zq5:∀w',Ox [C] W w'->∀i (h:i<L.length) (h':i<R.length),(∃g,la=some ⟨g,0,none⟩/\g<W.heap.size/\w'.cell? ⟨g,i*2,none⟩=some (.string ⟨L[i].1.toArray⟩)/\w'.cell? ⟨g,i*2+1,none⟩=some (.int .i64 (L[i].2:Nat)))/\(∃g,ra=some ⟨g,0,none⟩/\g<W.heap.size/\w'.cell? ⟨g,i*2+1,none⟩=some (.int .i64 (R[i].2:Nat))):=λw' hX i hi Ck=>by
   obtain⟨a1,c1,e1,h1⟩:=hL.kt (MM w' hX);obtain⟨a2,c2,e2,h2⟩:=hR.kt (MM w' hX);obtain⟨a3,c3,e3,h3⟩:=hL;obtain⟨a4,c4,e4,h4⟩:=hR;cases e1;cases e2;cases e3;cases e4;obtain⟨g,_,q1,_,q2,q3⟩:=h1 i hi;obtain⟨g',_,r1,_,r2,r3⟩:=h2 i Ck;obtain⟨g3,_,s1,s2,_⟩:=h3 i hi;obtain⟨g4,_,t1,t2,_⟩:=h4 i Ck;rw[q1]at s1;cases s1;rw[r1]at t1;cases t1;exact⟨⟨g,q1,(wo s2),q2,q3⟩,⟨g',r1,(wo t2),r3⟩⟩
  rw[<-hlen];have HC:=vR hC;have ZvE:=HC.out.low.size;obtain⟨i1,Kj,hzz,hss,Ey⟩:=oM Tryz.ZcJ0;have Fv:=λw:World=>run_make (P:=prog) w 114 119 i1 _ underlying114 Kj hzz .i64 .i64 L.length L.length Z (Int.le_refl _) (by rw[Ey];omega) Z;rw[hss]at Fv;clear hlen hL hR hC hr MM;go_enter func65,ntmps65;go_wp2_with fail;have Ry:=vR Zq5;clear Zq5;go_loopg [23] (L.length+1) (λgk iv wr=>∃k:Nat,k<=L.length/\gk=L.length-k+1/\iv= .int .i64 k/\Ox [C] W wr/\W.heap.size<wr.heap.size/\(∃cur:Array Value,cur.size=L.length*2/\wr.heap[W.heap.size]? =some (.cells cur 119)/\Hid (∀j (h:j<L.length) (h':j<R.length),j<k->cur[j*2]? =some (.string ⟨L[j].1.toArray⟩)/\cur[j*2+1]? =some (.int .i64 (JP L[j].2 R[j].2:Nat))))/\Hid (yL W0 C M (cl||((List.zipWith (λa b=>Cz a.2 b.2) L R).take k).any id) wr));case atStart=>exact⟨0,Z,Z,rfl,Ox.vZ (Cy _ _),ae,⟨_,bY,xI W _,λj _ _ hj=>Z⟩,by simpa[Hid]using HC.out.below (Cy _ _)⟩
  case round=>
   obtain⟨k,hk,rfl,rfl,hX,yA,⟨cur,Fp,DI,Ke⟩,Av⟩:=hrel;by_cases hlt:k<L.length
   ·have JG:k<R.length:=by have:=HLN.out;omega
    obtain⟨⟨gl,rfl,xL,cl0,Ac⟩,⟨gr,rfl,A7,cr1⟩⟩:=Ry.out wr hX k hlt JG;have HZ:Hid ((List.zipWith (fun(a b:vS×Nat)=>Cz a.2 b.2) L R).take (k+1)=(List.zipWith (λa b=>Cz a.2 b.2) L R).take k++ [Cz L[k].2 R[k].2]):=by
     show _=_;rw[o8 ah,uN]
    have RA:Hid (∀(Us:Array Value),Us.size=L.length*2->(∀j,j<L.length*2->j≠k*2->j≠k*2+1->Us[j]? =cur[j]?)->Us[k*2]? =some (.string ⟨L[k].1.toArray⟩)->Us[k*2+1]? =some (.int .i64 (JP L[k].2 R[k].2:Nat))->∀j (h:j<L.length) (h':j<R.length),j<k+1->Us[j*2]? =some (.string ⟨L[j].1.toArray⟩)/\Us[j*2+1]? =some (.int .i64 (JP L[j].2 R[j].2:Nat))):=λUs h1 h2 h3 h4 j hj hj' LD=>by
     by_cases e:j=k
     ·subst e;exact⟨h3,h4⟩
     ·rw[h2 _ Z Z Z,h2 _ Z Z Z];exact Ke.out j hj hj' Z
    have Lf:Hid (∀w',Ox [C] wr w'->w'.cell? ⟨gl,k*2,none⟩=some (.string ⟨L[k].1.toArray⟩)/\w'.cell? ⟨gl,k*2+1,none⟩=some (.int .i64 (L[k].2:Nat))/\w'.cell? ⟨gr,k*2+1,none⟩=some (.int .i64 (R[k].2:Nat))):=λw' hx'=>by
     obtain⟨⟨g1,e1,_,q1,q2⟩,⟨g2,e2,_,q3⟩⟩:=Ry.out w' (hX.trans hx') k hlt JG;cases e1;cases e2;exact⟨q1,q2,q3⟩
    generalize L[k].1=nm at *;generalize L[k].2=a at *;generalize R[k].2=b at *;have hCW:C≠W.heap.size:=by have:=(wo HC.out.obj);omega
    have HTG:=vR (ZhV W0 C M _ a b wr.drew (Av.out.below (yF (nW _ wr) 1)));have HCK:=vR Av.out;clear Ke Av;unfold vU at HTG;go_wp2_with fail;refine vM (S:=λw'=>w'.cell? ⟨gl,k*2,none⟩=some (.string ⟨nm.toArray⟩)/\w'.cell? ⟨gl,k*2+1,none⟩=some (.int .i64 (a:Nat))/\w'.cell? ⟨gr,k*2+1,none⟩=some (.int .i64 (b:Nat))) af ⟨by exact cl0,by exact Ac,by exact cr1⟩ (λwL=>?_);refine tk 0 ?_;refine tk 1 ?_;refine tk 2 ?_;refine tk 3 ?_;refine tk 4 ?_;refine tk 5 ?_;refine tk 6 ?_;refine tk 7 ?_;refine tk 8 ?_;refine tk 9 ?_;refine tk 10 ?_;refine tk 11 ?_;refine tk 12 ?_;refine tk 13 ?_;refine tk 14 ?_;refine tk 15 ?_;refine tk 16 ?_;refine tk 17 ?_;refine og (rs:= [18]) af ae (nZ rfl (λK hK=>?_) oh);go_simp;refine HTG.out.mono ?_;rintro en w2 ⟨rfl,Fh,CE⟩;have Zfh:=(Ox.vZ (yF (nW _ wr) 1)).trans Fh;obtain⟨m0,m1,m2⟩:=Lf.out w2 Zfh;have UL:=(Zfh.block _ yA ah).trans DI;refine hK.out _ _ ⟨by exact m0,by exact m1,by exact m2⟩ (λwL=>?_);clear hK K;refine tk 19 ?_;refine tk 20 ?_;have ZLP:w2.cell? ⟨W.heap.size,k*2,none⟩=some (cur[k*2]' Z):=by simp only[World.cell?,UL];exact rz _
    have ZLQ:w2.cell? ⟨W.heap.size,k*2+1,none⟩=some (cur[k*2+1]' Z):=by simp only[World.cell?,UL];exact rz _
    have ZKp:w2.frozen? ⟨W.heap.size,k*2,none⟩=false:=by simp[World.frozen?,UL]
    have ZKq:w2.frozen? ⟨W.heap.size,k*2+1,none⟩=false:=by simp[World.frozen?,UL]
    refine og (rs:= [21]) af ae (nZ rfl (λK hK=>?_) oh);go_simp;have Zi8:gl≠W.heap.size:=Z
    have ZwB:gr≠W.heap.size:=Z
    have Zn0:=FH (k:=k*2+1) (u:=.int .i64 (JP a b:Nat)) (FH (k:=k*2) (u:=.string ⟨nm.toArray⟩) UL);refine hK.out _ _ ⟨M5 (M5 m0 Zi8) Zi8,M5 (M5 m1 Zi8) Zi8,M5 (M5 m2 ZwB) ZwB⟩ (λwL=>?_);clear hK K;refine oP af ?_ _;have HX3:Hid (Ox [C] W ((w2.setCell ⟨W.heap.size,k*2,none⟩ (.string ⟨nm.toArray⟩)).setCell ⟨W.heap.size,k*2+1,none⟩ (.int .i64 (JP a b:Nat)))):=Zzi (Zzi (hX.trans Zfh) (nV _)) (nV _);have TG:Hid (yL W0 C M ((cl||((List.zipWith (λa b=>Cz a.2 b.2) L R).take k).any id)||Cz a b) ((w2.setCell ⟨W.heap.size,k*2,none⟩ (.string ⟨nm.toArray⟩)).setCell ⟨W.heap.size,k*2+1,none⟩ (.int .i64 (JP a b:Nat)))):=⟨(CE.low.setCell (p:=⟨W.heap.size,k*2,none⟩) ZvE _).setCell (p:=⟨W.heap.size,k*2+1,none⟩) ZvE _,CE.hC,EO (EO CE.obj hCW) hCW⟩;have ZBU:Hid (∀j (h:j<L.length) (h':j<R.length),j<k+1->((cur.setIfInBounds (k*2) (.string ⟨nm.toArray⟩)).setIfInBounds (k*2+1) (.int .i64 (JP a b:Nat)))[j*2]? =some (.string ⟨L[j].1.toArray⟩)/\((cur.setIfInBounds (k*2) (.string ⟨nm.toArray⟩)).setIfInBounds (k*2+1) (.int .i64 (JP a b:Nat)))[j*2+1]? =some (.int .i64 (JP L[j].2 R[j].2:Nat))):=by
     refine RA.out _ (by simp[Fp]) (λj hj h1 h2=>?_) ?_ ?_
     ·rw[qL Z,qL Z]
     ·rw[qL Z,qQ Z]
     ·rw[qQ ah]
    have Ay:=Zfh.size;clear CE Fh Zfh m0 m1 m2 ZLP ZLQ ZKp ZKq RA Lf wL;go_wp2_with fail;go_roundg (L.length-(k+1)+1);case measure=>omega
    case rel=>exact⟨k+1,Z,rfl,aG,HX3.out,ah,⟨_,by simp[Fp],Zn0,ZBU⟩,by show yL _ _ _ _ _;rw[HZ.out,List.any_append];simpa[Bool.or_assoc]using TG.out⟩
   ·obtain rfl:k=L.length:=by omega
    have JY:Hid (Io wr (.slice (some ⟨W.heap.size,0,none⟩) L.length L.length) (List.zipWith (λa b=>(a.1,JP a.2 b.2)) L R)/\yL W0 C M (cl||(List.zipWith (λa b=>Cz a.2 b.2) L R).any id) wr):=by
     have hz:(List.zipWith (fun(a b:vS×Nat)=>(a.1,JP a.2 b.2)) L R).length=L.length:=by have:=HLN.out;simp;omega
     refine⟨⟨some ⟨W.heap.size,0,none⟩,L.length,by rw[hz],λi hi=>⟨W.heap.size,cur,rfl,DI,?_⟩⟩,?_⟩
     ·have Hr:i<L.length:=by omega
      have KW:i<R.length:=by have:=HLN.out;omega
      obtain⟨h1,h2⟩:=Ke.out i Hr KW Z;simp only[World.cell?,DI,h1,h2,uN];exact jS
     ·have:=Av.out;rwa [oO ah]at this
    clear Av Ke;go_wp2_with fail;go_ret;exact⟨_,rfl,hX,by rw[HQ.out];exact JY.out.2,by rw[HP.out];exact JY.out.1⟩
 ·have hb:((L.length:Int) != (R.length:Int))=true:=by simp;omega
  have Cg:((L.length:Int)==(R.length:Int))=false:=by simp;omega
  have HC:=vR hC;have HK:=vR MM;have HLs:=vR hL;have HP:Hid (Ku L R=L):=by show _=_;rw[Ku,nU hlen]
  have HQ:Hid (Lj L R=true):=by show _=_;simp[Lj,hlen]
  clear hlen hC hL hR MM;go_enter func65,ntmps65;go_wp2_with fail;go_ret;exact⟨_,rfl,(HC.out.set true).2,by rw[HQ.out,Bool.or_true];exact(HC.out.set true).1,by rw[HP.out];exact HLs.out.kt (HK.out _ (HC.out.set true).2)⟩
def LX(xs:List SX)(vY:List (TX×vS))(e:yR)(cl:Bool):Option (List PX×List (vS×Nat)×yR×Bool):=if vY= []then some (M3 (AL xs xs.length),Mq xs,e,cl)else GL vY e cl [] []
def ZFD(W0 W)(C M b)(e)(cl)(ia)(ic)(hC:yL W0 C M cl W)(hP:yS W0 W b e):
  Calls prog 100 #[vU C,.slice ia 0 ic,vU b] W (ItR W0 W C M b e (some (M3 (AL e.xs e.xs.length),Mq e.xs,e,cl))):=by
 obtain⟨sv,wv,gv,k1,k2,k3,k4,k5⟩:=id hP;have HA:=vR (ZFo W0 W b sv wv gv e.xs hC.low k1 k2 k3);have HC:=vR hC;have HP:=vR hP;clear hC hP k1 k2 k3 k4 k5;unfold vU at *;go_enter func100,ntmps100;go_wp2_with fail;refine HA.out.mono ?_;rintro en w1 ⟨ev,tv,rfl,hB,hT⟩;have HT:=vR hT;obtain⟨⟨fs,Jf,hex,Bo⟩,D9⟩:=hT;obtain⟨ea,ec,rfl⟩:=yN hex;obtain⟨ta,tc,rfl⟩:=yN D9;clear Jf hex Bo D9;go_wp2_with fail;go_ret2;exact .inr ⟨_,_,_,_,_,_,rfl,rfl,HT.out,HP.out.below hB,HC.out.below hB,CF.vZ hB,λ_=>KT.vZ hB⟩
def Zts(W0 W)(C M b)(e)(cl)(vY)(ia)(ic)(hC:yL W0 C M cl W)(hP:yS W0 W b e)(hr:room e+La vY<=400)(JH:Nj W0 (.slice ia vY.length ic) vY)(hle:vY.length<=400)(hk:∀p∈vY,Gp p.1):
  Calls prog 100 #[vU C,.slice ia vY.length ic,vU b] W (ItR W0 W C M b e (LX e.xs vY e cl)):=by
 cases vY with
 |nil=>exact ZFD W0 W C M b e cl ia ic hC hP
 |cons x r=>
  have:LX e.xs (x::r) e cl=GL (x::r) e cl [] []:=nU ae;rw[this];exact ZFC W0 W C M b e cl (x::r) _ hC hP hr JH ae hle hk
def ZMQ{vY}{e}(h:LX xs vY e cl=some (ps,cs,e',cl')):e.xB=none->e'.xB=none:=by
 have key:∀(l:List (TX×vS)) (e:yR) (cl:Bool) (p:List PX) (c:List (vS×Nat)),GL l e cl p c=some (ps,cs,e',cl')->e.xB=none->e'.xB=none:=by
  intro l;induction l with
  |nil=>intro e cl p c h he;rw[GL]at h;cases h;exact he
  |cons it r ih=>
   intro e cl p c h he;rw[GL]at h;split at h
   ·cases h
   ·rename_i y hy;exact ih _ _ _ _ h ((KN (x:=it.1) (e':=y.2.2.1) (cl':=y.2.2.2) (p:=y.1) (t:=y.2.1) hy).2.2 he)
 intro he;unfold LX at h;split at h
 ·cases h;exact he
 ·exact key _ _ _ _ _ h he
def Z0s{p:Prop}(h:p:=by
 intro l;induction l with
 |nil=>intro e cl p c h;rw[GL]at h;cases h;rfl
 |cons it r ih=>
  intro e cl p c h;rw[GL]at h;split at h
  ·cases h
  ·have:=ih _ _ _ _ h;simp at this ⊢;omega):p:=h
def Zx2{vY}{e}(h:LX xs vY e cl=some (ps,cs,e',cl'))(hx:AL xs xs.length<=1000)(hl:vY.length<=400):ps.length<=100000:=by
 have key:∀(l:List (TX×vS)) (e:yR) (cl:Bool) (p:List PX) (c:List (vS×Nat)),GL l e cl p c=some (ps,cs,e',cl')->ps.length=p.length+l.length:=by
  exact Z0s
 unfold LX at h;split at h
 ·cases h;rw[Zkp];omega
 ·have:=key _ _ _ _ _ h;exact nN
def Zx1{vY}{e}(h:LX xs vY e cl=some (ps,cs,e',cl'))(hx:AL xs xs.length<=1000)(hl:vY.length<=400):cs.length<=1000:=by
 have key:∀(l:List (TX×vS)) (e:yR) (cl:Bool) (p:List PX) (c:List (vS×Nat)),GL l e cl p c=some (ps,cs,e',cl')->cs.length=c.length+l.length:=by
  exact Z0s
 unfold LX at h;split at h
 ·cases h;have:=Zsg xs xs.length;rw[oO (nV _)]at this;omega
 ·have:=key _ _ _ _ _ h;exact nN
def ZAQ(h:KE B W ev tv ps cs)(hl:ps.length<=100000):Gs W ev ps:=by
 obtain⟨⟨fs,h1,h2,h3⟩,_⟩:=h;have hc:=λg=>h2.cells (g:=g);rcases h2.2 with⟨rfl,h0⟩|⟨g,cap,cu,rfl,_,hh,_⟩
 ·exact⟨none,0,bB,hl,λi hi=>Z⟩
 ·refine⟨some ⟨g,0,none⟩,cap,rfl,hl,λi hi=>⟨g,0,cu,fs[i],rfl,hh,?_,h3 i hi Z⟩⟩;have:=hc g rfl i fs[i] ae;exact mV
def PI(xs:List SX):List (List (List wG)):=xs.map λx=>x.tb.rows
def Zzg{v:Value}(h:W.ownsRow B 88 1 v xs.length (xs.map λx=>Value.pointer (some ⟨x.T,0,none⟩)))(wQ:Ml W0 xs)(hB:vV W0 W):Ua W v (PI xs):=by
 have hc:=λg=>h.cells (g:=g);have hlen:(PI xs).length=xs.length:=by simp[PI]
 rcases h.2 with⟨rfl,h0⟩|⟨g,cap,cu,rfl,_,hh,_⟩
 ·exact⟨none,0,by rw[hlen,h0],by rw[hlen];exact wQ.le,λi hi=>Z⟩
 ·refine⟨some ⟨g,0,none⟩,cap,by rw[hlen],by rw[hlen];exact wQ.le,λi hi=>?_⟩;have Ck:i<xs.length:=by omega
  have ht:=wQ.VH xs[i] (oC Ck);obtain⟨gc,yZ,P,rv,ND,_,_,_,_,Pk⟩:=ht.obj;refine⟨g,0,cu,xs[i].T,_,_,rv,rfl,hh,?_,xq hB ND,?_⟩
  ·have:=hc g rfl i (.pointer (some ⟨xs[i].T,0,none⟩)) (by simp[Ck]);rw[uY]at this;simpa[vU]using this
  ·have e:(PI xs)[i]=xs[i].tb.rows:=by simp[PI]
   rw[e];exact FN.same (ts:= [78,80]) (KT.vZ hB) O O Pk
theorem ZyK:∀l fs i (h:i<l.length) (h':i<fs.length),(Og l fs)[i*2]? =some (.string ⟨l[i].1.toArray⟩)/\(Og l fs)[i*2+1]? =some fs[i]
 |x::l,f::fs,0,_,_=>⟨rfl,rfl⟩
 |x::l,f::fs,i+1,h,h'=>by
  have ih:=ZyK l fs i ay (by simpa using h');have e:∀j,(Og (x::l) (f::fs))[j+2]? =(Og l fs)[j]? :=λj=>by simp[Og]
  exact nD
def ZPL{v:Value}{l:List (vS×PX)}(h:W.ownsRow B 402 2 v l.length (Og l fs))(hf:fs.length=l.length)(hl:l.length<=1000)(hn:∀i (h:i<l.length) (h':i<fs.length),zz W l[i].2 fs[i]):Tw W v l:=by
 have hc:=λg=>h.cells (g:=g);rcases h.2 with⟨rfl,h0⟩|⟨g,cap,cu,rfl,_,hh,_⟩
 ·exact⟨none,0,bB,hl,λi hi=>Z⟩
 ·refine⟨some ⟨g,0,none⟩,cap,rfl,hl,λi hi=>?_⟩;obtain⟨e0,e1⟩:=ZyK l fs i hi Z;have hg:∀j u,(Og l fs)[j]? =some u->W.cell? ⟨g,j,none⟩=some u:=λj u hj=>by have:=hc g rfl j u hj;rw[uY]at this;simpa using this
  exact⟨g,0,cu,fs[i]' Z,rfl,hh,by rw[o9];exact hg _ _ e0,by rw[o9];exact hg _ _ e1,hn i hi Z⟩
def ZFy(W)(b)(sa)(sn sc)(oa)(gv)(ka)(kn kc)(ho:W.heap[b]? =some (.cells #[.slice sa sn sc,.pointer oa,gv] 244)):
  Calls prog 99 #[.pointer (some ⟨b,0,none⟩),.slice ka kn kc] W λe W'=>∃p G,e= .returned (.pointer (some ⟨p,0,none⟩))/\vV W W'/\W.heap.size<=p/\W.heap.size<=G/\W'.heap[p]? =some (.cells #[.slice sa sn sc,.pointer oa,.pointer (some ⟨G,0,none⟩)] 244)/\W'.heap[G]? =some (.cells #[.slice ka kn kc,.pointer (some ⟨b,0,none⟩),.slice none 0 0] 267):=by
 obtain⟨c0,c1,c2⟩:=xh ho;have zi:=(wo ho);go_enter func99,ntmps99;go_wp2_with fail;have d0:=λo=>(oD W.drew o ⟨b,0,none⟩ zi).trans c0;have d1:=λo=>(oD W.drew o ⟨b,1,none⟩ zi).trans c1;have e0:=λo=>(oD W o ⟨b,0,none⟩ zi).trans c0;have e1:=λo=>(oD W o ⟨b,1,none⟩ zi).trans c1;have HF:Hid (∀(o1 o2:Obj),vV W ((W.alloc o1).alloc o2).drew/\((W.alloc o1).alloc o2).drew.heap[W.heap.size]? =((W.alloc o1)).heap[W.heap.size]?/\((W.alloc o1).alloc o2).drew.heap[W.heap.size+1]? =((W.alloc o1).alloc o2).heap[(W.alloc o1).heap.size]?):=λo1 o2=>⟨yF (((nW _ W).alloc (nV _) _).alloc ae _) 1,ow _ _ _ ae,by rw[uP];try rfl⟩;go_region;all_goals
  go_wp2;go_ret;obtain⟨hB,h1,h2⟩:=HF.out (.cells #[.slice ka kn kc,.pointer (some ⟨b,0,none⟩),.slice none 0 0] 267) (.cells #[.slice sa sn sc,.pointer oa,.pointer (some ⟨W.heap.size,0,none⟩)] 244);exact⟨W.heap.size+1,W.heap.size,rfl,hB,Z,nV _,h2.trans (xI _ _),h1.trans (xI _ _)⟩
def CoX(W0 W:World)(C M b:Nat)(kw:Bool)(X:World->Option Nat->Prop)(res:Option (PC×yR×Bool))(en:Ending)(W':World):Prop:=
 (res=none/\Gx W0 en W')\/∃p e' cl' K cap wb,res=some (p,e',cl')/\en= .returned (.func (.func K) #[] cap)/\DC W' wb p (.func (.func K) #[] cap)/\yS W0 W' b e'/\yL W0 C M cl' W'/\CF W W'/\(kw=true->KT Cu W W')/\X W' wb
def J2(W0:World)(a:Option Addr)(ps:List (vS×vS)):Prop:=∀i (h:i<ps.length),∃g,a=some ⟨g,0,none⟩/\W0.cell? ⟨g,i*2,none⟩=some (.string ⟨ps[i].1.toArray⟩)/\W0.cell? ⟨g,i*2+1,none⟩=some (.string ⟨ps[i].2.toArray⟩)
def KP(vY:List (TX×vS))(gs:List (vS×vS)):Bool:=decide (0<gs.length)||vY.any (λp=>KU p.1)
def Vz(d:Bool)(xs:List SX)(vY:List (TX×vS))(gs:List (vS×vS))(hv:FC)(wh:PC)(e1:yR)(Ac:Bool)(ks:List Nat):Option (Aq×List (vS×Nat)×yR×Bool):=
 if KP vY gs=true/\vY= []then none else
 (Ce hv {e1 with xB:=if KP vY gs then some (ks, [])else none} Ac).bind λh=>(LX xs vY h.2.1 h.2.2).map λi=>
  (⟨d,PI xs,wh,KP vY gs,ks,(match i.2.2.1.xB with|none=> []|some g=>g.2),h.1,i.1⟩,i.2.1,i.2.2.1,i.2.2.2)
def Rj(db:List (vS×Nat×Ar))(d:Bool)(vY:List (TX×vS))(ps gs:List (vS×vS))(hv:FC)(Ti:List SX->Option (PC×yR×Bool)):Option (Aq×List (vS×Nat)×yR×Bool):=
 (M6 db ps).bind λxs=>(Ti xs).bind λw=>(Oc xs gs []).bind λks=>Vz d xs vY gs hv w.1 w.2.1 w.2.2 ks
def TZ(W0 W:World)(C M:Nat)(inv:Value)(gr:Bool)(X:World->Option Nat->Prop)(res:Option (Aq×List (vS×Nat)×yR×Bool))(en:Ending)(W':World):Prop:=
 (res=none/\Gx W0 en W')\/∃s cs e' cl' sb x tv wb,res=some (s,cs,e',cl')/\en= .returned (.tuple #[.iface 211 (vU sb),tv])/\Eg W' sb x s wb false/\W.heap.size<=sb/\Io W' tv cs/\cs.length<=1000/\Jv W0 W' inv e'.out/\yL W0 C M cl' W'/\CF W W'/\(gr=false->KT Cu W W')/\X W' wb/\∃W3,X W3 wb/\W3.heap.size<=sb/\CF W3 W'
def Zka{w4 w5 w}(h:vV w4 w5)(hx:Ox [sb] w5 w)(hs:w4.heap.size<=sb):vV w4 w:=h.trans ⟨hx.os,hx.tape,hx.output,hx.size,λg hg=>hx.block g (oU hg h.size) ah⟩
def Tryz.ZMK:(prog.info? 88).map (λi=>(i.zero,i.size,i.bytes))=some (some (.pointer none),1,8):=by kernel_rfl
def Z0t{p:Prop}(h:p:=by
 go_simp;refine hK.out _ _ iO (λwL=>?_);clear hK K;refine og (rs:= [8]) af ae (nZ rfl (λK hK=>?_) oh);refine qz _ rfl _ _ 249 rfl w5.heap.size 88 t1 (.pointer none) 1 8 underlying249 hT0 NB zL hT3 rfl O (.slice ta k tc) k tl rfl (by exact(zC wD AP).alloc _) ⟨wA.heap.size,0,none⟩ 1 1 [.pointer (some ⟨T,0,none⟩)] rfl rfl (by exact Zes _ _ _) au Z aj Z (by exact Zxq) _ rfl ?_;intro gt Un w7 Dv zh Zoq Zot;have Ki:(wA.alloc (.cells #[.pointer (some ⟨T,0,none⟩)] 88)).grownBy w7 (Value.slice ta k tc).ownBlock:=⟨zh.os,zh.tape,zh.output,zh.size,zh.block⟩;have ho7:=(Ki.block _ (by simp;have:=(oz.1 Fw).1;omega) (Ib (zC wD AP) Fw O)).trans ((ow _ _ _ (oz.1 Fw).1).trans Fw);have KY:=(Ki.block _ (by simp;have:=(oz.1 SS).1;omega) (Ib (zC wD AP) SS O)).trans ((ow _ _ _ (oz.1 SS).1).trans SS);have Gz:=Zih (G:=sb) (k:=1) (u:=.slice (some ⟨gt,0,none⟩) (k+1) Un) (zC wD AP) Ki;simp only[Act.put,pz,List.set_cons_zero,List.set_cons_succ,List.getElem_toArray,List.getElem_cons_zero,List.getElem_cons_succ];refine hK.out _ _ (by exact(xh ho7).2.1) (λwL=>?_);clear hK K;refine tk 9 ?_;refine tk 10 ?_;have v1:=zS KY;have vf:w7.frozen? ⟨sb,1,none⟩=false:=by simp[World.frozen?,KY]
 refine og (rs:= [11]) af ae (nZ rfl (λK hK=>?_) oh);go_simp;have ZoS:=FH (k:=1) (u:=.slice (some ⟨gt,0,none⟩) (k+1) Un) KY;have Ez:=Vv (k:=1) (u:=.slice (some ⟨gt,0,none⟩) (k+1) Un) Dv KY O;refine hK.out _ _ (M5 (xh ho7).2.1 Z) (λwL=>?_);clear hK K;refine oP af ?_ _;have TR:Hid (Ox [sb] w5 (w7.setCell ⟨sb,1,none⟩ (.slice (some ⟨gt,0,none⟩) (k+1) Un))):=by
  have IK:=xu.trans (Ox.vZ AP);have ZMl:=IK.size;refine⟨Gz.os.trans IK.os,Gz.tape.trans IK.tape,Gz.output.trans IK.output,om IK.size Gz.size,λg hg hn=>?_⟩;have wF:g≠sb:=bO
  refine(uX w7 ⟨sb,1,none⟩ _ g wF).trans ((Ki.block g ah (λeg=>?_)).trans ((ow _ _ _ Z).trans (IK.block g hg hn)));have:=BQ g eg.symm Z;omega
 clear Dv zh Zoq Zot Ki Gz v1 vf wL;go_wp2_with fail;go_roundg (xs.length-(k+1)+1);case measure=>omega
 case rel=>exact⟨k+1,_,Z,rfl,aG,TR.out,by simpa using ZoS,by rw[HTS.out];exact Ez⟩):p:=h
def Z0u{p:Prop}(h:p:=by
 have xM:=vR wV;obtain⟨b',rfl,_⟩:=wV;clear wO;go_wp2;exact⟨rfl,.inl ⟨yD.out,xM.out⟩⟩):p:=h
def Zty(W0 W)(C M)(cl)(db)(d)(vY)(ia)(ic)(ps)(sg Bg)(gs)(ga)(zx)(wv)(hv)(oa)(out)(Ti:List SX->Option (PC×yR×Bool))(kw)(X)(hD:JV W0 M db)(hC:yL W0 C M cl W)(hOut:Jv W0 W (.pointer oa) out)(hIt:Nj W0 (.slice ia vY.length ic) vY)(Hr:vY.length<=400)(Zcl:∀p∈vY,Gp p.1)(hSr:J2 W0 (some ⟨sg,0,none⟩) ps)(II:ps.length<=400)(Br:∀p∈ps,p.1.length<=1000/\p.2.length<=1000)(hGr:J2 W0 ga gs)(xL:gs.length<=400)(SH:∀p∈gs,p.2.length<=1000)(hwv:YJ wv)(hvk:Q5 hv)(Zv3:∀xs b w',M6 db ps=some xs->yL W0 C M cl w'->yS W0 w' b ⟨xs,none,out⟩->CF W w'->Calls prog 95 #[vU C,wv,vU b] w' (CoX W0 w' C M b kw X (Ti xs)))(Zac:∀xs p e1 Ac,M6 db ps=some xs->Ti xs=some (p,e1,Ac)->room e1+F5 hv+La vY<=400/\e1.xs=xs/\e1.xB=none)(hX:∀a c wb,X a wb->CF a c->(KP vY gs=false->KT Cu a c)->X c wb):
  Calls prog 66 #[vU C,.agg #[.bool d,.slice ia vY.length ic,.slice (some ⟨sg,0,none⟩) ps.length Bg,wv,.slice ga gs.length zx,cV hv],.pointer oa] W (TZ W0 W C M (.pointer oa) (KP vY gs|| !kw) X (Rj db d vY ps gs hv Ti)):=by
 obtain⟨hvn,hvy⟩:YJ (cV hv)/\True:=⟨by cases hv<;>first|exact .inl rfl|exact .inr ⟨_,_,rfl⟩,trivial⟩;have hwc:wv.cells= #[wv]:=by rcases hwv with rfl|⟨_,_,rfl⟩<;>rfl
 have hvc:(cV hv).cells= #[cV hv]:=by rcases hvn with e|⟨_,_,e⟩<;>rw[e]<;>rfl
 have ZrG:=vR (λw' (hB:Below W.heap.size W w')=>ZFM W0 w' C M cl db ps sg Bg hD (hC.below hB) Z Br (λi h=>by obtain⟨g,e,q⟩:=hSr i h;cases e;exact q));generalize Bl:cV hv=Jj at *;unfold vU at *;go_enter func66,ntmps66;go_wp2_with fail;generalize yn:W.alloc (.cells #[.bool d,.slice ia vY.length ic,.slice (some ⟨sg,0,none⟩) ps.length Bg,wv,.slice ga gs.length zx,Jj] 181)=Wp;have xA:Below W.heap.size W Wp:=by rw[<-yn];exact Cy _ _
 have SL:Wp.heap[W.heap.size]? =some (.cells #[.bool d,.slice ia vY.length ic,.slice (some ⟨sg,0,none⟩) ps.length Bg,wv,.slice ga gs.length zx,Jj] 181):=by rw[<-yn];exact xI W _
 have Hz:Wp.heap.size=W.heap.size+1:=by rw[<-yn];simp
 clear yn;have HX:=vR hX;have HCO:=vR Zv3;have HRM:=vR Zac;have HC:=vR hC;have HO:=vR hOut;have HIT:=vR hIt;have V4:=vR Zcl;have HGC:=vR hGr;have HGP:=vR SH;have Zlu:Hid (Rj db d vY ps gs hv Ti=(M6 db ps).bind λxs=>(Ti xs).bind λw=>(Oc xs gs []).bind λks=>Vz d xs vY gs hv w.1 w.2.1 w.2.2 ks):=rfl;generalize ZJz:Rj db d vY ps gs hv Ti=Dg at *;clear ZJz hX Zv3 Zac hC hOut hIt Zcl hGr SH hSr Br hD;refine(ZrG.out _ xA).mono ?_;rintro en w1 (⟨wO,wV⟩|⟨lv,xs,hxs,rfl,wE,JH,wQ⟩)
 ·have yD:Hid (Dg=none):=by show _=_;rw[Zlu.out,wO];try rfl
  exact Z0u
 have HXS:=vR hxs;have Zlv:Hid (Dg=(Ti xs).bind λw=>(Oc xs gs []).bind λks=>Vz d xs vY gs hv w.1 w.2.1 w.2.2 ks):=by show _=_;rw[Zlu.out,hxs];try rfl
 clear hxs Zlu ZrG;have ZbQ:=xA.trans (wE.mono xA.size);obtain⟨la,lc,rfl⟩:∃a c,lv= .slice a xs.length c:=by obtain⟨a,c,e,_⟩:=JH;exact⟨a,c,e⟩
 have Gh:=(wE.block _ (oz.1 SL).1).trans SL;go_wp2_with fail;generalize Xf:w1.alloc (.cells #[.slice la xs.length lc,.pointer oa,.pointer none] 244)=w2;have wK:Below w1.heap.size w1 w2:=by rw[<-Xf];exact Cy _ _
 have U2:w2.heap[w1.heap.size]? =some (.cells #[.slice la xs.length lc,.pointer oa,.pointer none] 244):=by rw[<-Xf];exact xI w1 _
 clear Xf;try unfold vV at *;generalize ZLC:w1.heap.size=rb at *;have MC:=ZbQ.trans (wK.mono (by have:=ZbQ.size;omega));have JI:=(wK.block W.heap.size (by have:=(oz.1 Gh).1;omega)).trans Gh;have Zji:=JH.cf (CF.vZ (by show Below _ _ _;rw[ZLC];exact wK));have hP2:yS W0 w2 rb ⟨xs,none,out⟩:=⟨_,_,_,U2,Zji,wQ,HO.out.cf (CF.vZ MC) (KT.vZ MC),rfl⟩;have Zds:=vR (HCO.out xs rb w2.drew HXS.out ((HC.out.below MC).below (yF (nW _ _) 1)) (hP2.below (yF (nW _ _) 1)) (CF.vZ (yF MC 1)));have Pp:=MC.size;have ZXI:W.heap.size<rb:=by have:=(oz.1 Gh).1;omega
 clear Gh JH wE wK xA SL hP2;have cs:∀w':World,w'.heap[W.heap.size]? =some (.cells #[.bool d,.slice ia vY.length ic,.slice (some ⟨sg,0,none⟩) ps.length Bg,wv,.slice ga gs.length zx,Jj] 181)->w'.cell? ⟨W.heap.size,0,none⟩=some (.bool d)/\w'.cell? ⟨W.heap.size,1,none⟩=some (.slice ia vY.length ic)/\w'.cell? ⟨W.heap.size,2,none⟩=some (.slice (some ⟨sg,0,none⟩) ps.length Bg)/\w'.cell? ⟨W.heap.size,3,none⟩=some wv/\w'.cell? ⟨W.heap.size,4,none⟩=some (.slice ga gs.length zx)/\w'.cell? ⟨W.heap.size,5,none⟩=some Jj:=λw' h=>bq
 have OA:=vR cs;clear cs;obtain⟨c0,c1,c2,c3,c4,c5⟩:=OA.out _ JI;refine vM (S:=λw'=>w'.cell? ⟨W.heap.size,0,none⟩=some (.bool d)/\w'.cell? ⟨W.heap.size,3,none⟩=some wv/\w'.cell? ⟨W.heap.size,4,none⟩=some (.slice ga gs.length zx)) af ⟨by exact c0,by exact c3,by exact c4⟩ (λwL=>?_);refine tk 0 ?_;refine tk 1 ?_;refine tk 2 ?_;refine tk 3 ?_;refine tk 4 ?_;refine tk 5 ?_;refine tk 7 ?_;refine tk 8 ?_;refine tk 9 ?_;refine og (rs:= [6]) af ae (nZ rfl (λK hK=>?_) oh);go_simp;refine Zds.out.mono ?_;rintro en w3 (⟨wO,wV⟩|⟨p,e1,Ac,Kw,cw,wb,xz,rfl,hfw,hP3,Uy,Lp,WZ,Lv⟩)
 ·have yD:Hid (Dg=none):=by show _=_;rw[Zlv.out,wO];try rfl
  exact Z0u
 replace Lp:CF w2 w3:=(CF.vZ (yF (nW _ _) 1)).trans Lp;replace WZ:kw=true->KT Cu w2 w3:=λh=>(KT.vZ (yF (nW _ _) 1)).tc (WZ h);obtain⟨hrm,Zwn,Zfp⟩:=HRM.out xs p e1 Ac HXS.out xz;have Zlw:Hid (Dg=(Oc xs gs []).bind λks=>Vz d xs vY gs hv p e1 Ac ks):=by show _=_;rw[Zlv.out,xz];try rfl
 have IC:=Lp.cells JI O;have BR:=Lp.cells U2 O;clear xz;obtain⟨d0,d1,d2,d3,d4,d5⟩:=OA.out _ IC;refine hK.out _ _ ⟨by exact d0,by exact d3,by exact d4⟩ (λwL=>?_);clear hK K;refine og (rs:= [10]) af ae (nZ rfl (λK hK=>?_) oh);go_simp;have HKY:=vR (ZFE W0 w3 rb la xs.length lc (.pointer oa) (.pointer none) xs gs ga zx Uy.low BR (Zji.cf Lp) wQ xL HGP.out HGC.out);unfold vU at HKY;refine HKY.out.mono ?_;rintro en w4 (⟨wO,wV⟩|⟨kv,ks,QI,rfl,xw,LG,hkk,hkle⟩)
 ·have yD:Hid (Dg=none):=by show _=_;rw[Zlw.out,wO];try rfl
  exact Z0u
 have ZrD:Hid (Dg=Vz d xs vY gs hv p e1 Ac ks):=by show _=_;rw[Zlw.out,QI];try rfl
 have HKL:Hid (ks.length=gs.length):=(by show _=_;have:=Zym QI;simpa using this);have ZKQ:ks.length<=400:=by have:=HKL.out;omega
 clear QI;obtain⟨ka,kc,rfl⟩:∃a c,kv= .slice a ks.length c:=by obtain⟨a,c,e,_⟩:=LG;exact⟨a,c,e⟩
 have hn4:=(xw.block _ (oz.1 IC).1).trans IC;have LP:=(xw.block _ (oz.1 BR).1).trans BR;obtain⟨f0,f1,f2,f3,f4,f5⟩:=OA.out _ hn4;refine hK.out _ _ ⟨by exact f0,by exact f3,by exact f4⟩ (λwL=>?_);clear hK K;refine tk 11 ?_;refine og (rs:= [12]) af ae (nZ rfl (λK hK=>?_) oh);go_simp;have CJ:=Cy w4 (.cells #[.bool d,.slice none 0 0,.func (.func Kw) #[] cw,.bool false,.slice ka ks.length kc,.slice none 0 0,.nilFunc,.slice none 0 0,.int .u32 0,.int .i32 0,.int .u32 0,.slice none 0 0] 259);have Zxs:=xI w4 (.cells #[.bool d,.slice none 0 0,.func (.func Kw) #[] cw,.bool false,.slice ka ks.length kc,.slice none 0 0,.nilFunc,.slice none 0 0,.int .u32 0,.int .i32 0,.int .u32 0,.slice none 0 0] 259);have Xu:=(CJ.block _ (oz.1 hn4).1).trans hn4;have KX:=(CJ.block _ (oz.1 LP).1).trans LP;refine hK.out _ _ ⟨by exact(OA.out _ Xu).1,by exact(OA.out _ Xu).2.2.2.1,by exact(OA.out _ Xu).2.2.2.2.1⟩ (λwL=>?_);clear hK K;refine tk 13 ?_;refine oP af ?_ _;try unfold vV at *;generalize ZjE:w4.heap.size=sb at *;generalize BG:w4.alloc (.cells #[.bool d,.slice none 0 0,.func (.func Kw) #[] cw,.bool false,.slice ka ks.length kc,.slice none 0 0,.nilFunc,.slice none 0 0,.int .u32 0,.int .i32 0,.int .u32 0,.slice none 0 0] 259)=w5 at *;have Az:w5.heap.size=sb+1:=by rw[<-BG];simp[ZjE]
 clear BG wL;have HP4:=vR (hP3.below xw);have Oz:=vR (Uy.below xw);have HW4:=vR (hfw.same (KT.vZ xw));have HK4:=vR (oG LG hkk);have HX4:=vR (HX.out _ _ _ Lv (CF.vZ xw) (λ_=>KT.vZ xw));have P5:Hid (CF W w4/\(kw=true->KT Cu W w4)):=⟨((CF.vZ MC).trans Lp).trans (CF.vZ xw),λh=>((KT.vZ MC).tc (WZ h)).tc (KT.vZ xw)⟩;have ER:Hid (Below w4.heap.size w4 w5):=by rw[ZjE];exact CJ
 have Yy:=vR ((Zji.cf Lp).cf (CF.vZ xw));have ZXG:=(oz.1 LP).1;have ZXz:=(oz.1 hn4).1;clear hP3 Uy hfw LG Lv Lp WZ xw Zji MC JI IC hn4 BR LP U2 CJ c0 c1 c2 c3 c4 c5 d0 d1 d2 d3 d4 d5 f0 f1 f2 f3 f4 f5 Zds HKY Zlv Zlw;obtain⟨g0,g1,g2⟩:=xh KX;go_wp2_with fail;have HSC:Hid (∀w',Ox [sb] w5 w'->∀k (hk:k<xs.length),∃g,la=some ⟨g,0,none⟩/\w'.cell? ⟨g,k*3,none⟩=some (.string ⟨xs[k].name.toArray⟩)/\w'.cell? ⟨g,k*3+1,none⟩=some (.pointer (some ⟨xs[k].T,0,none⟩))/\w'.cell? ⟨g,k*3+2,none⟩=some (.int .i64 (AL xs k:Nat))):=λw' hx' k hk=>by
  have h4:=Yy.out;have:=Zka ER.out hx' (by rw[ZjE];exact nV _);obtain⟨a,c,e,hc⟩:=h4.cf (CF.vZ this);cases e;obtain⟨g,cu,e2,_,q0,q1,q2⟩:=hc k hk;exact⟨g,e2,q0,q1,q2⟩
 have hx3:=wQ.le;have HXL:Hid (AL xs xs.length<=1000):=by show _<=_;have:=ZeB wQ xs.length;omega
 have ZLL:=KX;clear g0 g1 g2;go_loopg [40] (xs.length+1) (λgk iv wr=>∃(k:Nat) (tv:Value),k<=xs.length/\gk=xs.length-k+1/\iv= .int .i64 k/\Ox [sb] w5 wr/\wr.heap[sb]? =some (.cells #[.bool d,tv,.func (.func Kw) #[] cw,.bool false,.slice ka ks.length kc,.slice none 0 0,.nilFunc,.slice none 0 0,.int .u32 0,.int .i32 0,.int .u32 0,.slice none 0 0] 259)/\wr.ownsRow w5.heap.size 88 1 tv k ((xs.take k).map λx=>Value.pointer (some ⟨x.T,0,none⟩)));case atStart=>exact⟨0,_,Z,Z,rfl,Ox.refl _ _,Zxs,pV _ _ _ _⟩
 case round=>
  obtain⟨k,tv,hk,rfl,rfl,xu,JL,wD⟩:=hrel;obtain⟨ta,tc,rfl⟩:=yN wD;have s1:=zS JL;by_cases hlt:k<xs.length
  ·obtain⟨g,rfl,q0,q1,q2⟩:=HSC.out wr xu k hlt;have HTS:Hid ((xs.take (k+1)).map (λx=>Value.pointer (some ⟨x.T,0,none⟩))=(xs.take k).map (λx=>Value.pointer (some ⟨x.T,0,none⟩))++ [.pointer (some ⟨xs[k].T,0,none⟩)]):=by show _=_;rw[o8 hlt,oo];try rfl
   generalize xs[k].name=nm at *;generalize xs[k].T=T at *;generalize AL xs k=fk at *;generalize (xs.take k).map (λx=>Value.pointer (some ⟨x.T,0,none⟩))=tl at *;go_wp2_with fail;generalize hwA:wr.alloc (.cells #[.string ⟨nm.toArray⟩,.pointer (some ⟨T,0,none⟩),.int .i64 (fk:Nat)] 261)=wA;have AP:Below wr.heap.size wr wA:=by rw[<-hwA];exact Cy _ _
   have Fw:wA.heap[wr.heap.size]? =some (.cells #[.string ⟨nm.toArray⟩,.pointer (some ⟨T,0,none⟩),.int .i64 (fk:Nat)] 261):=by rw[<-hwA];exact xI wr _
   have SS:=(AP.block sb (oz.1 JL).1).trans JL;have hsw:=xu.size;have Zxq:w5.heap.size<=(wA.alloc (.cells #[.pointer (some ⟨T,0,none⟩)] 88)).heap.size:=by have:=AP.size;simp;omega
   have BQ:=λg (e:(Value.slice ta k tc).ownBlock=some g) (_:g<wA.heap.size)=>((zC wD AP).lt g e).1;have ZXS:=(oz.1 JL).1;obtain⟨t1,hT0,NB,zL,hT3⟩:=oM Tryz.ZMK;clear hwA q0 q1 q2 s1;have s1A:=zS SS;refine vM (S:=λw'=>w'.cell? ⟨wr.heap.size,1,none⟩=some (.pointer (some ⟨T,0,none⟩))) af (by exact(xh Fw).2.1) (λwL=>?_);refine tk 0 ?_;refine tk 1 ?_;refine tk 2 ?_;refine tk 3 ?_;refine tk 5 ?_;refine tk 6 ?_;refine og (rs:= [4,7]) af ae (nZ rfl (λK hK=>?_) (nZ rfl (λK hK=>?_) oh))
   ·go_simp;refine hK.out _ _ (by exact(xh Fw).2.1) (λwL=>?_);clear hK K;refine og (rs:= [7]) af ae (nZ rfl (λK hK=>?_) oh);exact Z0t
   ·go_simp;refine hK.out _ _ iO (λwL=>?_);clear hK K;have s1B:=λo=>(oD wA o ⟨sb,1,none⟩ (oz.1 SS).1).trans s1A;refine og (rs:= [4]) af ae (nZ rfl (λK hK=>?_) oh);exact Z0t
  ·obtain rfl:k=xs.length:=by omega
   rw[oO (nV _)]at wD;have UW:=(xu.block W.heap.size Z ah).trans Xu;have hr6:=(xu.block rb Z ah).trans KX;have HB6:=vR (Zka ER.out xu (by rw[ZjE];exact nV _));have HOW:=vR wD;obtain⟨c0,c1,c2,c3,c4,c5⟩:=OA.out _ UW;have hs6:=xu.size;have ZoU:=JL;have s3:=KH JL;have s3f:wr.frozen? ⟨sb,3,none⟩=false:=by simp[World.frozen?,JL]
   clear wD Xu KX Zxs xu HSC ZLL s1;go_wp2_with fail;have HIC:Hid (TT wr ia vY):=λi h=>by
    obtain⟨a,c,e,hc⟩:=HIT.out;cases e;obtain⟨g,e2,q0,q1⟩:=hc i h;have hl:=Oz.out.low.trans (HB6.out.mono Oz.out.low.size);exact⟨g,e2,(hl.cell (p:=⟨g,i*2,none⟩) (oH W0 _ q0)).trans q0,(hl.cell (p:=⟨g,i*2+1,none⟩) (oH W0 _ q1)).trans q1⟩
   refine(ZM6 wr d ia ic (some ⟨sg,0,none⟩) ps.length Bg wv Jj ga gs.length zx vY hwv hvn HIC.out Z Z).mono ?_;rintro en w7 ⟨rfl,JC⟩;have HGB:Hid ((decide (0<gs.length)||vY.any (λp=>KU p.1))=KP vY gs):=rfl;rw[HGB.out];have hn7:=(JC.block _ (oz.1 UW).1).trans UW;have hr7:=(JC.block _ (oz.1 hr6).1).trans hr6;have KY:=(JC.block _ (oz.1 ZoU).1).trans ZoU;have Zij:=HB6.out.trans (JC.mono HB6.out.size);have Dv:=zC HOW.out JC;have t3:=KH KY;have t3f:w7.frozen? ⟨sb,3,none⟩=false:=by simp[World.frozen?,KY]
   clear c0 c1 c2 c3 c4 c5 s3 s3f HIC UW hr6 JL ZoU HB6 HOW;have Zlx:=vR ZrD.out;clear ZrD;cases GH:KP vY gs with
   |false=>
    have ZdM:Hid (Dg=(Ce hv e1 Ac).bind λh=>(LX xs vY h.2.1 h.2.2).map λi=>(⟨d,PI xs,p,false,ks,(match i.2.2.1.xB with|none=> []|some g=>g.2),h.1,i.1⟩,i.2.1,i.2.2.1,i.2.2.2)):=by
     show _=_;rw[Zlx.out,Vz,GH,nU ae];have:({e1 with xB:=none}:yR)=e1:=by cases e1;simp only at Zfp;subst Zfp;rfl
     simp only[rF,qE,this]
    obtain⟨w8,CO⟩:∃w8,w7.setCell ⟨sb,3,none⟩ (.bool false)=w8:=⟨_,rfl⟩;have LH:=EO (b:=sb) (k:=3) (u:=.bool false) hn7 Z;have Gl:=EO (b:=sb) (k:=3) (u:=.bool false) hr7 Z;rw[CO]at LH Gl;have N7:=FH (k:=3) (u:=.bool false) KY;rw[CO]at N7;simp only[pz,List.set_cons_zero,List.set_cons_succ]at N7;have Zik:Below w4.heap.size w4 w8:=by rw[<-CO];exact Zij.setCell (p:=⟨sb,3,none⟩) (by show w4.heap.size<=sb;omega) _
    have Ez:w8.ownsRow w5.heap.size 88 1 (.slice ta xs.length tc) xs.length (xs.map λx=>Value.pointer (some ⟨x.T,0,none⟩)):=by rw[<-CO];exact Vv Dv KY O
    obtain⟨c0,c1,c2,c3,c4,c5⟩:=OA.out _ LH;have u3:=KH N7;have Lc:=vR Zik;clear hn7 hr7 Zij Dv JC;go_wp2_with fail;have Yu:=vR (ZbD hv W0 w8 C M rb e1 Ac none (Oz.out.below Lc.out) (HP4.out.below Lc.out) Z hvk);rw[Bl]at Yu;unfold vU at Yu;refine Yu.out.mono ?_;rintro en w9 (⟨wO,wV⟩|⟨ph,e2,Cb,Kh,ch,xz,rfl,hfh,UG,hC9,Lr,hG9⟩)
    ·have yD:Hid (Dg=none):=by show _=_;rw[ZdM.out,wO];try rfl
     exact Z0u
    have Zab:=R8 xz;have ZdN:Hid (Dg=(LX xs vY e2 Cb).map λi=>(⟨d,PI xs,p,false,ks,(match i.2.2.1.xB with|none=> []|some g=>g.2),ph,i.1⟩,i.2.1,i.2.2.1,i.2.2.2)):=by show _=_;rw[ZdM.out,xz];try rfl
    clear xz;have hn9:=Lr.cells LH O;have Zcu:=Lr.cells N7 O;have HR9:=vR (Lr.cells Gl O);have hs9:=Lr.size;have Zq4:Hid (CF w4 w9/\KT Cu w4 w9):=⟨(CF.vZ Lc.out).trans Lr,(KT.vZ Lc.out).tc (hG9 Zfp)⟩;have ZCD:=vR (ZcU Ez Lr O);obtain⟨FJ,Pq⟩:∃FJ,w9.setCell ⟨sb,6,none⟩ (.func (.func Kh) #[] ch)=FJ:=⟨_,rfl⟩;have ZfC:=EO (b:=sb) (k:=6) (u:=.func (.func Kh) #[] ch) hn9 Z;have Zah:=FH (k:=6) (u:=.func (.func Kh) #[] ch) Zcu;rw[Pq]at ZfC Zah;simp only[pz,List.set_cons_zero,List.set_cons_succ]at Zah;have v6:=cL6 Zcu;have v6f:w9.frozen? ⟨sb,6,none⟩=false:=by simp[World.frozen?,Zcu]
    have QH:∀ts,259∉ts->KT ts w9 FJ:=λts ht=>by rw[<-Pq];exact KT.set Zcu ht
    have Zlk:=vR (UG.kt (QH _ O));have ZkQ:Hid (yL W0 C M Cb FJ):=⟨by rw[<-Pq];exact hC9.low.setCell (p:=⟨sb,6,none⟩) gI _,hC9.hC,QH [113] O _ _ _ O hC9.obj⟩;have HFH:=vR (hfh.same (QH _ O));have Zg8:Hid (CF w4 FJ/\KT Cu w4 FJ):=⟨by rw[<-Pq];exact Zq4.out.1.own Z,Zq4.out.2.tc (QH _ O)⟩;have Zlj:=vR (MZ ZCD.out (QH [88] O) O);have Yv:=vR (Zts W0 FJ C M rb e2 Cb vY ia ic ZkQ.out Zlk.out (by have:=Zab.1;omega) HIT.out Hr V4.out);have Zo9:=Zab.2.1.trans Zwn;rw[Zo9]at Yv;unfold vU at Yv;obtain⟨b0,b1,b2,b3,b4,b5⟩:=OA.out _ ZfC;clear hfh UG hC9 Lr hG9 LH N7 Ez c0 c1 c2 c3 c4 c5 u3 Gl;go_wp2_with fail;refine Yv.out.mono ?_;rintro en CU (⟨wO,wV⟩|⟨pi,ci,e3,cl3,ev,tv,xz,rfl,Qs,Xb,Su,Jc,UA⟩)
    ·have yD:Hid (Dg=none):=by show _=_;rw[ZdN.out,wO];try rfl
     exact Z0u
    have Zwk:=Zab.2.2 Zfp;have ZKi:=ZMQ xz Zwk;have KA:Hid (Dg=some (⟨d,PI xs,p,false,ks, [],ph,pi⟩,ci,e3,cl3)):=by show _=_;rw[ZdN.out,xz];simp only[Option.map_some,ZKi]
    have ZoH:=Zx2 xz HXL.out Hr;have ZnU:=Zx1 xz HXL.out Hr;clear xz;have QW:=Jc.cells Zah O;have ZLH:=Jc.size;have ZLG:w9.heap.size=FJ.heap.size:=by rw[<-Pq,Bf]
    obtain⟨ea,Ut,ec,rfl⟩:∃a n c,ev= .slice a n c:=by obtain⟨⟨fs,_,h2,_⟩,_⟩:=id Qs;obtain⟨a,c,e⟩:=yN h2;exact⟨a,_,c,e⟩
    obtain⟨tta,tn,ttc,rfl⟩:∃a n c,tv= .slice a n c:=by obtain⟨_,h2⟩:=id Qs;obtain⟨a,c,e⟩:=yN h2;exact⟨a,_,c,e⟩
    obtain⟨JU,Ps⟩:∃JU,CU.setCell ⟨sb,7,none⟩ (.slice ea Ut ec)=JU:=⟨_,rfl⟩;have Po:=FH (k:=7) (u:=.slice ea Ut ec) QW;rw[Ps]at Po;simp only[pz,List.set_cons_zero,List.set_cons_succ]at Po;have x7:=cL7 QW;have x7f:CU.frozen? ⟨sb,7,none⟩=false:=by simp[World.frozen?,QW]
    have x3:=KH Po;have Xp:∀ts,259∉ts->KT ts CU JU:=λts ht=>by rw[<-Ps];exact KT.set QW ht
    have NG:CF w4 JU:=by rw[<-Ps];exact(Zg8.out.1.trans Jc).own Z
    have Zom:=(Zg8.out.2.tc (UA Zwk)).tc (Xp _ O);have ES:Hid (TZ W0 W C M (.pointer oa) (false|| !kw) X Dg (.returned (.tuple #[.iface 211 (vU sb),.slice tta tn ttc])) JU):=by
     refine .inr ⟨_,ci,e3,cl3,sb,⟨.slice ta xs.length tc,.func (.func Kw) #[] cw,.slice ka ks.length kc,.slice none 0 0,.func (.func Kh) #[] ch,.slice ea Ut ec⟩,.slice tta tn ttc,wb,KA.out,rfl,⟨⟨?_,HW4.out.same NG.BV,?_,?_,(HFH.out.same Jc.BV).same (Xp _ O),?_⟩,0,.slice none 0 0,Po,λ_=>rfl,λh=>aS⟩,Z,?_,ZnU,?_,?_,P5.out.1.trans NG,(λh=>(P5.out.2 (by cases kw<;>first|rfl|cases h)).tc Zom),HX.out _ _ _ HX4.out NG (λ_=>Zom),w4,HX4.out,Z,NG⟩
     ·exact Zzg (MZ (ZcU Zlj.out Jc O) (Xp [88] O) O) wQ iP
     ·exact jm
     ·exact⟨none,0,rfl,ae,λi h=>(nomatch h)⟩
     ·exact(ZAQ Qs ZoH).same (Xp _ O)
     ·exact(Zy9 Qs.co).kt (Xp _ O)
     ·obtain⟨s1,s2,s3,r1,r2,r3,r4,r5⟩:=Xb.kt (Xp _ O);have ZLz:JU.heap[rb]? =some (.cells #[.slice la xs.length lc,.pointer oa,.pointer none] 244):=by rw[<-Ps];exact EO (Jc.cells (by rw[<-Pq];exact EO HR9.out Z) O) Z
      rw[ZLz]at r1;cases r1;exact r4
     ·exact⟨iP,Su.hC,Xp [113] O _ _ _ O Su.obj⟩
    clear Qs Xb Su Jc UA NG Zom;exact nT
   |true=>
    obtain⟨w8,CO⟩:∃w8,w7.setCell ⟨sb,3,none⟩ (.bool true)=w8:=⟨_,rfl⟩;have LH:=EO (b:=sb) (k:=3) (u:=.bool true) hn7 Z;have Gl:=EO (b:=sb) (k:=3) (u:=.bool true) hr7 Z;rw[CO]at LH Gl;have N7:=FH (k:=3) (u:=.bool true) KY;rw[CO]at N7;simp only[pz,List.set_cons_zero,List.set_cons_succ]at N7;have Zik:Below w4.heap.size w4 w8:=by rw[<-CO];exact Zij.setCell (p:=⟨sb,3,none⟩) (by show w4.heap.size<=sb;omega) _
    have Ez:w8.ownsRow w5.heap.size 88 1 (.slice ta xs.length tc) xs.length (xs.map λx=>Value.pointer (some ⟨x.T,0,none⟩)):=by rw[<-CO];exact Vv Dv KY O
    obtain⟨c0,c1,c2,c3,c4,c5⟩:=OA.out _ LH;have u3:=KH N7;have u4:=Uk N7;have Lc:=vR Zik;clear hn7 hr7 Zij Dv JC;by_cases zB:vY= []
    ·have yD:Hid (Dg=none):=by show _=_;rw[Zlx.out,Vz,nY ⟨GH,zB⟩]
     have GX:=vR (Oz.out.low.trans (Lc.out.mono Oz.out.low.size));subst zB;go_wp2_with fail;refine(Ul _).mono ?_;rintro en w9 wV;have xM:=vR (wV.from GX.out);obtain⟨b',rfl,_⟩:=wV;go_wp2;exact⟨rfl,.inl ⟨yD.out,xM.out⟩⟩
    have ZXj:=rW.2 zB;have ZdM:Hid (Dg=(Ce hv {e1 with xB:=some (ks, [])} Ac).bind λh=>(LX xs vY h.2.1 h.2.2).map λi=>(⟨d,PI xs,p,true,ks,(match i.2.2.1.xB with|none=> []|some g=>g.2),h.1,i.1⟩,i.2.1,i.2.2.1,i.2.2.2)):=by
     show _=_;rw[Zlx.out,Vz,GH,nU (λh=>zB h.2)];simp only[pX]
    clear zB;go_wp2_with fail;refine(Um _).mono ?_;rintro en w' ⟨rfl,rfl⟩;go_wp2_with fail;refine(ZFy w8 rb la xs.length lc oa (.pointer none) ka ks.length kc Gl).mono ?_;rintro en w9 ⟨pp,G,rfl,Fe,hpp,hGG,hpo,Qq⟩;have ZeJ:=Lc.out.trans (Fe.mono Lc.out.size);have hn9:=(Fe.block _ (oz.1 LH).1).trans LH;have hr9:=(Fe.block _ (oz.1 Gl).1).trans Gl;have Zcu:=(Fe.block _ (oz.1 N7).1).trans N7;have ZLo:=zC Ez Fe;have ZWY:=Oz.out.low.size;have ZXP:=Fe.size;have ZXO:=Lc.out.size;have HP9:Hid (yS W0 w9 pp {e1 with xB:=some (ks, [])}):=by
     obtain⟨s1,s2,s3,r1,r2,r3,r4,r5⟩:=HP4.out.below ZeJ;rw[hr9]at r1;cases r1;exact⟨_,_,_,hpo,r2,r3,r4,G,_,_,rb, [],rfl,Qq,HK4.out.1.cf (CF.vZ ZeJ),ZKQ,hr9,Z,ae,rfl,pV _ _ _ _,λi h=>(nomatch h)⟩
    have ZoQ:room {e1 with xB:=some (ks, [])}=room e1:=by simp[room,Zfp]
    have Yu:=vR (ZbD hv W0 w9 C M pp {e1 with xB:=some (ks, [])} Ac none (Oz.out.below ZeJ) HP9.out (by rw[ZoQ];omega) hvk);rw[Bl]at Yu;have ZBK:=vR ZeJ;obtain⟨m0,m1,m2,m3,m4,m5⟩:=OA.out _ hn9;unfold vU at Yu;clear c0 c1 c2 c3 c4 c5 LH Gl N7 Ez Fe ZeJ u3 u4 Zik;go_wp2_with fail;refine Yu.out.mono ?_;rintro en wa (⟨wO,wV⟩|⟨ph,e2,Cb,Kh,ch,xz,rfl,hfh,hPa,hCa,Uz,hGa⟩)
    ·have yD:Hid (Dg=none):=by show _=_;rw[ZdM.out,wO];try rfl
     exact Z0u
    have Zab:=R8 xz;have ZdN:Hid (Dg=(LX xs vY e2 Cb).map λi=>(⟨d,PI xs,p,true,ks,(match i.2.2.1.xB with|none=> []|some g=>g.2),ph,i.1⟩,i.2.1,i.2.2.1,i.2.2.2)):=by show _=_;rw[ZdM.out,xz];try rfl
    clear xz;have QO:=Uz.cells hn9 O;have ZjF:=Uz.cells Zcu O;have ZCJ:=vR (Uz.cells hpo O);have hsa:=Uz.size;have ZBQ:=vR ((CF.vZ ZBK.out).trans Uz);have ZCE:=vR (ZcU ZLo Uz O);obtain⟨FJ,Pq⟩:∃FJ,wa.setCell ⟨sb,6,none⟩ (.func (.func Kh) #[] ch)=FJ:=⟨_,rfl⟩;have ZfC:=EO (b:=sb) (k:=6) (u:=.func (.func Kh) #[] ch) QO Z;have Zah:=FH (k:=6) (u:=.func (.func Kh) #[] ch) ZjF;rw[Pq]at ZfC Zah;simp only[pz,List.set_cons_zero,List.set_cons_succ]at Zah;have v6:=cL6 ZjF;have v6f:wa.frozen? ⟨sb,6,none⟩=false:=by simp[World.frozen?,ZjF]
    have QH:∀ts,259∉ts->KT ts wa FJ:=λts ht=>by rw[<-Pq];exact KT.set ZjF ht
    have Zlk:=vR (hPa.kt (QH _ O));have ZkQ:Hid (yL W0 C M Cb FJ):=⟨by rw[<-Pq];exact hCa.low.setCell (p:=⟨sb,6,none⟩) gJ _,hCa.hC,QH [113] O _ _ _ O hCa.obj⟩;have HFH:=vR (hfh.same (QH _ O));have Zg8:Hid (CF w4 FJ):=by rw[<-Pq];exact ZBQ.out.own Z
    have Zlj:=vR (MZ ZCE.out (QH [88] O) O);have Yv:=vR (Zts W0 FJ C M pp e2 Cb vY ia ic ZkQ.out Zlk.out (by have:=Zab.1;rw[ZoQ]at this;omega) HIT.out Hr V4.out);have Zo9:=Zab.2.1.trans Zwn;rw[Zo9]at Yv;unfold vU at Yv;obtain⟨b0,b1,b2,b3,b4,b5⟩:=OA.out _ ZfC;clear hfh hPa hCa Uz hGa m0 m1 m2 m3 m4 m5 ZoQ;go_wp2_with fail;refine Yv.out.mono ?_;rintro en CU (⟨wO,wV⟩|⟨pi,ci,e3,cl3,ev,tv,xz,rfl,Qs,Xb,Su,Jc,UA⟩)
    ·have yD:Hid (Dg=none):=by show _=_;rw[ZdN.out,wO];try rfl
     exact Z0u
    have QW:=Jc.cells Zah O;have Zjy:=Jc.cells (QH [244] O _ _ _ O ZCJ.out) O;obtain⟨gk,gm,ZwA,kv3,mv,rb3,Y7,Zne,ZKn,Gi,Zwu,ZK5,hO3⟩:∃gk gm,e3.xB=some (gk,gm)/\∃kv3 mv rb3 Y7,CU.heap[G]? =some (.cells #[kv3,vU rb3,mv] 267)/\Y7.length=gm.length/\CU.ownsRow W0.heap.size 402 2 mv gm.length (Og gm Y7)/\(∀i (h:i<gm.length) (h':i<Y7.length),zz CU gm[i].2 Y7[i])/\gm.length<=400/\Jv W0 CU (.pointer oa) e3.out:=by
     obtain⟨s1,s2,s3,r1,r2,r3,r4,r5⟩:=id Xb;rw[Zjy]at r1;cases r1;cases hg3:e3.xB with
     |none=>rw[hg3]at r5;cases r5
     |some g3=>
      obtain⟨gk,gm⟩:=g3;rw[hg3]at r5;obtain⟨G',kv3,mv,rb3,Y7,e0,q1,q2,q3,q4,q5,q6,q7,q8,q9⟩:=r5;cases e0;exact⟨gk,gm,rfl,kv3,mv,rb3,Y7,q1,q7,q8,q9,q6,r4⟩
    have KA:Hid (Dg=some (⟨d,PI xs,p,true,ks,gm,ph,pi⟩,ci,e3,cl3)):=by show _=_;rw[ZdN.out,xz];simp only[Option.map_some,ZwA]
    have ZoH:=Zx2 xz HXL.out Hr;have ZnU:=Zx1 xz HXL.out Hr;clear xz ZwA;have ZLH:=Jc.size;have ZLG:wa.heap.size=FJ.heap.size:=by rw[<-Pq,Bf]
    obtain⟨ea,Ut,ec,rfl⟩:∃a n c,ev= .slice a n c:=by obtain⟨⟨fs,_,h2,_⟩,_⟩:=id Qs;obtain⟨a,c,e⟩:=yN h2;exact⟨a,_,c,e⟩
    obtain⟨tta,tn,ttc,rfl⟩:∃a n c,tv= .slice a n c:=by obtain⟨_,h2⟩:=id Qs;obtain⟨a,c,e⟩:=yN h2;exact⟨a,_,c,e⟩
    obtain⟨mma,mmc,Hy⟩:=yN Gi;subst Hy;have ZJg:G≠sb:=λe=>by rw[e,QW]at Zne;cases Zne
    have ZLu:pp≠sb:=λe=>by rw[e,QW]at Zjy;cases Zjy
    obtain⟨JU,Ps⟩:∃JU,CU.setCell ⟨sb,7,none⟩ (.slice ea Ut ec)=JU:=⟨_,rfl⟩;have Po:=FH (k:=7) (u:=.slice ea Ut ec) QW;have ZuY:=EO (b:=sb) (k:=7) (u:=.slice ea Ut ec) Zne ZJg;have Zxe:=EO (b:=sb) (k:=7) (u:=.slice ea Ut ec) Zjy ZLu;rw[Ps]at Po ZuY Zxe;simp only[pz,List.set_cons_zero,List.set_cons_succ]at Po;have x7:=cL7 QW;have x7f:CU.frozen? ⟨sb,7,none⟩=false:=by simp[World.frozen?,QW]
    have x3:=KH Po;have x5:=cL5 Po;have x5f:JU.frozen? ⟨sb,5,none⟩=false:=by simp[World.frozen?,Po]
    have p2:=(xh Zxe).2.2;have G2:=(xh ZuY).2.2;obtain⟨Tu,ZjJ⟩:∃Tu,JU.setCell ⟨sb,5,none⟩ (.slice mma gm.length mmc)=Tu:=⟨_,rfl⟩;have ZoT:=FH (k:=5) (u:=.slice mma gm.length mmc) Po;rw[ZjJ]at ZoT;simp only[pz,List.set_cons_zero,List.set_cons_succ]at ZoT;have Xq:∀ts,259∉ts->KT ts CU Tu:=λts ht=>by
     have h1:KT ts CU JU:=by rw[<-Ps];exact KT.set QW ht
     have h2:KT ts JU Tu:=by rw[<-ZjJ];exact KT.set Po ht
     exact h1.tc h2
    have ZXN:CU.heap.size=JU.heap.size:=by rw[<-Ps,Bf]
    have NG:CF w4 Tu:=by
     have h1:CF w4 JU:=by rw[<-Ps];exact(Zg8.out.trans Jc).own Z
     rw[<-ZjJ];exact h1.own Z
    have Zor:Below W0.heap.size W0 Tu:=by
     have h1:Below W0.heap.size W0 JU:=by rw[<-Ps];exact Su.low.setCell (p:=⟨sb,7,none⟩) gJ _
     rw[<-ZjJ];exact h1.setCell (p:=⟨sb,5,none⟩) gJ _
    have ES:Hid (TZ W0 W C M (.pointer oa) (true|| !kw) X Dg (.returned (.tuple #[.iface 211 (vU sb),.slice tta tn ttc])) Tu):=by
     refine .inr ⟨_,ci,e3,cl3,sb,⟨.slice ta xs.length tc,.func (.func Kw) #[] cw,.slice ka ks.length kc,.slice mma gm.length mmc,.func (.func Kh) #[] ch,.slice ea Ut ec⟩,.slice tta tn ttc,wb,KA.out,rfl,⟨⟨?_,HW4.out.same NG.BV,?_,?_,(HFH.out.same Jc.BV).same (Xq _ O),?_⟩,0,.slice none 0 0,ZoT,λ_=>rfl,λh=>aS⟩,Z,?_,ZnU,hO3.kt (Xq _ O),⟨Zor,Su.hC,Xq [113] O _ _ _ O Su.obj⟩,P5.out.1.trans NG,(λh=>by rw[Bool.true_or]at h;cases h),HX.out _ _ _ HX4.out NG (λh=>by rw[GH]at h;cases h),w4,HX4.out,Z,NG⟩
     ·exact Zzg (MZ (ZcU Zlj.out Jc O) (Xq [88] O) O) wQ Zor
     ·exact jm
     ·exact ZPL (MZ Gi (Xq [402] O) O) ZKn (om ZK5 O) (λi h h'=>(Zwu i h h').same (Xq _ O))
     ·exact(ZAQ Qs ZoH).same (Xq _ O)
     ·exact(Zy9 Qs.co).kt (Xq _ O)
    clear Qs Xb Su Jc UA NG Zor hO3 Gi Zwu;exact nT
def TZ.from{inv}{gr}{X}{res}(h:TZ W0 W1 C M inv gr X res en W')(hB:vV W W1):TZ W0 W C M inv gr X res en W':=by
 rcases h with h|⟨s,cs,e',cl',sb,x,tv,wb,h1,h2,h3,h4,h5,h5',h6,h7,h8,h9,Nv⟩
 ·exact .inl h
 ·exact .inr ⟨s,cs,e',cl',sb,x,tv,wb,h1,h2,h3,om hB.size h4,h5,h5',h6,h7,(CF.vZ hB).trans h8,λh=>(KT.vZ hB).tc (h9 h),Nv⟩
def ZzO(W0 W)(C M)(d)(ia)(il ic)(sa)(sl Bg)(wv)(ga)(gl zx)(hv)(oa)(gr)(X)(res)(hw:YJ wv)(hh:YJ hv)(JL:∀w',vV W w'->Calls prog 66 #[vU C,.agg #[.bool d,.slice ia il ic,.slice sa sl Bg,wv,.slice ga gl zx,hv],.pointer oa] w' (TZ W0 w' C M (.pointer oa) gr X res)):
  Calls prog 41 #[vU C,.iface 181 (.agg #[.bool d,.slice ia il ic,.slice sa sl Bg,wv,.slice ga gl zx,hv]),.pointer oa] W (TZ W0 W C M (.pointer oa) gr X res):=by
 have HS:=vR JL;have ta:=ZTz (.agg #[.bool d,.slice ia il ic,.slice sa sl Bg,wv,.slice ga gl zx,hv]);have tb:=ZTA (.agg #[.bool d,.slice ia il ic,.slice sa sl Bg,wv,.slice ga gl zx,hv]);clear JL;unfold vU at *;rcases hw with rfl|⟨wn,wy,rfl⟩<;>rcases hh with rfl|⟨hn,hy,rfl⟩;all_goals
  go_enter func41,ntmps41;go_wp2_with fail;refine(HS.out _ (Cy _ _)).mono ?_;intro en w1 IG;have HE:=vR (IG.from (Cy _ _));rcases IG with⟨wO,wV⟩|⟨s,cs,e',cl',sb,x,tv,wb,h1,rfl,h3,h4,h5,h5',h6,h7,h8,h9,Nv⟩
  ·exact lX
  ·obtain⟨ta',tc',rfl⟩:∃a c,tv= .slice a cs.length c:=by obtain⟨a,c,e,_⟩:=h5;exact⟨a,c,e⟩
   clear h1 h3 h4 h5 h5' h6 h7 h8 h9 Nv;unfold vU at HE;unfold vU;go_wp2_with fail;go_ret2;exact HE.out
inductive FQ|yO (d:Bool) (vY:List (TX×vS)) (ps:List (vS×vS)) (wh:FC) (gs:List (vS×vS)) (hv:FC)|Ai (l:FQ) (sign:vS) (r:FQ)
def Jy(W0:World):FQ->Value->Prop
 | .yO d vY ps wh gs hv,v=>∃ia ic sg Bg ga zx,v= .iface 181 (.agg #[.bool d,.slice ia vY.length ic,.slice (some ⟨sg,0,none⟩) ps.length Bg,cV wh,.slice ga gs.length zx,cV hv])/\Nj W0 (.slice ia vY.length ic) vY/\J2 W0 (some ⟨sg,0,none⟩) ps/\J2 W0 ga gs
 | .Ai l s r,v=>∃lv rv,v= .iface 169 (.agg #[lv,.string ⟨s.toArray⟩,rv])/\Jy W0 l lv/\Jy W0 r rv
def Qn:FQ->Bool
 | .yO _ vY _ _ gs _=>KP vY gs
 | .Ai l _ r=>Qn l||Qn r
def IV:FQ->Nat
 | .yO _ vY _ wh _ hv=>F5 wh+F5 hv+La vY
 | .Ai l _ r=>IV l+IV r
def Px:FQ->Prop
 | .yO _ vY ps wh gs hv=>vY.length<=400/\(∀p∈vY,Gp p.1)/\ps.length<=400/\(∀p∈ps,p.1.length<=1000/\p.2.length<=1000)/\gs.length<=400/\(∀p∈gs,p.2.length<=1000)/\Q5 wh/\Q5 hv
 | .Ai l _ r=>Px l/\Px r/\Qn r=false
def PG(o:Option (List SX×List (Nat×Nat))):Nat:=match o with|none=>0|some o=>o.2.length
def GM(db:List (vS×Nat×Ar)):FQ->Option (List SX×List (Nat×Nat))->Bool->Option (PQ×List (vS×Nat)×Option (List SX×List (Nat×Nat))×Bool)
 | .yO d vY ps wh gs hv,o,cl=>(Rj db d vY ps gs hv (λxs=>Ce wh ⟨xs,none,o⟩ cl)).map λr=>(.yO r.1,r.2.1,r.2.2.1.out,r.2.2.2)
 | .Ai l s r,o,cl=>(GM db l o cl).bind λa=>(GM db r a.2.2.1 a.2.2.2).map λb=>(.Ai a.1 s b.1,Ku a.2.1 b.2.1,b.2.2.1,b.2.2.2||Lj a.2.1 b.2.1)
def QuR(W0 W:World)(C M:Nat)(inv:Value)(gr:Bool)(res:Option (PQ×List (vS×Nat)×Option (List SX×List (Nat×Nat))×Bool))(en:Ending)(W':World):Prop:=
 (res=none/\Gx W0 en W')\/∃q cs o' cl' v tv S,res=some (q,cs,o',cl')/\en= .returned (.tuple #[v,tv])/\AX W' q v S/\(∀g∈S,W.heap.size<=g)/\(∃n y,v= .iface n y)/\Io W' tv cs/\cs.length<=1000/\Jv W0 W' inv o'/\yL W0 C M cl' W'/\CF W W'/\(gr=false->KT Cu W W')
def ZQX(L R):(Ku L R).length<=L.length:=by
 unfold Ku;split
 ·simp;omega
 ·exact jo
def ZR8(hc:CF W W')(hg:KT Cu W W'):KT Ig W W':=λg cu ty ht e=>by
 by_cases h:ty=402
 ·exact hg g cu ty (by rw[h];decide) e
 ·refine hc.cells e (λhm=>?_);unfold Y0 at hm;simp only[oQ,ql,pW]at hm;rcases hm with rfl|rfl|rfl|rfl|rfl
  ·revert ht;decide
  ·revert ht;decide
  ·revert ht;decide
  ·exact h rfl
  ·revert ht;decide
theorem AX.uniq(hc:CF W W'):∀{q:PQ} {v:Value} {S S':List Nat},AX W q v S->AX W' q v S'->S=S'
 | .yO s,v,S,S',⟨b,x,d,e,_,h⟩,⟨b',x',d',e',_,h'⟩=>by
  subst e;cases e';rw[h,h']
 | .Ai l s r,v,S,S',⟨j,lv,rv,S1,S2,e,hb,h1,h2,h3,_⟩,⟨j',lv',Ri,S1',S2',e',Cg,h1',Zb,h3',_⟩=>by
  subst e;cases e';have:=hc.cells hb O;rw[this]at Cg;cases Cg;rw[h3,h3',AX.uniq hc h1 h1',AX.uniq hc h2 Zb]
def AX.cf{q}{v}(h:AX W q v S)(hc:CF W W')(hg:KT Cu W W'):AX W' q v S:=h.wJ (ZR8 hc hg) λg hm=>by
 obtain⟨cu,hb,_⟩:=h.bs g hm;rw[hb];exact hc.cells hb O
def Z0v{p:Prop}(h:p:=by
 have xM:=vR wV;obtain⟨b',rfl,_⟩:=wV;clear wO;go_wp2;exact⟨rfl,.inl ⟨yD.out,xM.out⟩⟩):p:=h
def ZRF(W0 W)(C M)(lv rv)(s)(oa)(gl gr)(Zc8)(Zgy:Option (List SX×List (Nat×Nat))->Bool->Option (PQ×List (vS×Nat)×Option (List SX×List (Nat×Nat))×Bool))(Hr:∃n y,lv= .iface n y)(KW:∃n y,rv= .iface n y)(A7:gr=false)(hl:∀w',vV W w'->Calls prog 41 #[vU C,lv,.pointer oa] w' (QuR W0 w' C M (.pointer oa) gl Zc8))(hr:∀q1 c1 o1 Ac w',Zc8=some (q1,c1,o1,Ac)->yL W0 C M Ac w'->Jv W0 w' (.pointer oa) o1->CF W w'->Calls prog 41 #[vU C,rv,.pointer oa] w' (QuR W0 w' C M (.pointer oa) gr (Zgy o1 Ac))):
  Calls prog 41 #[vU C,.iface 169 (.agg #[lv,.string ⟨s.toArray⟩,rv]),.pointer oa] W (QuR W0 W C M (.pointer oa) (gl||gr) (Zc8.bind λa=>(Zgy a.2.2.1 a.2.2.2).map λb=>(.Ai a.1 s b.1,Ku a.2.1 b.2.1,b.2.2.1,b.2.2.2||Lj a.2.1 b.2.1))):=by
 have HL:=vR hl;have HR:=vR hr;obtain⟨ln,ly,rfl⟩:=Hr;obtain⟨rn,ry,rfl⟩:=KW;have Ap:Hid ((Zc8.bind λa=>(Zgy a.2.2.1 a.2.2.2).map λb=>(PQ.Ai a.1 s b.1,Ku a.2.1 b.2.1,b.2.2.1,b.2.2.2||Lj a.2.1 b.2.1))=(Zc8.bind λa=>(Zgy a.2.2.1 a.2.2.2).map λb=>(.Ai a.1 s b.1,Ku a.2.1 b.2.1,b.2.2.1,b.2.2.2||Lj a.2.1 b.2.1))):=rfl;generalize xz:(Zc8.bind λa=>(Zgy a.2.2.1 a.2.2.2).map λb=>(PQ.Ai a.1 s b.1,Ku a.2.1 b.2.1,b.2.2.1,b.2.2.2||Lj a.2.1 b.2.1))=Dg at Ap ⊢;have OD:=vR xz;have ta:=ZTu (.agg #[.iface ln ly,.string ⟨s.toArray⟩,.iface rn ry]);clear hl hr Ap xz;unfold vU at *;go_enter func41,ntmps41;go_wp2_with fail;generalize yn:W.alloc (.cells #[.iface ln ly,.string ⟨s.toArray⟩,.iface rn ry] 169)=Wp;have xA:vV W Wp:=by rw[<-yn];exact Cy _ _
 have yX:Wp.heap[W.heap.size]? =some (.cells #[.iface ln ly,.string ⟨s.toArray⟩,.iface rn ry] 169):=by rw[<-yn];exact xI W _
 clear yn;refine(HL.out _ xA).mono ?_;rintro en w1 (⟨wO,wV⟩|⟨q1,c1,o1,Ac,v1,t1,S1,Em,rfl,MR,Xd,⟨M8,M9,rfl⟩,yV,ZnW,Kc,zG,yQ,hG1⟩)
 ·have yD:Hid (Dg=none):=by show _=_;rw[<-OD.out,wO];try rfl
  exact Z0v
 have Df:=vR Em;have yG:=yQ.cells yX O;obtain⟨d0,d1,d2⟩:=xh yG;have WY:=(CF.vZ xA).trans yQ;have Me:=vR (HR.out q1 c1 o1 Ac w1 Em zG Kc WY);have H1:Hid (AX w1 q1 (.iface M8 M9) S1/\(∀g∈S1,Wp.heap.size<=g)/\Io w1 t1 c1/\CF W w1/\(gl=false->KT Cu W w1)):=⟨MR,Xd,yV,WY,λh=>(KT.vZ xA).tc (hG1 h)⟩;obtain⟨ta1,tc1,rfl⟩:∃a c,t1= .slice a c1.length c:=by obtain⟨a,c,e,_⟩:=yV;exact⟨a,c,e⟩
 clear Em MR Xd yV Kc zG yQ hG1 HL HR;go_wp2_with fail;refine Me.out.mono ?_;rintro en w2 (⟨wO,wV⟩|⟨q2,c2,o2,Cb,v2,t2,S2,EA,rfl,LK,Zx,⟨vn2,vy2,rfl⟩,Aa,ZW6,NA,CE,hF2,MH⟩)
 ·have yD:Hid (Dg=none):=by show _=_;rw[<-OD.out,Df.out,Option.bind_some,wO];try rfl
  exact Z0v
 have KA:Hid (Dg=some (.Ai q1 s q2,Ku c1 c2,o2,Cb||Lj c1 c2)):=by show _=_;rw[<-OD.out,Df.out,Option.bind_some,EA];try rfl
 have Eb:=hF2.cells yG O;obtain⟨g0,g1,g2⟩:=xh Eb;obtain⟨ta2,tc2,rfl⟩:∃a c,t2= .slice a c2.length c:=by obtain⟨a,c,e,_⟩:=Aa;exact⟨a,c,e⟩
 have Znq:=MH A7;clear EA;go_wp2_with fail;have ES:Hid (∀w4 jb tv,w4.heap[jb]? =some (.cells #[.iface M8 M9,.string ⟨s.toArray⟩,.iface vn2 vy2] 173)->CF w2 w4->KT ZgW w2 w4->KT Cu w2 w4->yL W0 C M (Cb||Lj c1 c2) w4->Io w4 tv (Ku c1 c2)->QuR W0 W C M (.pointer oa) (gl||gr) Dg (.returned (.tuple #[.iface 170 (.pointer (some ⟨jb,0,none⟩)),tv])) w4):=λw4 jb tv hj JE hkw ZU Av D9=>by
  have ZLx:=LK.cf JE ZU;have ZLw:=(H1.out.1.cf hF2 Znq).cf JE ZU;have En:=xA.size;refine .inr ⟨_,_,o2,_,_,_,S1++S2,KA.out,rfl,⟨jb,_,_,S1,S2,rfl,hj,ZLw,ZLx,rfl,λg h1 h2=>?_⟩,λg hg=>?_,⟨_,_,rfl⟩,D9,om (ZQX c1 c2) ZnW,NA.cf JE hkw,Av,(H1.out.2.2.2.1.trans hF2).trans JE,λh=>?_⟩
  ·obtain⟨cu,hb,_⟩:=H1.out.1.bs g h1;have:=(wo hb);have:=Zx g h2;omega
  ·have:=H1.out.2.2.2.1.size;rcases qH.1 hg with h|h
   ·have:=H1.out.2.1 g h;omega
   ·have:=Zx g h;omega
  ·rw[A7,Bool.or_false]at h;exact((H1.out.2.2.2.2 h).tc Znq).tc ZU
 have PZ:=vR CE;have Zq6:=vR (H1.out.2.2.1.cf hF2);have Zds:=vR Aa;clear LK Zx NA CE hF2 MH Znq Aa;refine vM (S:=λw'=>w'.cell? ⟨W.heap.size,1,none⟩=some (.string ⟨s.toArray⟩)) af (by exact g1) (λwL=>?_);refine tk 0 ?_;refine tk 1 ?_;refine tk 2 ?_;refine tk 3 ?_;refine tk 4 ?_;refine tk 5 ?_;refine tk 8 ?_;refine tk 9 ?_;refine tk 10 ?_;refine og (rs:= [6,11]) af ae (nZ rfl (λK hK=>?_) (nZ rfl (λK hK=>?_) oh))
 ·go_simp;have z8:vV w2 ((w2.alloc (.cells #[.iface M8 M9,.string ⟨s.toArray⟩,.iface vn2 vy2] 173)).drew):=yF (Cy _ _) 1;have hj3:((w2.alloc (.cells #[.iface M8 M9,.string ⟨s.toArray⟩,.iface vn2 vy2] 173)).drew).heap[w2.heap.size]? =some (.cells #[.iface M8 M9,.string ⟨s.toArray⟩,.iface vn2 vy2] 173):=xI w2 _;have EI:=xq z8 Eb;refine hK.out _ _ (by exact(xh EI).2.1) (λwL=>?_);clear hK K;refine tk 7 ?_;refine og (rs:= [11]) af ae (nZ rfl (λK hK=>?_) oh);go_simp;have HS:=vR (Zmi W0 C M Cb _ _ c1 c2 _ (PZ.out.below z8) (Zq6.out.kt (KT.vZ z8)) (Zds.out.kt (KT.vZ z8)) Z Z);unfold vU at HS;refine HS.out.mono ?_;rintro en w4 ⟨tv,rfl,Xg,Gy,SE⟩;obtain⟨k1,k2,k3⟩:=CF.ck Xg (PZ.out.below z8);have hj4:=k1.cells hj3 O;have QQ:=k1.cells EI O;obtain⟨tva,tvc,rfl⟩:∃a c,tv= .slice a (Ku c1 c2).length c:=by obtain⟨a,c,e,_⟩:=SE;exact⟨a,c,e⟩
  refine hK.out _ _ (by exact(xh QQ).2.1) (λwL=>?_);clear hK K;refine tk 12 ?_;refine tk 13 ?_;refine oP af ?_ _;have HE:=vR (ES.out w4 _ _ hj4 ((CF.vZ z8).trans k1) ((KT.vZ z8).tc k2) ((KT.vZ z8).tc k3) Gy SE);exact iX
 ·go_simp;have HS:=vR (Zmi W0 C M Cb _ _ c1 c2 w2.drew (PZ.out.below (yF (nW _ _) 1)) (Zq6.out.kt (KT.vZ (yF (nW _ _) 1))) (Zds.out.kt (KT.vZ (yF (nW _ _) 1))) Z Z);unfold vU at HS;refine HS.out.mono ?_;rintro en w4 ⟨tv,rfl,Xg,Gy,SE⟩;obtain⟨k1,k2,k3⟩:=CF.ck Xg (PZ.out.below (yF (nW _ _) 1));have QQ:=k1.cells (by exact Eb) O;obtain⟨tva,tvc,rfl⟩:∃a c,tv= .slice a (Ku c1 c2).length c:=by obtain⟨a,c,e,_⟩:=SE;exact⟨a,c,e⟩
  refine hK.out _ _ (by exact(xh QQ).2.1) (λwL=>?_);clear hK K;refine og (rs:= [6]) af ae (nZ rfl (λK hK=>?_) oh);go_simp;have CJ:=Cy w4 (.cells #[.iface M8 M9,.string ⟨s.toArray⟩,.iface vn2 vy2] 173);have hj5:=xI w4 (.cells #[.iface M8 M9,.string ⟨s.toArray⟩,.iface vn2 vy2] 173);have QR:=xq CJ QQ;refine hK.out _ _ (by exact(xh QR).2.1) (λwL=>?_);clear hK K;refine tk 7 ?_;refine tk 12 ?_;refine tk 13 ?_;refine oP af ?_ _;have hd:=yF (nW w2.heap.size w2) 1;have HE:=vR (ES.out _ _ _ hj5 (((CF.vZ hd).trans k1).trans (CF.vZ CJ)) (((KT.vZ hd).tc k2).tc (KT.vZ CJ)) (((KT.vZ hd).tc k3).tc (KT.vZ CJ)) (Gy.below CJ) (SE.kt (KT.vZ CJ)));exact iX
def Zp6(xs)(o):room ⟨xs,none,o⟩=PG o:=by cases o<;>simp[room,PG]
def ZMR{vY}{e}(h:LX xs vY e cl=some (ps,cs,e',cl')):PG e'.out<=room e+La vY:=by
 have le:∀e:yR,PG e.out<=room e:=λe=>by unfold PG room;cases e.out<;>simp
 have key:∀(l:List (TX×vS)) (e:yR) (cl:Bool) (p:List PX) (c:List (vS×Nat)),GL l e cl p c=some (ps,cs,e',cl')->room e'<=room e+La l:=by
  intro l;induction l with
  |nil=>intro e cl p c h;rw[GL]at h;cases h;simp[La]
  |cons it r ih=>
   intro e cl p c h;rw[GL]at h;split at h
   ·cases h
   ·rename_i y hy;have h1:=ih _ _ _ _ h;have h2:=(KN (x:=it.1) (e':=y.2.2.1) (cl':=y.2.2.2) (p:=y.1) (t:=y.2.1) hy).1;simp only[La,oq,List.sum_cons]at h1 ⊢;omega
 unfold LX at h;split at h
 ·cases h;first|(have:=le e;omega)|(have:=le e';omega)
 ·have h1:=key _ _ _ _ _ h;have:=le e';omega
def ZSj{d}{vY}{ps gs}{hv wh}{o:Option (List SX×List (Nat×Nat))}{r:Aq×List (vS×Nat)×yR×Bool}(h:Rj db d vY ps gs hv (λxs=>Ce wh ⟨xs,none,o⟩ cl)=some r):PG r.2.2.1.out<=PG o+F5 wh+F5 hv+La vY:=by
 unfold Rj at h;obtain⟨xs,_,h⟩:=qV.1 h;obtain⟨⟨p,e1,Ac⟩,hw,h⟩:=qV.1 h;obtain⟨ks,_,h⟩:=qV.1 h;unfold Vz at h;split at h
 ·cases h
 ·obtain⟨⟨ph,e2,Cb⟩,hh,h⟩:=qV.1 h;obtain⟨⟨pi,ci,e3,cl3⟩,hi,h⟩:=pO.1 h;cases h;have h1:=R8 hw;have h2:=R8 hh;have h3:=ZMR hi;have hg:=h1.2.2 rfl;rw[Zp6]at h1;have h4:room {e1 with xB:=if KP vY gs then some (ks, [])else none}<=room e1:=by
   cases KP vY gs<;>simp[room,hg]
  dsimp only at h1 h2 h3 h4 ⊢;omega
theorem Zp0:∀{q:FQ} {o o':Option (List SX×List (Nat×Nat))} {cl cl':Bool} {pq:PQ} {cs:List (vS×Nat)},GM db q o cl=some (pq,cs,o',cl')->PG o'<=PG o+IV q
 | .yO d vY ps wh gs hv,o,o',cl,cl',pq,cs,h=>by
  rw[GM]at h;obtain⟨r,hr,h2⟩:=pO.1 h;cases h2;have:=ZSj hr;rw[IV];omega
 | .Ai l s r,o,o',cl,cl',pq,cs,h=>by
  rw[GM]at h;obtain⟨⟨q1,c1,o1,Ac⟩,h1,h⟩:=qV.1 h;obtain⟨⟨q2,c2,o2,Cb⟩,h2,h3⟩:=pO.1 h;cases h3;have a:=Zp0 h1;have b:=Zp0 h2;rw[IV];dsimp only at b ⊢;omega
def Jy.Xy:∀{q:FQ} {v:Value},Jy W0 q v->∃n y,v= .iface n y
 | .yO ..,v,⟨_,_,_,_,_,_,e,_⟩=>⟨_,_,e⟩
 | .Ai ..,v,⟨_,_,e,_⟩=>⟨_,_,e⟩
def ZhT(c):YJ (cV c):=by cases c<;>first|exact .inl rfl|exact .inr ⟨_,_,rfl⟩
theorem Zkn:∀(q:FQ) (W0 W:World) (C M:Nat) (cl:Bool) (db:List (vS×Nat×Ar)) (oa:Option Addr) (out:Option (List SX×List (Nat×Nat))) (v:Value),JV W0 M db->yL W0 C M cl W->Jv W0 W (.pointer oa) out->Jy W0 q v->Px q->PG out+IV q<=400->
  Calls prog 41 #[vU C,v,.pointer oa] W (QuR W0 W C M (.pointer oa) (Qn q) (GM db q out cl))
 | .yO d vY ps wh gs hv,W0,W,C,M,cl,db,oa,out,v,hD,hC,hO,⟨ia,ic,sg,Bg,ga,zx,e,hI,hS,hG⟩,⟨k1,k2,k3,k4,k5,k6,k7,k8⟩,hr=>by
  subst e;rw[IV]at hr;refine(ZzO W0 W C M d ia vY.length ic _ ps.length Bg (cV wh) ga gs.length zx (cV hv) oa (KP vY gs|| !true) (λ_ wb=>wb=none) (Rj db d vY ps gs hv (λxs=>Ce wh ⟨xs,none,out⟩ cl)) (ZhT _) (ZhT _) (λw' hB=>?_)).mono ?_
  ·refine Zty W0 w' C M cl db d vY ia ic ps sg Bg gs ga zx (cV wh) hv oa out _ true _ hD (hC.below hB) (hO.cf (CF.vZ hB) (KT.vZ hB)) hI k1 k2 hS k3 k4 hG k5 k6 (ZhT _) k8 (λxs b w2 _ CE hP2 _=>?_) (λxs p e1 Ac _ hw=>?_) (λa c wb h _ _=>h)
   ·refine(ZbD wh W0 w2 C M b ⟨xs,none,out⟩ cl none CE hP2 (by rw[Zp6];omega) k7).mono ?_;rintro en W' (Iz|⟨p,e',cl',K,cap,h1,h2,h3,h4,h5,h6,h7⟩)
    ·exact .inl Iz
    ·exact .inr ⟨p,e',cl',K,cap,none,h1,h2,h3,h4,h5,h6,λ_=>h7 rfl,rfl⟩
   ·have h1:=R8 hw;rw[Zp6]at h1;exact⟨by have:=h1.1;omega,h1.2.1,h1.2.2 rfl⟩
  ·rintro en W' (⟨hn,ht⟩|⟨s,cs,e',cl',sb,x,tv,wb,h1,h2,h3,h4,h5,h5',h6,h7,h8,h9,Nv⟩)
   ·exact .inl ⟨by rw[GM,hn];try rfl,ht⟩
   ·have ZIM:wb=none:=Nv.1;subst ZIM;exact .inr ⟨.yO s,cs,e'.out,cl',_,tv, [sb],by rw[GM,h1];try rfl,h2,⟨sb,x,false,rfl,h3,rfl⟩,λg hg=>by rw[qU.1 hg];exact h4,⟨_,_,rfl⟩,h5,h5',h6,h7,h8,λh=>h9 (by rw[Qn]at h;rw[h];try rfl)⟩
 | .Ai l s r,W0,W,C,M,cl,db,oa,out,v,hD,hC,hO,⟨lv,rv,e,hl,hrr⟩,⟨k1,k2,k3⟩,hr=>by
  subst e;rw[IV]at hr;rw[GM,Qn];exact ZRF W0 W C M lv rv s oa (Qn l) (Qn r) (GM db l out cl) (λo c=>GM db r o c) hl.Xy hrr.Xy k3
   (λw' hB=>Zkn l W0 w' C M cl db oa out lv hD (hC.below hB) (hO.cf (CF.vZ hB) (KT.vZ hB)) hl k1 Z)
   (λq1 c1 o1 Ac w' h1 Ux hO' _=>Zkn r W0 w' C M Ac db oa o1 rv hD Ux hO' hrr k2 (by have:=Zp0 h1;omega))
def XH(xY:List (Nat×Nat)):List PX:=xY.map λn=>.zO n.1 n.2
def RP(W0 W:World)(w:Nat)(q:PQ)(es:List PX):Prop:=∃qv nv S,W.heap[w]? =some (.cells #[qv,nv] 459)/\Gs W nv es/\AX W q qv S/\∀g∈S,W0.heap.size<=g
theorem RP.cf{w}{q}{es}(h:RP W0 W w q es)(hc:CF W W')(hg:KT Cu W W'):RP W0 W' w q es:=by
 obtain⟨qv,nv,S,h1,h2,h3,h4⟩:=h;exact⟨qv,nv,S,hc.cells h1 O,h2.same hc.BV,h3.cf hc hg,h4⟩
def wiP(db:List (vS×Nat×Ar))(q:FQ)(zX:List SX)(cl:Bool):Option (PQ×List PX×List (vS×Nat)×Bool):=(GM db q (some (zX, [])) cl).map λr=>(r.1,XH (match r.2.2.1 with|none=> []|some o=>o.2),r.2.1,r.2.2.2)
def WqR(W0 W:World)(C M b:Nat)(zX:List SX)(gr:Bool)(res:Option (PQ×List PX×List (vS×Nat)×Bool))(en:Ending)(W':World):Prop:=
 (res=none/\Gx W0 en W')\/∃q es cs cl' w tv,res=some (q,es,cs,cl')/\en= .returned (.tuple #[vU w,tv])/\RP W0 W' w q es/\Io W' tv cs/\cs.length<=1000/\yS W0 W' b ⟨zX,none,none⟩/\yL W0 C M cl' W'/\CF W W'
def yS.plain{b}{zX:List SX}(h:yS W0 W b ⟨zX,none,none⟩)(hc:CF W W'):yS W0 W' b ⟨zX,none,none⟩:=by
 obtain⟨sv,wv,gv,k1,k2,k3,k4,k5⟩:=h;exact⟨sv,wv,gv,hc.cells k1 O,k2.cf hc,k3,k4,k5⟩
structure ZdV (w3:World) (wm nb:Nat) (x ev:Value) (n1 n2 k:Nat) (fs:List Value) (wr w:World):Prop where
 n:w.heap[nb]? =some (.cells #[.int .i64 (n1:Nat),.int .i64 (n2:Nat)] 461)
 wb:w.heap[wm]? =some (.cells #[x,ev] 459)
 ox:Ox [wm] w3 w
 own:w.ownsRow w3.heap.size 345 1 ev k fs
 one:One wr w
def ZdV.below{nb}{x}{n1 n2 k}{wr w}(h:ZdV w3 wm nb x ev n1 n2 k fs wr w)(hB:vV w w'):ZdV w3 wm nb x ev n1 n2 k fs wr w':=
 ⟨xq hB h.n,xq hB h.wb,h.ox.trans (Ox.vZ hB),zC h.own hB,h.one.tr (One.vZ hB)⟩
def ZpB{a}{c:World}{k n:Nat}{u v:Value}{xs:List Value}{Mx:Nat}(xu:Ox [wm] w3 a)(wD:a.ownsRow w3.heap.size Mx sz v n xs)(hg:a.grownBy c v.ownBlock):Ox [wm] w3 (c.setCell ⟨wm,k,none⟩ u):=by
 have hs:=xu.size;refine⟨hg.os.trans xu.os,hg.tape.trans xu.tape,hg.output.trans xu.output,by rw[Bf];exact om hs hg.size,λg hl hn=>?_⟩;have wF:g≠wm:=bO
 refine(uX c ⟨wm,k,none⟩ u g wF).trans ((hg.block g Z (λeg=>?_)).trans (xu.block g hl hn));have:=(wD.lt g eg.symm).1;omega
def Z0w{p:Prop}(h:p:=by
 clear zI x9 O9 Pf FY A7 v1 vf wL;go_wp2_with fail;go_roundg (xY.length-(k+1)+1);case measure=>omega
 case rel=>exact⟨k+1,_,_,Z,rfl,aG,.inr Z,TR.out,by simpa using CO,Ez,HF8.out⟩):p:=h
def Ztz(W0 W)(C M b)(zX)(cl)(db)(q)(v)(hD:JV W0 M db)(hC:yL W0 C M cl W)(hP:yS W0 W b ⟨zX,none,none⟩)(hq:Jy W0 q v)(hk:Px q)(yA:IV q<=400):
  Calls prog 152 #[vU C,v,vU b] W (WqR W0 W C M b zX (Qn q) (wiP db q zX cl)):=by
 obtain⟨vn,vy,rfl⟩:=hq.Xy;obtain⟨sv,wv,gv,k1,k2,k3,k4,k5⟩:=id hP;have k4':wv= .pointer none:=k4;have k5':gv= .pointer none:=k5;subst k4' k5';have HLW:=vR hC.low.size;have wE:=Cy W (.cells #[.pointer (some ⟨b,0,none⟩),.slice none 0 0] 457);have yG:=xI W (.cells #[.pointer (some ⟨b,0,none⟩),.slice none 0 0] 457);have Kc:Jv W0 (W.alloc (.cells #[.pointer (some ⟨b,0,none⟩),.slice none 0 0] 457)) (.pointer (some ⟨W.heap.size,0,none⟩)) (some (zX, [])):=⟨W.heap.size,b,sv,.slice none 0 0,rfl,yG,(wE.block _ (oz.1 k1).1).trans k1,k2.cf (CF.vZ wE),k3,hC.low.size,ae,pV _ _ _ _,λn h=>(nomatch h)⟩;have HQ:=vR (Zkn q W0 _ C M cl db (some ⟨W.heap.size,0,none⟩) (some (zX, [])) _ hD (hC.below wE) Kc hq hk (by simpa[PG]using yA));have HP:=vR hP;have OD:Hid (wiP db q zX cl=(GM db q (some (zX, [])) cl).map λr=>(r.1,XH (match r.2.2.1 with|none=> []|some o=>o.2),r.2.1,r.2.2.2)):=rfl;generalize wiP db q zX cl=Dg at *;generalize GM db q (some (zX, [])) cl=r0 at *;have SA:=hC.low.size;clear hD hC hP hq hk yA Kc yG k1 k2 k3 k4 k5;unfold vU at *;go_enter func152,ntmps152;go_wp2_with fail;generalize W.alloc (.cells #[.pointer (some ⟨b,0,none⟩),.slice none 0 0] 457)=W1 at *;refine HQ.out.mono ?_;rintro en w2 (⟨wO,wV⟩|⟨q1,c1,o1,Ac,v1,t1,S1,Em,rfl,MR,Xd,⟨M8,M9,rfl⟩,yV,ZnW,Kc,zG,yQ,hG1⟩)
 ·have yD:Hid (Dg=none):=by show _=_;rw[OD.out,wO];try rfl
  exact lu
 obtain⟨ZYr,xY,rfl⟩:∃x n,o1=some (x,n):=by
  cases o1 with
  |none=>cases Kc
  |some o=>exact⟨o.1,o.2,rfl⟩
 obtain⟨wi,ob,FD,nv,ew,m1,m2,m3,m4,m5,m6,m7,m8⟩:=Kc;cases ew;have HR:Hid (Dg=some (q1,XH xY,c1,Ac)):=by show _=_;rw[OD.out,Em];try rfl
 obtain⟨ta1,tc1,rfl⟩:∃a c,t1= .slice a c1.length c:=by obtain⟨a,c,e,_⟩:=yV;exact⟨a,c,e⟩
 obtain⟨na,nc,rfl⟩:=yN m7;clear Em HQ OD;obtain⟨w3,Da⟩:∃w3,w2.alloc (.cells #[.iface M8 M9,.slice none 0 0] 459)=w3:=⟨_,rfl⟩;have wH:Below w2.heap.size w2 w3:=by rw[<-Da];exact Cy _ _
 have NR:w3.heap[w2.heap.size]? =some (.cells #[.iface M8 M9,.slice none 0 0] 459):=by rw[<-Da];exact xI w2 _
 have C8:w3.heap.size=w2.heap.size+1:=by rw[<-Da];simp
 have hi3:=(wH.block _ (oz.1 m1).1).trans m1;have i1:=(wS hi3).2.1;have HN:Hid (∀w',Ox [w2.heap.size] w3 w'->∀k (h:k<xY.length),∃g,na=some ⟨g,0,none⟩/\w'.cell? ⟨g,k*2,none⟩=some (.int .i64 (xY[k].1:Nat))/\w'.cell? ⟨g,k*2+1,none⟩=some (.int .i64 (xY[k].2:Nat))):=λw' hx k hk=>by
  have hb:=Zka wH hx (nV _);have ho:=zC m7 hb;rcases ho.2 with⟨_,h0⟩|⟨g,cap,cur,e,_,hh,_⟩
  ·omega
  ·cases e;obtain⟨e1,e2⟩:=Zoh xY k hk;have q1:=ho.cells (g:=g) rfl _ _ e1;have q2:=ho.cells (g:=g) rfl _ _ e2;rw[uY,o9]at q1 q2;exact⟨g,rfl,q1,q2⟩
 have HNB:=vR m8;have H2:Hid (AX w2 q1 (.iface M8 M9) S1/\Io w2 (.slice ta1 c1.length tc1) c1/\yL W0 C M Ac w2/\CF W w2):=⟨MR,yV,zG,(CF.vZ wE).trans yQ⟩;have HS0:Hid (∀g∈S1,W0.heap.size<=g):=λg hg=>om (om HLW.out wE.size) (Xd g hg);clear MR Xd yV zG yQ hG1 m1 m2 m3 m4 m7 m8;obtain⟨j0,hj,hy0,GK,hy2⟩:=oM Tryz.Zpc;go_wp2_with fail;clear i1 Da;try unfold vV at *;generalize hwm:w2.heap.size=wm at *;go_loopg [32] (xY.length+1) (λgk iv wr=>∃(k:Nat) (tv:Value) (fs:List Value),k<=xY.length/\gk=xY.length-k+1/\iv= .int .i64 k/\Hid (tv= .slice none 0 0\/0<k)/\Ox [wm] w3 wr/\wr.heap[wm]? =some (.cells #[.iface M8 M9,tv] 459)/\wr.ownsRow w3.heap.size 345 1 tv k fs/\Hid (fs.length=k/\∀i (h:i<xY.length) (h':i<fs.length),zz wr (.zO xY[i].1 xY[i].2) fs[i]));case atStart=>exact⟨0,_, [],Z,Z,rfl,.inl rfl,Ox.refl _ _,NR,pV _ _ _ _,rfl,λi _ h=>(nomatch h)⟩
 case round=>
  obtain⟨k,tv,fs,hk,rfl,rfl,Gv,xu,hwb,wD,P6⟩:=hrel;obtain⟨ea,ec,rfl⟩:=yN wD;by_cases hlt:k<xY.length
  ·obtain⟨g,rfl,q0,q1⟩:=HN.out wr xu k hlt;have Jh:=HNB.out xY[k] (oC hlt);have HNK:Hid (∀(fs':List Value) (w':World) (f:Value),fs'=fs++ [f]->One wr w'->zz w' (.zO xY[k].1 xY[k].2) f->fs'.length=k+1/\∀i (h:i<xY.length) (h':i<fs'.length),zz w' (.zO xY[i].1 xY[i].2) fs'[i]):=λfs' w' f e h1 hf=>by
    subst e;refine⟨by simp[P6.out.1],λi h h'=>?_⟩;by_cases hi:i<fs.length
    ·rw[pJ hi];exact(P6.out.2 i h hi).one h1
    ·have QF:i=k:=by have:=P6.out.1;simp at h';omega
     subst QF;have e2:(fs++ [f])[i]'h'=f:=by rw[qW Z];simp[P6.out.1]
     rw[e2];exact hf
   generalize xY[k].1=n1 at *;generalize xY[k].2=n2 at *;go_wp2_with fail;have AP:=Cy wr (.cells #[.int .i64 (n1:Nat),.int .i64 (n2:Nat)] 461);have hnA:=xI wr (.cells #[.int .i64 (n1:Nat),.int .i64 (n2:Nat)] 461);have HA:ZdV w3 wm wr.heap.size (.iface M8 M9) (.slice ea k ec) n1 n2 k fs wr (wr.alloc (.cells #[.int .i64 (n1:Nat),.int .i64 (n2:Nat)] 461)):=⟨hnA,(AP.block _ (oz.1 hwb).1).trans hwb,xu.trans (Ox.vZ AP),zC wD AP,One.vZ AP⟩;have Zcq:wr.heap.size≠wm:=by have:=(oz.1 hwb).1;omega
   clear AP hnA;generalize wr.alloc (.cells #[.int .i64 (n1:Nat),.int .i64 (n2:Nat)] 461)=wv at *;have H0d:ZdV w3 wm wr.heap.size (.iface M8 M9) (.slice ea k ec) n1 n2 k fs wr wv.drew:=HA.below (yF (nW _ _) 1);refine vM (S:=λw'=>w'.cell? ⟨wr.heap.size,0,none⟩=some (.int .i64 (n1:Nat))/\w'.cell? ⟨wr.heap.size,1,none⟩=some (.int .i64 (n2:Nat))) af ⟨by exact(wS HA.n).1,by exact(wS HA.n).2.1⟩ (λwL=>?_);clear HA;refine tk 0 ?_;refine tk 1 ?_;refine tk 2 ?_;refine tk 3 ?_;refine tk 5 ?_;refine tk 6 ?_;refine tk 7 ?_;refine tk 8 ?_;generalize wv.drew=y0 at H0d ⊢;have H0:=H0d;clear H0d;refine og (rs:= [4,9]) af ae (nZ rfl (λK hK=>?_) (nZ rfl (λK hK=>?_) oh))
   ·have l4:=(wS H0.wb).2.1;go_simp;refine hK.out _ _ ⟨by exact(wS H0.n).1,by exact(wS H0.n).2.1⟩ (λwL=>?_);clear hK K;refine og (rs:= [9]) af ae (nZ rfl (λK hK=>?_) oh);go_simp;refine(Zc0 _ n1 n2 Z Z).mono ?_;rintro en y1 ⟨f1,rfl,Ci,yz⟩;obtain⟨Kf,cp,rfl,_⟩:=Ci.func;have H1:=H0.below yz;refine hK.out _ _ ⟨by exact(wS H1.n).1,by exact(wS H1.n).2.1⟩ (λwL=>?_);clear hK K;refine og (rs:= [10]) af ae (nZ rfl (λK hK=>?_) oh);go_simp;have Af:=Cy y1 (.cells #[.func (.func Kf) #[] cp] 345);have H2:=H1.below Af;have O5:=xI y1 (.cells #[.func (.func Kf) #[] cp] 345);have yj:=Ci.one (One.vZ Af);try unfold vV at *;generalize hbe:y1.heap.size=be at *;generalize y1.alloc (.cells #[.func (.func Kf) #[] cp] 345)=y2 at *;refine hK.out _ _ ⟨by exact(wS H2.n).1,by exact(wS H2.n).2.1⟩ (λwL=>?_);clear hK K;refine og (rs:= [11]) af ae (nZ rfl (λK hK=>?_) oh);refine VF rfl _ _ 251 rfl w3.heap.size 345 j0 .nilFunc 8 underlying251 hj hy0 GK hy2 rfl (.slice ea k ec) k fs rfl (by exact H2.own) Gv.out ⟨be,0,none⟩ 1 (.func (.func Kf) #[] cp) rfl (WG O5) au aj Z (by exact H2.ox.size) _ rfl ?_;intro g2 yZ y3 zI x9 O9 Pf FY;have A7:y2.grownBy y3 (Value.slice ea k ec).ownBlock:=⟨x9.os,x9.tape,x9.output,x9.size,x9.block⟩;have IC:=(A7.block _ (oz.1 H2.n).1 (Ib H2.own H2.n O)).trans H2.n;have ZcC:=(A7.block _ (oz.1 H2.wb).1 (Ib H2.own H2.wb O)).trans H2.wb;simp only[Act.put,pz,List.set_cons_zero,List.set_cons_succ,List.getElem_toArray,List.getElem_cons_zero,List.getElem_cons_succ];refine hK.out _ _ ⟨by exact(wS IC).1,by exact(wS IC).2.1⟩ (λwL=>?_);clear hK K;refine tk 12 ?_;refine tk 13 ?_;have v1:=(wS ZcC).2.1;have vf:=(wS ZcC).2.2.2;refine og (rs:= [14]) af ae (nZ rfl (λK hK=>?_) oh);go_simp;have CO:=FH (k:=1) (u:=.slice (some ⟨g2,0,none⟩) (k+1) yZ) ZcC;have Ez:=Vv (k:=1) (u:=.slice (some ⟨g2,0,none⟩) (k+1) yZ) zI ZcC O;refine hK.out _ _ ⟨M5 (wS IC).1 Zcq,M5 (wS IC).2.1 Zcq⟩ (λwL=>?_);clear hK K;refine oP af ?_ _;have ZfI:One wr (y3.setCell ⟨wm,1,none⟩ (.slice (some ⟨g2,0,none⟩) (k+1) yZ)):=(H2.one.tr aK).tr (λn x ty fr e=>EO e (λe2=>by subst e2;rw[ZcC]at e;cases e));have TR:Hid (Ox [wm] w3 (y3.setCell ⟨wm,1,none⟩ (.slice (some ⟨g2,0,none⟩) (k+1) yZ))):=ZpB H2.ox H2.own A7;have HF8:=vR (HNK.out _ _ _ rfl ZfI (yj.one (One.tr aK (λn x ty fr e=>EO e (λe2=>by subst e2;rw[ZcC]at e;cases e)))));exact Z0w
   ·go_simp;refine(Zc0 _ n1 n2 Z Z).mono ?_;rintro en y4 ⟨f4,rfl,ZO,GD⟩;obtain⟨Kf,cp,rfl,_⟩:=ZO.func;have H4:=H0.below GD;refine hK.out _ _ ⟨by exact(wS H4.n).1,by exact(wS H4.n).2.1⟩ (λwL=>?_);clear hK K;refine og (rs:= [4,10]) af ae (nZ rfl (λK hK=>?_) (nZ rfl (λK hK=>?_) oh))
    ·have l4:=(wS H4.wb).2.1;go_simp;refine hK.out _ _ ⟨by exact(wS H4.n).1,by exact(wS H4.n).2.1⟩ (λwL=>?_);clear hK K;refine og (rs:= [10]) af ae (nZ rfl (λK hK=>?_) oh);go_simp;have CJ:=Cy y4 (.cells #[.func (.func Kf) #[] cp] 345);have H5:=H4.below CJ;have he5:=xI y4 (.cells #[.func (.func Kf) #[] cp] 345);have QD:=ZO.one (One.vZ CJ);try unfold vV at *;generalize hbe:y4.heap.size=be at *;generalize y4.alloc (.cells #[.func (.func Kf) #[] cp] 345)=y5 at *;refine hK.out _ _ ⟨by exact(wS H5.n).1,by exact(wS H5.n).2.1⟩ (λwL=>?_);clear hK K;refine og (rs:= [11]) af ae (nZ rfl (λK hK=>?_) oh);refine VF rfl _ _ 251 rfl w3.heap.size 345 j0 .nilFunc 8 underlying251 hj hy0 GK hy2 rfl (.slice ea k ec) k fs rfl (by exact H5.own) Gv.out ⟨be,0,none⟩ 1 (.func (.func Kf) #[] cp) rfl (WG he5) au aj Z (by exact H5.ox.size) _ rfl ?_;intro g2 yZ y6 zI x9 O9 Pf FY;have A7:y5.grownBy y6 (Value.slice ea k ec).ownBlock:=⟨x9.os,x9.tape,x9.output,x9.size,x9.block⟩;have UW:=(A7.block _ (oz.1 H5.n).1 (Ib H5.own H5.n O)).trans H5.n;have ZcD:=(A7.block _ (oz.1 H5.wb).1 (Ib H5.own H5.wb O)).trans H5.wb;simp only[Act.put,pz,List.set_cons_zero,List.set_cons_succ,List.getElem_toArray,List.getElem_cons_zero,List.getElem_cons_succ];refine hK.out _ _ ⟨by exact(wS UW).1,by exact(wS UW).2.1⟩ (λwL=>?_);clear hK K;refine tk 12 ?_;refine tk 13 ?_;have v1:=(wS ZcD).2.1;have vf:=(wS ZcD).2.2.2;refine og (rs:= [14]) af ae (nZ rfl (λK hK=>?_) oh);go_simp;have CO:=FH (k:=1) (u:=.slice (some ⟨g2,0,none⟩) (k+1) yZ) ZcD;have Ez:=Vv (k:=1) (u:=.slice (some ⟨g2,0,none⟩) (k+1) yZ) zI ZcD O;refine hK.out _ _ ⟨M5 (wS UW).1 Zcq,M5 (wS UW).2.1 Zcq⟩ (λwL=>?_);clear hK K;refine oP af ?_ _;have ZfI:One wr (y6.setCell ⟨wm,1,none⟩ (.slice (some ⟨g2,0,none⟩) (k+1) yZ)):=(H5.one.tr aK).tr (λn x ty fr e=>EO e (λe2=>by subst e2;rw[ZcD]at e;cases e));have TR:Hid (Ox [wm] w3 (y6.setCell ⟨wm,1,none⟩ (.slice (some ⟨g2,0,none⟩) (k+1) yZ))):=ZpB H5.ox H5.own A7;have HF8:=vR (HNK.out _ _ _ rfl ZfI (QD.one (One.tr aK (λn x ty fr e=>EO e (λe2=>by subst e2;rw[ZcD]at e;cases e)))));exact Z0w
    ·go_simp;have GG:=Cy y4 (.cells #[.func (.func Kf) #[] cp] 345);have H7:=H4.below GG;have he7:=xI y4 (.cells #[.func (.func Kf) #[] cp] 345);have hf7:=ZO.one (One.vZ GG);try unfold vV at *;generalize hbe:y4.heap.size=be at *;generalize y4.alloc (.cells #[.func (.func Kf) #[] cp] 345)=y7 at *;refine hK.out _ _ ⟨by exact(wS H7.n).1,by exact(wS H7.n).2.1⟩ (λwL=>?_);clear hK K;refine og (rs:= [4]) af ae (nZ rfl (λK hK=>?_) oh);have l4:=(wS H7.wb).2.1;go_simp;refine hK.out _ _ ⟨by exact(wS H7.n).1,by exact(wS H7.n).2.1⟩ (λwL=>?_);clear hK K;refine og (rs:= [11]) af ae (nZ rfl (λK hK=>?_) oh);refine VF rfl _ _ 251 rfl w3.heap.size 345 j0 .nilFunc 8 underlying251 hj hy0 GK hy2 rfl (.slice ea k ec) k fs rfl (by exact H7.own) Gv.out ⟨be,0,none⟩ 1 (.func (.func Kf) #[] cp) rfl (WG he7) au aj Z (by exact H7.ox.size) _ rfl ?_;intro g2 yZ y8 zI x9 O9 Pf FY;have A7:y7.grownBy y8 (Value.slice ea k ec).ownBlock:=⟨x9.os,x9.tape,x9.output,x9.size,x9.block⟩;have LH:=(A7.block _ (oz.1 H7.n).1 (Ib H7.own H7.n O)).trans H7.n;have ZcE:=(A7.block _ (oz.1 H7.wb).1 (Ib H7.own H7.wb O)).trans H7.wb;simp only[Act.put,pz,List.set_cons_zero,List.set_cons_succ,List.getElem_toArray,List.getElem_cons_zero,List.getElem_cons_succ];refine hK.out _ _ ⟨by exact(wS LH).1,by exact(wS LH).2.1⟩ (λwL=>?_);clear hK K;refine tk 12 ?_;refine tk 13 ?_;have v1:=(wS ZcE).2.1;have vf:=(wS ZcE).2.2.2;refine og (rs:= [14]) af ae (nZ rfl (λK hK=>?_) oh);go_simp;have CO:=FH (k:=1) (u:=.slice (some ⟨g2,0,none⟩) (k+1) yZ) ZcE;have Ez:=Vv (k:=1) (u:=.slice (some ⟨g2,0,none⟩) (k+1) yZ) zI ZcE O;refine hK.out _ _ ⟨M5 (wS LH).1 Zcq,M5 (wS LH).2.1 Zcq⟩ (λwL=>?_);clear hK K;refine oP af ?_ _;have ZfI:One wr (y8.setCell ⟨wm,1,none⟩ (.slice (some ⟨g2,0,none⟩) (k+1) yZ)):=(H7.one.tr aK).tr (λn x ty fr e=>EO e (λe2=>by subst e2;rw[ZcE]at e;cases e));have TR:Hid (Ox [wm] w3 (y8.setCell ⟨wm,1,none⟩ (.slice (some ⟨g2,0,none⟩) (k+1) yZ))):=ZpB H7.ox H7.own A7;have HF8:=vR (HNK.out _ _ _ rfl ZfI (hf7.one (One.tr aK (λn x ty fr e=>EO e (λe2=>by subst e2;rw[ZcE]at e;cases e)))));exact Z0w
  ·obtain rfl:k=xY.length:=by omega
   have ES:Hid (WqR W0 W C M b zX (Qn q) Dg (.returned (.tuple #[.pointer (some ⟨wm,0,none⟩),.slice ta1 c1.length tc1])) wr):=by
    have hb:=Zka (by show Below _ _ _;rw[hwm];exact wH) xu (by rw[hwm];exact nV _);refine .inr ⟨q1,XH xY,c1,Ac,wm,_,HR.out,rfl,⟨_,_,S1,hwb,?_,H2.out.1.below hb,HS0.out⟩,H2.out.2.1.kt (KT.vZ hb),ZnW,HP.out.plain (H2.out.2.2.2.trans (CF.vZ hb)),H2.out.2.2.1.below hb,H2.out.2.2.2.trans (CF.vZ hb)⟩;have hlen:(XH xY).length=xY.length:=by simp[XH]
    have hc:=λg=>wD.cells (g:=g);rcases wD.2 with⟨e,h0⟩|⟨g,cap,cu,e,_,hh,_⟩
    ·exact⟨ea,ec,by rw[hlen],by rw[hlen];omega,λi hi=>Z⟩
    ·cases e;refine⟨some ⟨g,0,none⟩,_,by rw[hlen],by rw[hlen];omega,λi hi=>⟨g,0,cu,fs[i]' gK,rfl,hh,?_,?_⟩⟩
     ·have:=hc g rfl i (fs[i]' gK) ae;exact mV
     ·have e2:(XH xY)[i]= .zO (xY[i]' Z).1 (xY[i]' Z).2:=by simp[XH]
      rw[e2];exact P6.out.2 i Z gK
   clear wD hwb;go_wp2_with fail;go_ret2;exact ES.out
theorem Zex:∀{x:TX} {e e':yR} {cl cl':Bool} {p:PX} {t:Nat},zo x e cl=some (p,t,e',cl')->e.out=none->e'.out=none
 | .lit v,e,e',cl,cl',p,t,h,ho=>by rw[zo]at h;cases h;exact ho
 | .zO o s,e,e',cl,cl',p,t,h,ho=>by
  rw[zo]at h;obtain⟨⟨r,e1⟩,hl,h2⟩:=pO.1 h;cases h2;exact(ZyD hl).2.2.2 ho
 | .neg x,e,e',cl,cl',p,t,h,ho=>by
  rw[zo]at h;obtain⟨⟨p1,t1,e1,c1⟩,hl,h2⟩:=pO.1 h;cases h2;exact Zex hl ho
 | .arith s l r,e,e',cl,cl',p,t,h,ho=>by
  rw[zo]at h;obtain⟨⟨p1,t1,e1,c1⟩,hl,h2⟩:=qV.1 h;obtain⟨⟨p2,t2,e2,c2⟩,hr,h3⟩:=pO.1 h2;cases h3;exact Zex hr (Zex hl ho)
 | .star n,e,e',cl,cl',p,t,h,ho=>by
  rw[zo]at h;obtain⟨g,hg,h2⟩:=pO.1 h;cases h2;exact ho
 | .agg n x,e,e',cl,cl',p,t,h,ho=>by
  rw[zo]at h;obtain⟨g,hg,h⟩:=qV.1 h;obtain⟨⟨p1,t1,e1,c1⟩,hl,h2⟩:=pO.1 h;cases h2;exact Zex (e:={e with xB:=none}) (e':=e1) (cl':=c1) hl ho
def ZHC{x}{p:PX}{t:Nat}(h:zo x ⟨xs,none,none⟩ cl=some (p,t,e',cl')):e'=⟨xs,none,none⟩:=by
 have h1:=KN h;have h2:=Zex h rfl;have h3:=h1.2.2 rfl;have h4:=h1.2.1;cases e';simp only at h2 h3 h4;subst h2 h3 h4;rfl
def Yc(db:List (vS×Nat×Ar))(x:TX)(s h:vS)(q:FQ)(xs:List SX)(cl:Bool):Option (PC×PQ×List PX×Bool):=
 (zo x ⟨xs,none,none⟩ cl).bind λa=>(wiP db q xs a.2.2.2).map λw=>(.BK a.1 s (decide (h= [97,108,108])),w.1,w.2.1,w.2.2.2||Lj [([],a.2.1)] w.2.2.1)
def VsR(W0 W:World)(C M b:Nat)(xs:List SX)(res:Option (PC×PQ×List PX×Bool))(en:Ending)(W':World):Prop:=
 (res=none/\Gx W0 en W')\/∃p q es cl' K cap w,res=some (p,q,es,cl')/\en= .returned (.func (.func K) #[] cap)/\DC W' (some w) p (.func (.func K) #[] cap)/\RP W0 W' w q es/\yS W0 W' b ⟨xs,none,none⟩/\yL W0 C M cl' W'/\CF W W'
def VsR.from{b}{res}(h:VsR W0 W1 C M b xs res en W')(hB:vV W W1):VsR W0 W C M b xs res en W':=by
 rcases h with h|⟨p,q,es,cl',K,cap,w,h1,h2,h3,h4,h5,h6,h7⟩
 ·exact .inl h
 ·exact .inr ⟨p,q,es,cl',K,cap,w,h1,h2,h3,h4,h5,h6,(CF.vZ hB).trans h7⟩
def Z0x{p:Prop}(h:p:=by
 have xM:=vR wV;obtain⟨b',rfl,_⟩:=wV;clear wO;go_wp2;exact⟨rfl,.inl ⟨yD.out,xM.out⟩⟩):p:=h
def ZtM(W0 W)(C M b)(xs)(cl)(db)(x)(s h:vS)(q)(v)(hh:h= [97,110,121]\/h= [97,108,108])(hD:JV W0 M db)(hC:yL W0 C M cl W)(hP:yS W0 W b ⟨xs,none,none⟩)(hx:Gp x)(hsx:CS x<=400)(hq:Jy W0 q v)(hk:Px q)(yA:IV q<=400):
  Calls prog 154 #[vU C,xV x,.string ⟨s.toArray⟩,.string ⟨h.toArray⟩,v,vU b] W (VsR W0 W C M b xs (Yc db x s h q xs cl)):=by
 have HX:=vR (Uu x W0 W C M b ⟨xs,none,none⟩ cl hC hP (by simpa[room]using hsx) hx);have HW:=vR (λw' cl' (Ux:yL W0 C M cl' w') (Zq:yS W0 w' b ⟨xs,none,none⟩)=>Ztz W0 w' C M b xs cl' db q v hD Ux Zq hq hk yA);have OD:Hid (Yc db x s h q xs cl=(zo x ⟨xs,none,none⟩ cl).bind λa=>(wiP db q xs a.2.2.2).map λw=>(.BK a.1 s (decide (h= [97,108,108])),w.1,w.2.1,w.2.2.2||Lj [([],a.2.1)] w.2.2.1)):=rfl;generalize Yc db x s h q xs cl=Dg at *;have HHH:=vR hh;have HPL:=vR (λp t e' cl' (he:zo x ⟨xs,none,none⟩ cl=some (p,t,e',cl'))=>ZHC he);obtain⟨xn,xy,hxv⟩:=Gq x;rw[hxv]at HX ⊢;obtain⟨vn,vy,rfl⟩:=hq.Xy;generalize zo x ⟨xs,none,none⟩ cl=r0 at *;clear hh hD hC hP hx hsx hq hk yA hxv;unfold vU at *;go_enter func154,ntmps154;go_wp2_with fail;refine HX.out.mono ?_;rintro en w1 (⟨wO,wV⟩|⟨p,t,e',Ac,K1,Cr,xz,rfl,Ci,wP,zG,yQ,hG1⟩)
 ·have yD:Hid (Dg=none):=by show _=_;rw[OD.out,wO];try rfl
  exact Z0x
 have hee:=HPL.out _ _ _ _ xz;subst hee;have Df:=vR xz;have HW2:=vR (HW.out w1 Ac zG wP);have V3:=vR Ci;have Nf:=vR yQ;clear xz Ci wP zG yQ hG1 HX HW;go_wp2_with fail;refine HW2.out.mono ?_;rintro en w2 (⟨wO,wV⟩|⟨q1,es,cs,Cb,w,tv,xz,rfl,LW,D9,zM,hP2,CE,hF2⟩)
 ·have yD:Hid (Dg=none):=by show _=_;rw[OD.out,Df.out,Option.bind_some,wO];try rfl
  exact Z0x
 have KA:Hid (Dg=some (.BK p s (decide (h= [97,108,108])),q1,es,Cb||Lj [([],t)] cs)):=by show _=_;rw[OD.out,Df.out,Option.bind_some,xz];try rfl
 have Bz:=vR (V3.out.same hF2.BV);have HH2:Hid (RP W0 w2 w q1 es/\Io w2 tv cs/\yS W0 w2 b ⟨xs,none,none⟩/\yL W0 C M Cb w2/\CF W w2):=⟨LW,D9,hP2,CE,Nf.out.trans hF2⟩;obtain⟨ta,tc,rfl⟩:∃a c,tv= .slice a cs.length c:=by obtain⟨a,c,e,_⟩:=D9;exact⟨a,c,e⟩
 clear xz LW D9 hP2 CE hF2 OD Df V3 HW2;unfold vU;go_wp2_with fail;have z8:=Cy w2 (.cells #[.string ⟨#[]⟩,.int .i64 (t:Nat)] 119);have EI:=xI w2 (.cells #[.string ⟨#[]⟩,.int .i64 (t:Nat)] 119);have Zv2:Io (w2.alloc (.cells #[.string ⟨#[]⟩,.int .i64 (t:Nat)] 119)) (.slice (some ⟨w2.heap.size,0,none⟩) 1 1) [([],t)]:=⟨_,1,rfl,λi hi=>by
  have zB:i=0:=by simp at hi;exact hi
  subst zB;obtain⟨c0,c1,_,_⟩:=wS EI;exact⟨w2.heap.size,_,rfl,EI,c0,c1⟩⟩
 have HS:=vR (Zmi W0 C M Cb _ _ [([],t)] cs _ (HH2.out.2.2.2.1.below z8) Zv2 (HH2.out.2.1.kt (KT.vZ z8)) ae Z);unfold vU at HS;refine HS.out.mono ?_;rintro en w4 ⟨tv4,rfl,Xg,Gy,SE⟩;obtain⟨k1,k2,k3⟩:=CF.ck Xg (HH2.out.2.2.2.1.below z8);have ZkR:Hid (CF w2 w4/\KT Cu w2 w4):=⟨(CF.vZ z8).trans k1,(KT.vZ z8).tc k3⟩;have Oz:=vR Gy;have RB:=vR (ZQO w4 w s h _ p (Bz.out.same ZkR.out.1.BV) HHH.out);obtain⟨t4a,t4c,rfl⟩:∃a c,tv4= .slice a (Ku [([],t)] cs).length c:=by obtain⟨a,c,e,_⟩:=SE;exact⟨a,c,e⟩
 unfold vU at RB;clear Xg Gy SE k1 k2 k3 z8 EI Zv2 HS;go_wp2_with fail;refine RB.out.mono ?_;rintro en w5 ⟨f5,rfl,QD,yl⟩;obtain⟨K5,Qg,rfl,_⟩:=QD.func;have HF5:=vR QD;clear QD;go_wp2_with fail;go_ret;have ZnP:=ZkR.out.1.trans (CF.vZ yl);exact .inr ⟨_,q1,es,_,K5,Qg,w,KA.out,rfl,HF5.out,HH2.out.1.cf ZnP (ZkR.out.2.tc (KT.vZ yl)),HH2.out.2.2.1.plain ZnP,Oz.out.below yl,HH2.out.2.2.2.2.trans ZnP⟩
inductive TC|flat (c:FC)|xJ (c:TC)|zK (q:FQ)|zU (x:TX) (neg:Bool) (q:FQ)|BK (x:TX) (sign Ro:vS) (q:FQ)
def RO(W0:World):TC->Value->Prop
 | .flat c,v=>v=cV c
 | .xJ c,v=>∃n y,v= .iface 333 (.agg #[.iface n y])/\RO W0 c (.iface n y)
 | .zK q,v=>∃qv,v= .iface 353 (.agg #[qv])/\Jy W0 q qv
 | .zU x n q,v=>∃qv,v= .iface 359 (.agg #[qv,xV x,.bool n])/\Jy W0 q qv
 | .BK x s h q,v=>∃qv,v= .iface 362 (.agg #[qv,xV x,.string ⟨s.toArray⟩,.string ⟨h.toArray⟩])/\Jy W0 q qv
def GQ(db:List (vS×Nat×Ar)):TC->List SX->Bool->Option (PC×PQ×List PX×Bool)
 | .flat _,_,_=>none
 | .xJ c,xs,cl=>(GQ db c xs cl).map λr=>(.xJ r.1,r.2)
 | .zK q,xs,cl=>(wiP db q xs cl).map λw=>(.zK,w.1,w.2.1,w.2.2.2)
 | .zU x n q,xs,cl=>(Yc db x [61] [97,110,121] q xs cl).map λr=>(Zau n r.1,r.2)
 | .BK x s h q,xs,cl=>Yc db x s h q xs cl
def okT:TC->Prop
 | .flat _=>False
 | .xJ c=>okT c
 | .zK q=>Px q/\IV q<=400
 | .zU x _ q=>Gp x/\CS x<=400/\Px q/\IV q<=400
 | .BK x _ h q=>Gp x/\CS x<=400/\Px q/\IV q<=400/\(h= [97,110,121]\/h= [97,108,108])
def Zbo(c:TC):Prop:=∀(W0 W:World) (C M b:Nat) (xs:List SX) (cl:Bool) (db:List (vS×Nat×Ar)) (v:Value),JV W0 M db->yL W0 C M cl W->yS W0 W b ⟨xs,none,none⟩->RO W0 c v->okT c->
 Calls prog 95 #[vU C,v,vU b] W (VsR W0 W C M b xs (GQ db c xs cl))
def Z0y{p:Prop}(h:p:=by
 have yD:Hid (res=none):=by show _=_;rw[Ap.out,wO];try rfl
 have xM:=vR wV;obtain⟨b',rfl,_⟩:=wV;clear wO;go_wp2;exact⟨rfl,.inl ⟨yD.out,xM.out⟩⟩):p:=h
def ZTQ(c)(hc:Zbo c):Zbo (.xJ c):=by
 intro W0 W C M b xs cl db v hD hC hP hT hk;obtain⟨ln,ly,rfl,zL⟩:=hT;have HN:=vR (λw' (hB:vV W w')=>hc W0 w' C M b xs cl db _ hD (hC.below hB) (hP.below hB) zL hk);have Ap:Hid (GQ db (.xJ c) xs cl=(GQ db c xs cl).map λr=>(.xJ r.1,r.2)):=by show _=_;rw[GQ]
 generalize GQ db (.xJ c) xs cl=res at *;have ta:=ZAD (.agg #[.iface ln ly]);have tb:=ZAE (.agg #[.iface ln ly]);clear hc hD hC hP zL hk;unfold vU at *;go_enter func95,ntmps95;go_wp2_with fail;have xA:vV W (W.alloc (.cells #[.iface ln ly] 333)):=Cy _ _;refine(HN.out _ xA).mono ?_;rintro en w1 (⟨wO,wV⟩|⟨p,q,es,cl',Kf,cp,w,xz,rfl,hf,LW,wP,zG,yQ⟩)
 ·exact Z0y
 have HR:Hid (res=some (.xJ p,q,es,cl')):=by show _=_;rw[Ap.out,xz];try rfl
 have HH:Hid (RP W0 w1 w q es/\yS W0 w1 b ⟨xs,none,none⟩/\yL W0 C M cl' w1/\CF W w1):=⟨LW,wP,zG,(CF.vZ xA).trans yQ⟩;have OC:=vR (ZpG w1 (some w) _ p hf);clear xz hf LW wP zG yQ;go_wp2_with fail;refine OC.out.mono ?_;rintro en w2 ⟨f,rfl,yj,wK⟩;obtain⟨K2,yZ,rfl,_⟩:=yj.func;have Bz:=vR yj;clear yj;go_wp2_with fail;go_ret;exact .inr ⟨_,q,es,_,K2,yZ,w,HR.out,rfl,Bz.out,HH.out.1.cf (CF.vZ wK) (KT.vZ wK),HH.out.2.1.below wK,HH.out.2.2.1.below wK,HH.out.2.2.2.trans (CF.vZ wK)⟩
def ZTO(q):Zbo (.zK q):=by
 intro W0 W C M b xs cl db v hD hC hP hT hk;obtain⟨qv,rfl,hq⟩:=hT;obtain⟨vn,vy,rfl⟩:=hq.Xy;have HN:=vR (λw' (hB:vV W w')=>Ztz W0 w' C M b xs cl db q _ hD (hC.below hB) (hP.below hB) hq hk.1 hk.2);have Ap:Hid (GQ db (.zK q) xs cl=(wiP db q xs cl).map λw=>(.zK,w.1,w.2.1,w.2.2.2)):=by show _=_;rw[GQ]
 generalize GQ db (.zK q) xs cl=res at *;have ta:=ZTf (.agg #[.iface vn vy]);have tb:=ZTg (.agg #[.iface vn vy]);have tc:=ZTh (.agg #[.iface vn vy]);have td:=ZTi (.agg #[.iface vn vy]);have te:=ZTj (.agg #[.iface vn vy]);clear hD hC hP hq hk;unfold vU at *;go_enter func95,ntmps95;go_wp2_with fail;have xA:vV W (W.alloc (.cells #[.iface vn vy] 353)):=Cy _ _;refine(HN.out _ xA).mono ?_;rintro en w1 (⟨wO,wV⟩|⟨q1,es,cs,Cb,w,tv,xz,rfl,LW,D9,zM,hP2,CE,hF2⟩)
 ·exact Z0y
 have HR:Hid (res=some (.zK,q1,es,Cb)):=by show _=_;rw[Ap.out,xz];try rfl
 have HH:Hid (RP W0 w1 w q1 es/\yS W0 w1 b ⟨xs,none,none⟩/\yL W0 C M Cb w1/\CF W w1):=⟨LW,hP2,CE,(CF.vZ xA).trans hF2⟩;have OC:=vR (ZQj w1 w);obtain⟨ta',tc',rfl⟩:∃a c,tv= .slice a cs.length c:=by obtain⟨a,c,e,_⟩:=D9;exact⟨a,c,e⟩
 unfold vU at OC;clear xz LW D9 hP2 CE hF2;unfold vU;go_wp2_with fail;refine OC.out.mono ?_;rintro en w2 ⟨f,rfl,yj,wK⟩;obtain⟨K2,yZ,rfl,_⟩:=yj.func;have Bz:=vR yj;clear yj;go_wp2_with fail;go_ret;exact .inr ⟨_,q1,es,_,K2,yZ,w,HR.out,rfl,Bz.out,HH.out.1.cf (CF.vZ wK) (KT.vZ wK),HH.out.2.1.below wK,HH.out.2.2.1.below wK,HH.out.2.2.2.trans (CF.vZ wK)⟩
def ZTR(x)(s h)(q):Zbo (.BK x s h q):=by
 intro W0 W C M b xs cl db v hD hC hP hT hk;obtain⟨qv,rfl,hq⟩:=hT;obtain⟨k1,k2,k3,k4,k5⟩:=hk;have HN:=vR (λw' (hB:vV W w')=>ZtM W0 w' C M b xs cl db x s h q qv k5 hD (hC.below hB) (hP.below hB) k1 k2 hq k3 k4);have Ap:Hid (GQ db (.BK x s h q) xs cl=Yc db x s h q xs cl):=by show _=_;rw[GQ]
 rw[Ap.out];generalize Yc db x s h q xs cl=res at *;obtain⟨vn,vy,rfl⟩:=hq.Xy;obtain⟨xn,xy,hxv⟩:=Gq x;rw[hxv]at HN ⊢;have ta:=ZTB (.agg #[.iface vn vy,.iface xn xy,.string ⟨s.toArray⟩,.string ⟨h.toArray⟩]);have tb:=ZTC (.agg #[.iface vn vy,.iface xn xy,.string ⟨s.toArray⟩,.string ⟨h.toArray⟩]);have tc:=ZTD (.agg #[.iface vn vy,.iface xn xy,.string ⟨s.toArray⟩,.string ⟨h.toArray⟩]);have td:=ZTE (.agg #[.iface vn vy,.iface xn xy,.string ⟨s.toArray⟩,.string ⟨h.toArray⟩]);have te:=ZTF (.agg #[.iface vn vy,.iface xn xy,.string ⟨s.toArray⟩,.string ⟨h.toArray⟩]);have tf:=ZTG (.agg #[.iface vn vy,.iface xn xy,.string ⟨s.toArray⟩,.string ⟨h.toArray⟩]);have tg:=ZTH (.agg #[.iface vn vy,.iface xn xy,.string ⟨s.toArray⟩,.string ⟨h.toArray⟩]);clear hD hC hP hq k1 k2 k3 k4 k5 hxv Ap;unfold vU at *;go_enter func95,ntmps95;go_wp2_with fail;generalize yn:W.alloc (.cells #[.iface vn vy,.iface xn xy,.string ⟨s.toArray⟩,.string ⟨h.toArray⟩] 362)=Wp;have xA:vV W Wp:=by rw[<-yn];exact Cy _ _
 have yX:Wp.heap[W.heap.size]? =some (.cells #[.iface vn vy,.iface xn xy,.string ⟨s.toArray⟩,.string ⟨h.toArray⟩] 362):=by rw[<-yn];exact xI W _
 clear yn;refine(HN.out _ xA).mono ?_;intro en w1 IG;have HE:=vR (IG.from xA);rcases IG with⟨wO,wV⟩|⟨p,q,es,cl',Kf,cp,w,xz,rfl,hf,LW,wP,zG,yQ⟩
 ·exact lX
 clear xz hf LW wP zG yQ;go_wp2_with fail;go_ret;exact HE.out
def ZTP(x)(n)(q):Zbo (.zU x n q):=by
 intro W0 W C M b xs cl db v hD hC hP hT hk;obtain⟨qv,rfl,hq⟩:=hT;obtain⟨k1,k2,k3,k4⟩:=hk;have HN:=vR (λw' (hB:vV W w')=>ZtM W0 w' C M b xs cl db x [61] [97,110,121] q qv (.inl rfl) hD (hC.below hB) (hP.below hB) k1 k2 hq k3 k4);have Ap:Hid (GQ db (.zU x n q) xs cl=(Yc db x [61] [97,110,121] q xs cl).map λr=>(Zau n r.1,r.2)):=by show _=_;rw[GQ]
 generalize GQ db (.zU x n q) xs cl=res at *;obtain⟨vn,vy,rfl⟩:=hq.Xy;obtain⟨xn,xy,hxv⟩:=Gq x;rw[hxv]at HN ⊢;have ta:=ZTk (.agg #[.iface vn vy,.iface xn xy,.bool n]);have tb:=ZTl (.agg #[.iface vn vy,.iface xn xy,.bool n]);have tc:=ZTm (.agg #[.iface vn vy,.iface xn xy,.bool n]);have td:=ZTn (.agg #[.iface vn vy,.iface xn xy,.bool n]);have te:=ZTo (.agg #[.iface vn vy,.iface xn xy,.bool n]);have tf:=ZTp (.agg #[.iface vn vy,.iface xn xy,.bool n]);clear hD hC hP hq k1 k2 k3 k4 hxv;unfold vU at *;go_enter func95,ntmps95;go_wp2_with fail;generalize yn:W.alloc (.cells #[.iface vn vy,.iface xn xy,.bool n] 359)=Wp;have xA:vV W Wp:=by rw[<-yn];exact Cy _ _
 have yX:Wp.heap[W.heap.size]? =some (.cells #[.iface vn vy,.iface xn xy,.bool n] 359):=by rw[<-yn];exact xI W _
 clear yn;obtain⟨c0,c1,c2⟩:=xh yX;refine vM (S:=λw'=>w'.cell? ⟨W.heap.size,0,none⟩=some (.iface vn vy)/\w'.cell? ⟨W.heap.size,1,none⟩=some (.iface xn xy)/\w'.cell? ⟨W.heap.size,2,none⟩=some (.bool n)) af ⟨by exact c0,by exact c1,by exact c2⟩ (λwL=>?_);refine tk 0 ?_;refine tk 1 ?_;refine tk 2 ?_;refine tk 3 ?_;refine tk 4 ?_;refine tk 5 ?_;refine tk 6 ?_;refine tk 7 ?_;refine tk 8 ?_;refine og (rs:= [9]) af ae (nZ rfl (λK hK=>?_) oh);go_simp;refine(HN.out _ (yF xA 1)).mono ?_;rintro en w1 (⟨wO,wV⟩|⟨p,q1,es,cl',Kf,cp,w,xz,rfl,hf,LW,wP,zG,yQ⟩)
 ·exact Z0y
 have HR:Hid (res=some (Zau n p,q1,es,cl')):=by show _=_;rw[Ap.out,xz];try rfl
 have yG:=yQ.cells dJ O;have HH:Hid (RP W0 w1 w q1 es/\yS W0 w1 b ⟨xs,none,none⟩/\yL W0 C M cl' w1/\CF W w1):=⟨LW,wP,zG,(CF.vZ (yF xA 1)).trans yQ⟩;clear xz LW wP zG yQ;refine hK.out _ _ ⟨by exact(xh yG).1,by exact(xh yG).2.1,by exact(xh yG).2.2⟩ (λwL=>?_);clear hK K;refine og (rs:= [10]) af ae (nZ rfl (λK hK=>?_) oh);go_simp;refine(Ztv w1 (some w) n _ Kf cp hf).mono ?_;rintro en w3 ⟨f,rfl,JF,wH⟩;obtain⟨K3,YZ,rfl,_⟩:=JF.func;have EI:=xq wH yG;refine hK.out _ _ ⟨by exact(xh EI).1,by exact(xh EI).2.1,by exact(xh EI).2.2⟩ (λwL=>?_);clear hK K;refine tk 11 ?_;refine oP af ?_ _;have JX:=vR JF;clear hf JF;go_wp2_with fail;go_ret;exact .inr ⟨_,q1,es,_,K3,YZ,w,HR.out,rfl,JX.out,HH.out.1.cf (CF.vZ wH) (KT.vZ wH),HH.out.2.1.below wH,HH.out.2.2.1.below wH,HH.out.2.2.2.trans (CF.vZ wH)⟩
theorem ZAI:∀c,Zbo c
 | .flat c=>λ_ _ _ _ _ _ _ _ _ _ _ _ _ h=>h.elim
 | .xJ c=>ZTQ c (ZAI c)
 | .zK q=>ZTO q
 | .zU x n q=>ZTP x n q
 | .BK x s h q=>ZTR x s h q
def ZSq(W0 W)(C M)(db)(d)(vY)(ia)(ic)(ps)(sg Bg)(gs)(ga)(zx)(c)(wv)(hv)(cl)(hD:JV W0 M db)(hC:yL W0 C M cl W)(hIt:Nj W0 (.slice ia vY.length ic) vY)(Hr:vY.length<=400)(Zcl:∀p∈vY,Gp p.1)(hSr:J2 W0 (some ⟨sg,0,none⟩) ps)(II:ps.length<=400)(Br:∀p∈ps,p.1.length<=1000/\p.2.length<=1000)(hGr:J2 W0 ga gs)(xL:gs.length<=400)(SH:∀p∈gs,p.2.length<=1000)(hvk:Q5 hv)(hT:RO W0 c wv)(Av:okT c)(hw:∃n y,wv= .iface n y)(hr:F5 hv+La vY<=400)(A7:KP vY gs=false):
  Calls prog 41 #[vU C,.iface 181 (.agg #[.bool d,.slice ia vY.length ic,.slice (some ⟨sg,0,none⟩) ps.length Bg,wv,.slice ga gs.length zx,cV hv]),.pointer none] W
   (TZ W0 W C M (.pointer none) (KP vY gs|| !false) (λW' wb=>∀xs p q es cl',M6 db ps=some xs->GQ db c xs cl=some (p,q,es,cl')->∃w,wb=some w/\RP W0 W' w q es) (Rj db d vY ps gs hv (λxs=>(GQ db c xs cl).map λr=>(r.1,⟨xs,none,none⟩,r.2.2.2)))):=by
 refine ZzO W0 W C M d ia vY.length ic _ ps.length Bg wv ga gs.length zx (cV hv) none _ _ _ (.inr hw) (ZhT _) (λw' hB=>?_);refine Zty W0 w' C M cl db d vY ia ic ps sg Bg gs ga zx wv hv none none _ false _ hD (hC.below hB) rfl hIt Hr Zcl hSr II Br hGr xL SH (.inr hw) hvk (λxs b w2 hxs CE hP2 _=>?_) (λxs p e1 Ac _ DR=>?_) (λa c' wb h hc hg=>?_)
 ·refine(ZAI c W0 w2 C M b xs cl db wv hD CE hP2 hT Av).mono ?_;rintro en W' (⟨hn,ht⟩|⟨p,q,es,cl',K,cap,w,h1,h2,h3,h4,h5,h6,h7⟩)
  ·exact jh
  ·refine .inr ⟨p,⟨xs,none,none⟩,cl',K,cap,some w,by rw[h1];try rfl,h2,h3,h5,h6,h7,(λh=>nomatch h),λxs' p' q' es' ZWf hx' SV=>?_⟩;rw[hxs]at hx';cases hx';rw[h1]at SV;cases SV;exact⟨w,rfl,h4⟩
 ·obtain⟨r,_,h2⟩:=pO.1 DR;cases h2;exact⟨by simp[room];omega,rfl,rfl⟩
 ·intro xs p q es cl' h1 h2;obtain⟨w,e,LW⟩:=h xs p q es cl' h1 h2;exact⟨w,e,LW.cf hc (hg A7)⟩
def Tryz.Zpd:(prog.info? 9).map (λi=>(i.zero,i.size,i.bytes))=some (some (.string ⟨#[]⟩),1,16):=by kernel_rfl
def Zr5(W0:World)(e:Ending)(W':World):Prop:=∃b,e= .panicked (ZgK b)/\W'.heap[b]? =some (.cells #[.int .i64 6,.int .i64 0] 58)/\W0.heap.size<=b/\vV W0 W'
def Zax{B' ty n:Nat}{v:Value}{xs:List Value}(h:W.ownsRow B ty sz v n xs)(hb:B'<=B):W.ownsRow B' ty sz v n xs:=by
 refine⟨h.1,?_⟩;rcases h.2 with h0|⟨g,cap,cur,e,hg,r⟩
 ·exact jg
 ·exact .inr ⟨g,cap,cur,e,om hb hg,r⟩
def DV(l:List vS):List Value:=l.map λs=>Value.string ⟨s.toArray⟩
def QyR(W0:World)(C M:Nat)(res:Option (List (vS×Nat)×Bool))(R:World->Value->Prop)(en:Ending)(W':World):Prop:=
 (res=none/\Gx W0 en W')\/∃cs cl n y tv,res=some (cs,cl)/\en= .returned (.tuple #[.iface n y,tv])/\Io W' tv cs/\cs.length<=1000/\yL W0 C M cl W'/\R W' (.iface n y)
def CqR(W:World)(res:Option (List (vS×Nat)×Bool))(R:World->Value->Prop)(en:Ending)(W':World):Prop:=
 (res=none/\Gx W en W')\/(∃cs,res=some (cs,true)/\Zr5 W en W')\/∃cs v tv,res=some (cs,false)/\en= .returned (.tuple #[v,tv])/\R W' v/\W'.ownsRow W.heap.size 9 1 tv cs.length (DV (cs.map (·.1)))/\vV W W'
def Zto(W)(M)(vn)(vy)(res)(R)(hR:∀a c v,R a v->vV a c->R c v)(hq:∀w' C,yL W C M false w'->Calls prog 41 #[vU C,.iface vn vy,.pointer none] w' (QyR W C M res R)):
  Calls prog 20 #[.map (some M),.iface vn vy] W (CqR W res R):=by
 have wE:=Cy W (.cells #[.map (some M),.bool false] 113);have yG:=xI W (.cells #[.map (some M),.bool false] 113);have HQ:=vR (hq _ W.heap.size ⟨wE,nV _,yG⟩);have HR:=vR hR;clear hq yG hR;obtain⟨i0,hi,hz0,yo,hz2⟩:=oM Tryz.Zpd;unfold vU at *;go_enter func20,ntmps20;go_wp2_with fail;generalize W.alloc (.cells #[.map (some M),.bool false] 113)=W1 at *;refine HQ.out.mono ?_;rintro en w2 (⟨wO,wV⟩|⟨cs,cl,qn,qy,tv,xz,rfl,D9,zM,CE,KQ⟩)
 ·have yD:=vR wO;exact lu
 have BQ:=CE.low;obtain⟨c0,c1,_,_⟩:=wS CE.obj;have YF:=vR xz;have Me:=vR KQ;have HCO:Hid (∀w',vV w2 w'->∀i (h:i<cs.length),∃a cap g,tv= .slice a cs.length cap/\a=some ⟨g,0,none⟩/\w'.cell? ⟨g,i*2,none⟩=some (.string ⟨cs[i].1.toArray⟩)/\w'.cell? ⟨g,i*2+1,none⟩=some (.int .i64 (cs[i].2:Nat))):=λw' hB i h=>by
  obtain⟨a,cap,e,hx⟩:=D9.kt (KT.vZ hB);obtain⟨g,cu,e2,_,q0,q1⟩:=hx i h;exact⟨a,cap,g,e,e2,q0,q1⟩
 obtain⟨ta,tc,rfl⟩:∃a c,tv= .slice a cs.length c:=by obtain⟨a,c,e,_⟩:=D9;exact⟨a,c,e⟩
 clear xz KQ D9 HQ CE;cases cl with
 |true=>
  go_wp2_with fail;refine(ZqF 6 0 _).mono ?_;rintro e w' ⟨rfl,rfl⟩;go_wp2;exact⟨rfl,.inr (.inl ⟨cs,YF.out,w2.heap.size,rfl,xI _ _,BQ.size,BQ.trans ((Cy _ _).mono BQ.size)⟩)⟩
 |false=>
  go_wp2_with fail;clear c0 c1;go_loopg [9,28] (cs.length+1) (λgk nv iv wr=>∃k:Nat,k<=cs.length/\gk=cs.length-k+1/\iv= .int .i64 k/\wr.ownsRow w2.heap.size 9 1 nv k (DV ((cs.take k).map (·.1)))/\vV w2 wr);case atStart=>exact⟨0,Z,Z,rfl,pV _ _ _ _,nW _ _⟩
  case round=>
   obtain⟨k,hk,rfl,rfl,wD,hB⟩:=hrel;by_cases hlt:k<cs.length
   ·obtain⟨a,cap,g,e1,e2,q0,q1⟩:=HCO.out wr hB k hlt;cases e1;subst e2;have HTS:Hid (DV ((cs.take (k+1)).map (·.1))=DV ((cs.take k).map (·.1))++ [.string ⟨cs[k].1.toArray⟩]):=by show _=_;rw[o8 hlt];unfold DV;rw[oo,oo];try rfl
    generalize DV ((cs.take k).map (·.1))=l at *;generalize cs[k].1=nm at *;generalize cs[k].2=ct at *;obtain⟨ua,uc,rfl⟩:=yN wD;have hsw:=hB.size;have zA:vV w2 (wr.alloc (.cells #[.string ⟨nm.toArray⟩,.int .i64 (ct:Nat)] 119)):=hB.alloc hsw _;go_wp2_with (at_builtin;go_must (refine pE _ rfl _ _ 24 rfl w2.heap.size 9 i0 (.string ⟨#[]⟩) 1 16 underlying24 hi hz0 yo hz2 rfl O (.slice ua k uc) k l rfl ((wD.alloc _).alloc _) ⟨wr.heap.size+1,0,none⟩ 1 1 [.string ⟨nm.toArray⟩] rfl rfl (by have hq:=Zes (wr.alloc (.cells #[.string ⟨nm.toArray⟩,.int .i64 (ct:Nat)] 119)) (.string ⟨nm.toArray⟩) 9;rw[uP]at hq;exact hq) au aj Z ah ?_);intro v' w6 zm xQ _);go_roundg (cs.length-(k+1)+1);case measure=>omega
    case rel=>
     have Gf:=Zbx zA ah (wD.alloc _) xQ;exact⟨k+1,Z,rfl,aG,by rw[HTS.out];exact zm,Gf⟩
   ·obtain rfl:k=cs.length:=by omega
    rw[oO (nV _)]at wD;have JY:=vR (Zax wD BQ.size);obtain⟨ua,uc,rfl⟩:=yN wD;clear wD;go_wp2_with fail;go_ret2;exact .inr (.inr ⟨cs,_,_,YF.out,rfl,HR.out _ _ _ Me.out hB,JY.out,BQ.trans (hB.mono BQ.size)⟩)
def ZFm(W)(M)(db)(q)(v)(hD:JV W M db)(hq:Jy W q v)(hk:Px q)(yA:IV q<=400):
  Calls prog 20 #[.map (some M),v] W (CqR W ((GM db q none false).map λr=>(r.2.1,r.2.2.2)) (λW' v'=>∀r,GM db q none false=some r->∃S,AX W' r.1 v' S/\∀g∈S,W.heap.size<=g)):=by
 obtain⟨vn,vy,rfl⟩:=hq.Xy;refine Zto W M vn vy _ _ (λa c v h hB r hr=>?_) (λw' C hC=>?_)
 ·obtain⟨S,hS,hl⟩:=h r hr;exact⟨S,hS.below hB,hl⟩
 ·refine(Zkn q W w' C M false db none none _ hD hC rfl hq hk (by simpa[PG]using yA)).mono ?_;rintro en W' (⟨hn,ht⟩|⟨pq,cs,o',cl',v',tv,S,h1,h2,h3,hSl,⟨n,y,e⟩,h5,h6,_,h8,_⟩)
  ·exact jh
  ·subst e;exact .inr ⟨cs,cl',n,y,tv,by rw[h1];try rfl,h2,h5,h6,h8,λr hr=>by rw[h1]at hr;cases hr;exact⟨S,h3,λg hg=>om hC.low.size (hSl g hg)⟩⟩
def ZFn(W)(M)(db)(d)(vY)(ia)(ic)(ps)(sg Bg)(gs)(ga)(zx)(c)(wv)(hv)(hD:JV W M db)(hIt:Nj W (.slice ia vY.length ic) vY)(Hr:vY.length<=400)(Zcl:∀p∈vY,Gp p.1)(hSr:J2 W (some ⟨sg,0,none⟩) ps)(II:ps.length<=400)(Br:∀p∈ps,p.1.length<=1000/\p.2.length<=1000)(hGr:J2 W ga gs)(xL:gs.length<=400)(SH:∀p∈gs,p.2.length<=1000)(hvk:Q5 hv)(hT:RO W c wv)(Av:okT c)(hw:∃n y,wv= .iface n y)(hr:F5 hv+La vY<=400)(A7:KP vY gs=false):
  Calls prog 20 #[.map (some M),.iface 181 (.agg #[.bool d,.slice ia vY.length ic,.slice (some ⟨sg,0,none⟩) ps.length Bg,wv,.slice ga gs.length zx,cV hv])] W
   (CqR W ((Rj db d vY ps gs hv (λxs=>(GQ db c xs false).map λr=>(r.1,⟨xs,none,none⟩,r.2.2.2))).map λr=>(r.2.1,r.2.2.2))
    (λW' v'=>∀r,Rj db d vY ps gs hv (λxs=>(GQ db c xs false).map λr=>(r.1,⟨xs,none,none⟩,r.2.2.2))=some r->∀xs p q es cl',M6 db ps=some xs->GQ db c xs false=some (p,q,es,cl')->∃sb x w qv nv S,v'= .iface 211 (vU sb)/\Eg W' sb x r.1 (some w) false/\W'.heap[w]? =some (.cells #[qv,nv] 459)/\Gs W' nv es/\AX W' q qv S/\sb∉S/\W.heap.size<=sb/\∀g∈S,W.heap.size<=g)):=by
 refine Zto W M _ _ _ _ (λa c' v h hB r Dw xs p q es cl' h1 h2=>?_) (λw' C hC=>?_)
 ·obtain⟨sb,x,w,qv,nv,S,e,q1,q2,q3,q4,q5⟩:=h r Dw xs p q es cl' h1 h2;exact⟨sb,x,w,qv,nv,S,e,q1.same (KT.vZ hB) iQ,xq hB q2,q3.same (KT.vZ hB),q4.below hB,q5⟩
 ·refine(ZSq W w' C M db d vY ia ic ps sg Bg gs ga zx c wv hv false hD hC hIt Hr Zcl hSr II Br hGr xL SH hvk hT Av hw hr A7).mono ?_;rintro en W' (⟨hn,ht⟩|⟨s,cs,e',cl',sb,x,tv,wb,h1,h2,h3,yE,h5,h5',_,h7,_,_,hX,W3,Lv,C8,FX⟩)
  ·exact jh
  ·refine .inr ⟨cs,cl',_,_,tv,by rw[h1];try rfl,h2,h5,h5',h7,λr Dw xs p q es Cb k1 k2=>?_⟩;rw[h1]at Dw;cases Dw;obtain⟨w,e,qv,nv,S,m1,m2,m3,m4⟩:=hX xs p q es Cb k1 k2;obtain⟨w3,e3,qv3,nv3,S3,n1,n2,n3,n4⟩:=Lv xs p q es Cb k1 k2;subst e;cases e3;have:=FX.cells n1 O;rw[m1]at this;cases this;have hSS:=AX.uniq FX n3 m3;subst hSS;refine⟨sb,x,w,qv,nv,S3,rfl,h3,m1,m2,m3,λhm=>?_,om hC.low.size yE,n4⟩;obtain⟨cu,hb,_⟩:=n3.bs sb hm;have:=(wo hb);omega
def ZPj(a)(n c)(w):(binOp .eql 78 (.slice (some a) n c) (.slice none 0 0)).run prog w= .ok (.bool false) w:=by kernel_rfl
def ZPi(a)(n c)(w):(binOp .eql 24 (.slice (some a) n c) (.slice none 0 0)).run prog w= .ok (.bool false) w:=by kernel_rfl
def Z0z{p:Prop}(h:p:=by
 have Gf:=(wE).grown xQ wE.size (λb e=>(UZ.lt b e).1);go_ret;exact⟨_,rfl,dm,Gf⟩):p:=h
def ZIm(W)(v)(vs)(hv:xD W v vs)(h0:0<vs.length)(hl:vs.length<=1000):
  Calls prog 52 #[v] W λe W'=>∃v',e= .returned v'/\W'.ownsRow W.heap.size 80 1 v' vs.length (vs.map xe)/\vV W W':=by
 obtain⟨i0,zB,hz0,yo,hz2⟩:=oM Tryz.U6;have HV:=vR hv;obtain⟨a,cap,rfl,hc,hm,hx⟩:=hv;obtain⟨g,o,cu,rfl,hg,_⟩:=hx 0 h0;clear hx;have NW:=ZPj;have wE:vV W (W.alloc (.cells #[] 80)):=(nW _ W).alloc (nV _) _;have UZ:(W.alloc (.cells #[] 80)).ownsRow W.heap.size 80 1 (.slice (some ⟨W.heap.size,0,none⟩) 0 0) 0 []:=vO W #[] 0 (nV _) aj rfl;go_enter func52,ntmps52;go_wp2_with (at_builtin;go_must (refine pE _ rfl _ _ 78 rfl W.heap.size 80 i0 .nilIface 1 16 underlying78 zB hz0 yo hz2 rfl O _ 0 [] rfl UZ ⟨g,o,none⟩ vs.length cap (vs.map xe) rfl ae (ZqN HV.out wE) (ZqM vs) aj Z ae ?_);intro v' w6 zm xQ _);exact Z0z
def RN(W:World)(v:Value)(l:List vS):Prop:=∃g o cap cu,v= .slice (some ⟨g,o,none⟩) l.length cap/\W.heap[g]? =some (.cells cu 9)/\∀i (h:i<l.length),W.cell? ⟨g,o+i,none⟩=some (.string ⟨l[i].toArray⟩)
def RN.same{v}{l}(h:RN W v l)(hk:∀(g:Nat) cu,W.heap[g]? =some (.cells cu 9)->W'.heap[g]? =some (.cells cu 9)):RN W' v l:=by
 obtain⟨g,o,cap,cu,e,hg,hc⟩:=h;have ML:=hk g cu hg;exact⟨g,o,cap,cu,e,ML,λi hi=>(pK (ML.trans hg.symm)).trans (hc i hi)⟩
def RN.below{v}{l}(h:RN W v l)(hB:vV W W'):RN W' v l:=h.same λg cu e=>xq hB e
def Zpz{v:Value}{l:List vS}(h:W.ownsRow B 9 1 v l.length (DV l))(h0:0<l.length):RN W v l:=by
 rcases h.2 with⟨rfl,h1⟩|⟨g,cap,cur,rfl,hb,hh,hc,hm,_⟩
 ·omega
 ·refine⟨g,0,cap,cur,rfl,hh,λi hi=>?_⟩;have h1:=h.cells (g:=g) rfl i (.string ⟨l[i].toArray⟩) (by simp[DV,hi]);rw[uY]at h1;exact h1
def ZSV(l):∀u∈DV l,u.oneCell'=true:=λu h=>by
 obtain⟨s,_,rfl⟩:=qm.1 h;rfl
def ZSX{g o c:Nat}{l:List vS}(h:RN W (.slice (some ⟨g,o,none⟩) l.length c) l)(hB:vV W W'):∀j u,(DV l)[j]? =some u->W'.cell? ((⟨g,o,none⟩:Addr).add j)=some u:=by
 obtain⟨g',o',zY,cu,e,hg,hc⟩:=h;cases e;intro j u hj;unfold DV at hj;rw[rP]at hj;cases hv:l[j]? with
 |none=>rw[hv]at hj;cases hj
 |some s=>
  rw[hv]at hj;cases hj;obtain⟨hl,hv'⟩:=qP.1 hv;rw[uY,<-hv'];exact wT hB (wo hg) (hc j hl)
def ZIl(W)(v)(l)(hv:RN W v l)(h0:0<l.length)(hl:l.length<=1000):
  Calls prog 24 #[v] W λe W'=>∃v',e= .returned v'/\W'.ownsRow W.heap.size 9 1 v' l.length (DV l)/\vV W W':=by
 obtain⟨i0,zB,hz0,yo,hz2⟩:=oM Tryz.Zpd;have HV:=vR hv;obtain⟨g,o,cap,cu,rfl,hg,_⟩:=hv;have NW:=ZPi;have wE:vV W (W.alloc (.cells #[] 9)):=(nW _ W).alloc (nV _) _;have UZ:(W.alloc (.cells #[] 9)).ownsRow W.heap.size 9 1 (.slice (some ⟨W.heap.size,0,none⟩) 0 0) 0 []:=vO W #[] 0 (nV _) aj rfl;go_enter func24,ntmps24;go_wp2_with (at_builtin;go_must (refine pE _ rfl _ _ 24 rfl W.heap.size 9 i0 (.string ⟨#[]⟩) 1 16 underlying24 zB hz0 yo hz2 rfl O _ 0 [] rfl UZ ⟨g,o,none⟩ l.length cap (DV l) rfl (by simp[DV]) (ZSX HV.out wE) (ZSV l) aj Z ae ?_);intro v' w6 zm xQ _);exact Z0z
def Jz(W:World)(r:Nat)(wu:List vS)(rows:List (List wG)):Prop:=∃cv rv,W.heap[r]? =some (.cells #[cv,rv] 72)/\RN W cv wu/\FN W rv rows
def ZzT(W)(r)(wu)(rows)(h:Jz W r wu rows)(h0:0<wu.length)(hl:wu.length<=1000):
  Calls prog 11 #[vU r] W λe W'=>∃v',e= .returned v'/\W'.ownsRow W.heap.size 9 1 v' wu.length (DV wu)/\vV W W':=by
 obtain⟨cv,rv,hr,hc,_⟩:=h;have HC:=vR (ZIl W cv wu hc h0 hl);obtain⟨g,o,cap,cu,rfl,hg,_⟩:=hc;have c0:=xH hr;unfold vU;go_enter func11,ntmps11;go_wp2_with fail;refine HC.out.mono ?_;rintro e w1 ⟨v',rfl,wD,hB⟩;have HO:=vR wD;obtain⟨ua,uc,rfl⟩:=yN wD;clear wD;go_wp2_with fail;go_ret;exact⟨_,rfl,HO.out,hB⟩
def ZRQ(W)(r):Calls prog 25 #[vU r] W λe W'=>e= .returned (.func (.func 51) #[] #[vU W.heap.size])/\W'=W.alloc (.cells #[vU r] 40):=by
 have BD:∀(fn:Fn) (first cap:Array Value) (w:World),(Instr.makeFunc fn first cap).run prog w= .ok (.func fn first cap) w:=λ_ _ _ _=>rfl;unfold vU;go_enter func25,ntmps25;exact kN
structure ZDm (n m:Nat) (b:Nat->Bool):Prop where
 le:n<=m
 yes:∀i,i+1<n->b i=true
 fin:(n=m/\∀i,i<n->b i=true)\/(0<n/\b (n-1)=false)
def ZRR(W:World)(pb:Nat)(r)(cv rv:Value)(rows)(K)(cap:Array Value)(n:Nat)(b:Nat->Bool)(J:Nat->World->Prop)(hp:W.heap[pb]? =some (.cells #[vU r] 40))(hr:W.heap[r]? =some (.cells #[cv,rv] 72))(Pk:FN W rv rows)(hlen:rows.length<=2000)(A9:∀row∈rows,0<row.length/\row.length<=1000)(hE:yH K)(Ny:J 0 W)(hJk:∀i W',J i W'->W.heap.size<=W'.heap.size/\KT [80,78] W W')(Xa:∀i a c,J i a->vV a c->J i c)(hy:∀i (hi:i<rows.length) W' v,i<n->J i W'->W'.ownsRow W.heap.size 80 1 v rows[i].length (rows[i].map xe)->Calls prog K (#[v]++cap) W' λe W2=>e= .returned (.bool (b i))/\J (i+1) W2)(hg:ZDm n rows.length b):
  Calls prog 51 #[.func (.func K) #[] cap,vU pb] W λe W'=>e= .returned (.tuple #[])/\J n W':=by
 have cp:=xH hp;have cr:=zS hr;have Mh:=vR Pk;obtain⟨ra,rc,rfl,_⟩:=Pk;have Yw:=vR Ny;have HJk:=vR hJk;have HJb:=vR Xa;have HY:=vR hy;have HG:=vR hg;have xL:=hg.le;clear hp hr Ny hJk Xa hy hg;unfold yH at hE;unfold vU at *;go_enter func51,ntmps51;go_wp2_with fail;go_loopg [10] (n+1) (λgk iv wr=>∃k:Nat,k<=n/\gk=n-k+1/\iv= .int .i64 k/\Hid (J k wr/\(k=n->n=rows.length)));case atStart=>
  refine⟨0,Z,Z,rfl,Yw.out,λh=>?_⟩;rcases HG.out.fin with⟨h1,_⟩|⟨h1,_⟩
  ·exact h1
  ·omega
 case round=>
  obtain⟨k,hk,rfl,rfl,hJ⟩:=hrel;by_cases hlt:k<rows.length
  ·have hkn:k<n:=by
    rcases sj k n with h|h
    ·exact h
    ·have:=hJ.out.2 Z;omega
   obtain⟨yA,NP⟩:=HJk.out k wr hJ.out.1;obtain⟨ra',rc',e1,_,_,hx⟩:=id Mh.out;cases e1;obtain⟨g,o,cu,rv1,rfl,Ea,hgc,ZxG⟩:=hx k hlt;have Zwz:=NP g cu _ ae Ea;have ZXf:=(pK (Zwz.trans Ea.symm)).trans hgc;have ZxH:=ZxG.same NP ae;have Zxn:=A9 _ (oC hlt);have HC:=vR (ZIm wr rv1 rows[k] ZxH Zxn.1 Zxn.2);obtain⟨va,vc,rfl,_⟩:=ZxG;clear hx Ea hgc ZxH NP Zwz;go_wp2_with fail;refine HC.out.mono ?_;rintro e w1 ⟨v',rfl,wD,wE⟩;have PZ:=vR (HY.out k hlt w1 v' hkn (HJb.out _ _ _ hJ.out.1 wE) (Zax wD yA));obtain⟨ua,uc,rfl⟩:=yN wD;clear wD;go_wp2_with fail;refine PZ.out.mono ?_;rintro e w2 ⟨rfl,GA⟩;have Rz:=vR GA;clear GA HC PZ;have HBK:Hid ((b k=true/\(k+1=n->n=rows.length))\/(b k=false/\k+1=n)):=by
    cases hbk:b k with
    |true=>
     refine .inl ⟨rfl,λh=>?_⟩;rcases HG.out.fin with⟨h1,_⟩|⟨h1,h2⟩
     ·exact h1
     ·rw[show n-1=k from Z,hbk]at h2;cases h2
    |false=>
     refine .inr ⟨rfl,?_⟩;rcases sj (k+1) n with h|h
     ·have:=HG.out.yes k h;rw[hbk]at this;cases this
     ·omega
   generalize b k=bk at *;rcases HBK.out with⟨rfl,EH⟩|⟨rfl,EH⟩
   ·have HK2:=vR EH;clear EH HBK;go_wp2_with fail;go_roundg (n-(k+1)+1);case measure=>omega
    case rel=>exact⟨k+1,Z,rfl,aG,Rz.out,HK2.out⟩
   ·subst EH;go_wp2_with fail;exact uZ (rO rfl _ _ _) rfl ⟨rfl,Rz.out⟩
  ·obtain rfl:k=n:=by
    rcases sj k n with h|h
    ·omega
    ·omega
   go_wp2_with fail;go_end0;exact⟨rfl,hJ.out.1⟩
end Go.Proofs.YtncnkiabjhhclaaGreatDoor
