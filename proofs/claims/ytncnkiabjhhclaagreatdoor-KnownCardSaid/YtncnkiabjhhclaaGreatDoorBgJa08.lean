import Derived.Test.YtncnkiabjhhclaaGreatDoorBgJa00
set_option maxRecDepth 100000
set_option maxHeartbeats 8000000
set_option linter.all false
namespace Go.Proofs.YtncnkiabjhhclaaGreatDoor
open Go.Proofs.Tryz
variable{K:Act->World->Prop}{ops:Array Oper}{cur:Array Value}{Q:Exit->Act->World->Prop}{ix:Ix}{S:List Nat}{ts:List TypeId}{xs:List Value}{B bv m sz:Nat}{wb:Option Nat}{E:Prop}{ty:TypeId}{rn:Value}{W W' w' w1:World}
def uO{p:Prop}(h:p:=by kernel_rfl):p:=h
def uP:=@Go.World.size_alloc
def uQ:=@Go.RowKit.Below.refl
def jW{p:Prop}(h:p:=by go_enter func275,ntmps275;go_wp2;go_ret;exact⟨rfl,rfl⟩):p:=h
def ky{p:Prop}(h:p:=by go_wp2;go_ret2;exact⟨rfl,Below.refl _ _⟩):p:=h
def jZ{p:Prop}(h:p:=by go_enter func329,ntmps329;go_wp2;go_ret;exact⟨rfl,rfl⟩):p:=h
def uR{p:Prop}(h:p:=by go_wp2;go_ret;exact⟨rfl,rfl⟩):p:=h
def kz{p:Prop}(h:p:=by go_wp2;go_ret;exact⟨Zc9 bV,rfl⟩):p:=h
def mO{p:Prop}(h:p:=by rintro e w2 ⟨rfl,rfl⟩;go_wp2_with fail;go_ret2;exact⟨rfl,wE⟩):p:=h
def rJ:=@Go.run_make_row'
def uS:=@Go.World.cell?_alloc_lt
def uT:=@Go.Sem.run_bind
def uU:=@Go.run_underlying
def rA:=@Go.MapKept.run_getObj_map
def kJ{p:Prop}(h:p:=by go_wp2_with fail;go_ret;exact⟨by rw[F8.out];rfl,by rw[IZ.out];exact hvm,Qx⟩):p:=h
def uV:=@Go.info_parts
def uW:=@Go.wpList_append_own
def uX:=@Go.RowKit.Below.heap_setCell
def qz:=@Go.step_append_lies
open Go.RowKit
def vR{p:Prop}(h:p):Hid p:=h
def Jn(fn)(first cap)(w):(Instr.makeFunc fn first cap).run prog w= .ok (.func fn first cap) w:=rfl
def KT(ts:List TypeId)(W W':World):Prop:=∀(g:Nat) (cu:Array Value) (ty:TypeId),ty∈ts->W.heap[g]? =some (.cells cu ty)->W'.heap[g]? =some (.cells cu ty)
def KT.vZ(h:vV W W'):KT ts W W':=λg cu ty _ e=>xq h e
def Tf(op:vS):Nat:=if op= [43]then 331 else if op= [45]then 332 else if op= [42]then 333 else if op= [47]then 334 else 335
def vU(b:Nat):Value:=.pointer (some ⟨b,0,none⟩)
def IQ:List TypeId:= [80,3,345,246,514,510,433,396,354,218,31]
def zz(W:World):PX->Value->Prop
 | .lit v,f=>∃b,f= .func (.func 273) #[] #[vU b]/\W.heap[b]? =some (.cells #[xe v] 80)
 | .zO o p,f=>∃b c,f= .func (.func 274) #[] #[vU b,vU c]/\W.heap[b]? =some (.cells #[.int .i64 o] 3)/\W.heap[c]? =some (.cells #[.int .i64 p] 3)/\o<=1000000/\p<=1000000
 | .made k,f=>∃b,f= .func (.func 336) #[] #[vU b]/\W.heap[b]? =some (.cells #[.int .i64 k] 3)/\k<=1000000
 | .arith op l r,f=>∃b c d x y,f= .func (.func 276) #[] #[vU b,vU c,vU d]/\W.heap[b]? =some (.cells #[x] 345)/\W.heap[c]? =some (.cells #[y] 345)/\W.heap[d]? =some (.cells #[.func (.func (Tf op)) #[] #[]] 514)/\zz W l x/\zz W r y
theorem zz.same(h:KT IQ W W'):∀{e:PX} {f:Value},zz W e f->zz W' e f
 | .lit v,f,⟨b,h1,h2⟩=>⟨b,h1,h _ _ _ O h2⟩
 | .zO o p,f,⟨b,c,h1,h2,h3,h4⟩=>⟨b,c,h1,h _ _ _ O h2,h _ _ _ O h3,h4⟩
 | .made k,f,⟨b,h1,h2,h3⟩=>⟨b,h1,h _ _ _ O h2,h3⟩
 | .arith op l r,f,⟨b,c,d,x,y,h1,h2,h3,h4,h5,h6⟩=>⟨b,c,d,x,y,h1,h _ _ _ O h2,h _ _ _ O h3,h _ _ _ O h4,zz.same h h5,zz.same h h6⟩
def yH(K:Nat):Prop:=∀(args:Array Value) (w:World),(callFunc K args).run prog w= .ok (.enter K args) w
def Zuf:yH 273:=λ_ _=>uO
def Zua:yH 274:=λ_ _=>uO
def Zuh:yH 336:=λ_ _=>uO
def Zt9:yH 276:=λ_ _=>uO
def ZHx:yH 331:=λ_ _=>uO
def ZHf:yH 332:=λ_ _=>uO
def ZHs:yH 333:=λ_ _=>uO
def ZHt:yH 334:=λ_ _=>uO
def ZHu:yH 335:=λ_ _=>uO
def ZHr(op):yH (Tf op):=by
 unfold Tf;split
 ·exact ZHx
 split
 ·exact ZHf
 split
 ·exact ZHs
 split
 ·exact ZHt
 ·exact ZHu
theorem zz.func:∀{e:PX} {f:Value},zz W e f->∃K cap,f= .func (.func K) #[] cap/\yH K
 | .lit v,f,⟨b,h1,h2⟩=>⟨_,_,h1,Zuf⟩
 | .zO o p,f,⟨b,c,h1,h2,h3⟩=>⟨_,_,h1,Zua⟩
 | .made k,f,⟨b,h1,h2⟩=>⟨_,_,h1,Zuh⟩
 | .arith op l r,f,⟨b,c,d,x,y,h1,_⟩=>⟨_,_,h1,Zt9⟩
def xI(W:World)(o):(W.alloc o).heap[W.heap.size]? =some o:=oK W o
def J6(W:World)(o1 o2):((W.alloc o1).alloc o2).heap[W.heap.size]? =some o1/\((W.alloc o1).alloc o2).heap[W.heap.size+1]? =some o2:=
 ⟨(ow _ _ _ ae).trans (xI W _),by have:=xI (W.alloc o1) o2;rwa [uP]at this⟩
def OI(W:World)(o1 o2 o3):(((W.alloc o1).alloc o2).alloc o3).heap[W.heap.size]? =some o1/\(((W.alloc o1).alloc o2).alloc o3).heap[W.heap.size+1]? =some o2/\(((W.alloc o1).alloc o2).alloc o3).heap[W.heap.size+1+1]? =some o3:=
 ⟨(ow _ _ _ ah).trans (J6 W o1 o2).1,(ow _ _ _ ae).trans (J6 W o1 o2).2,by have:=xI ((W.alloc o1).alloc o2) o3;rwa [uP,uP]at this⟩
def Ui(W)(o1 o2 o3):vV W (((W.alloc o1).alloc o2).alloc o3):=(((uQ _ W).alloc (nV _) _).alloc ae _).alloc ah _
def YO(W:World)(e:PX)(en:Ending)(W':World):Prop:=∃f,en= .returned f/\zz W' e f/\vV W W'
def ZpF(W)(v):Calls prog 214 #[xe v] W (YO W (.lit v)):=by
 have BD:=Jn;obtain⟨n,y,hv⟩:∃n y,xe v= .iface n y:=by cases v<;>exact⟨_,_,rfl⟩
 have HV:=(show Hid _ from hv);rw[hv];clear hv;go_enter func214,ntmps214;go_wp2;go_ret;exact⟨_,rfl,⟨W.heap.size,rfl,by rw[HV.out];exact xI W _⟩,(uQ _ _).alloc (nV _) _⟩
def Zc0(W)(o p:Nat)(ho:o<=1000000)(hp:p<=1000000):Calls prog 216 #[.int .i64 o,.int .i64 p] W (YO W (.zO o p)):=by
 have BD:=Jn;go_enter func216,ntmps216;go_wp2;go_ret;exact⟨_,rfl,⟨W.heap.size,W.heap.size+1,rfl,(ow _ _ _ ae).trans (xI W _),by have:=xI (W.alloc (.cells #[.int .i64 o] 3)) (.cells #[.int .i64 p] 3);rwa [uP]at this,ho,hp⟩,((uQ _ _).alloc (nV _) _).alloc ae _⟩
def ZQu(W)(p:Nat)(hp:p<=1000000):Calls prog 278 #[.int .i64 p] W (YO W (.made p)):=by
 have BD:=Jn;go_enter func278,ntmps278;go_wp2;go_ret;exact⟨_,rfl,⟨W.heap.size,rfl,xI W _,hp⟩,(uQ _ _).alloc (nV _) _⟩
def ZQz(W)(s):Calls prog 275 #[.string ⟨s.toArray⟩] W λe w'=>e= .returned (.func (.func (Tf s)) #[] #[])/\W=w':=by
 have BD:=Jn;have nb:∀x:vS,¬s=x->(s==x)=false:=λx hx=>by simpa using hx
 have HO:Hid (Tf s=if s= [43]then 331 else if s= [45]then 332 else if s= [42]then 333 else if s= [47]then 334 else 335):=rfl;by_cases h1:s= [43]
 ·subst h1;exact jW
 have b1:=nb _ h1;by_cases h2:s= [45]
 ·subst h2;exact jW
 have b2:=nb _ h2;by_cases h3:s= [42]
 ·subst h3;exact jW
 have b3:=nb _ h3;by_cases h4:s= [47]
 ·subst h4;exact jW
 have b4:=nb _ h4;have HF:Hid (Tf s=335):=by show _=_;rw[HO.out,nU h1,nU h2,nU h3,nU h4]
 clear h1 h2 h3 h4 nb HO;go_enter func275,ntmps275;go_wp2;go_ret;exact⟨dV,rfl⟩
def Zzm(W)(s)(x y)(l r)(hx:zz W l x)(hy:zz W r y):Calls prog 219 #[.string ⟨s.toArray⟩,x,y] W (YO W (.arith s l r)):=by
 have BD:=Jn;have HX:=(show Hid _ from hx);have HY:=(show Hid _ from hy);obtain⟨K1,c1,rfl,_⟩:=hx.func;obtain⟨K2,c2,rfl,_⟩:=hy.func;clear hx hy;go_enter func219,ntmps219;go_wp2_with fail;refine(ZQz _ s).mono ?_;rintro e w1 ⟨rfl,rfl⟩;generalize xP:Tf s=K3;have HK3:=(show Hid _ from xP);clear xP;go_wp2_with fail;go_ret;obtain⟨a1,a2,a3⟩:=OI W (.cells #[.func (.func K1) #[] c1] 345) (.cells #[.func (.func K2) #[] c2] 345) (.cells #[.func (.func K3) #[] #[]] 514);have hB:=Ui W (.cells #[.func (.func K1) #[] c1] 345) (.cells #[.func (.func K2) #[] c2] 345) (.cells #[.func (.func K3) #[] #[]] 514);exact⟨_,rfl,⟨_,_,_,_,_,rfl,a1,a2,by rw[HK3.out];exact a3,HX.out.same (KT.vZ hB),HY.out.same (KT.vZ hB)⟩,hB⟩
def ZQx(W)(x)(l)(hx:zz W l x):Calls prog 217 #[x] W (YO W (.arith [45] (.lit (.int 0)) l)):=by
 have HX:=(show Hid _ from hx);obtain⟨K1,c1,rfl,_⟩:=hx.func;clear hx;go_enter func217,ntmps217;go_wp2_with fail;refine(ZpF _ (.int 0)).mono ?_;rintro e w1 ⟨f,rfl,hf,hB⟩;have HF:=vR hf;obtain⟨K2,c2,rfl,_⟩:=hf.func;clear hf;go_wp2_with fail;refine(Zzm _ [45] _ _ _ _ HF.out (HX.out.same (KT.vZ hB))).mono ?_;rintro e w2 ⟨f2,rfl,yj,wK⟩;have Bz:=vR yj;obtain⟨K3,c3,rfl,_⟩:=yj.func;clear yj;go_wp2_with fail;go_ret;exact⟨_,rfl,Bz.out,hB.trans (wK.mono hB.size)⟩
def Ao(W:World)(rn:Value):List xE->Value->Prop
 | [],v=>v= .pointer none
 |f::up,v=>∃b rv mv av sp,v=vU b/\W.heap[b]? =some (.cells #[rv,mv,av,rn,.bool sp] 218)/\xD W rv f.row/\xD W mv f.made/\Ao W rn up av
def xD.same(h:KT ts W W')(ht:80∈ts){v}{vs}(hv:xD W v vs):xD W' v vs:=by
 obtain⟨a,cap,rfl,h1,h2,h3⟩:=hv;refine⟨a,cap,rfl,h1,h2,λi hi=>?_⟩;obtain⟨g,o,cu,e,ho,hc⟩:=h3 i hi;have:=h g cu _ ht ho;exact⟨g,o,cu,e,this,yP (this.trans ho.symm) hc⟩
theorem Ao.same(h:KT IQ W W'):∀{fs:List xE} {v:Value},Ao W rn fs v->Ao W' rn fs v
 | [],v,e=>e
 |f::up,v,⟨b,rv,mv,av,sp,h1,h2,h3,h4,h5⟩=>⟨b,rv,mv,av,sp,h1,h _ _ _ O h2,h3.same h O,h4.same h O,Ao.same h h5⟩
def yF{a w}(h:Below B a w)(n):Below B a (w.drewN n):=h.trans ⟨rfl,rfl,rfl,nV _,λ_ _=>rfl⟩
def Qm{fs}{v}(h:Ao W rn fs v):∃q,v= .pointer q:=by
 cases fs with
 |nil=>exact⟨_,h⟩
 |cons f up=>obtain⟨b,_,_,_,_,rfl,_⟩:=h;exact⟨_,rfl⟩
def ZU3(W)(v)(fv)(b)(hb:W.heap[b]? =some (.cells #[xe v] 80))(hf:∃p,fv= .pointer p):Calls prog 273 #[fv,vU b] W λe w'=>e= .returned (.tuple #[xe v,.int .i64 0])/\vV W w':=by
 obtain⟨n,y,hv⟩:∃n y,xe v= .iface n y:=by cases v<;>exact⟨_,_,rfl⟩
 have hc:=xH hb;rw[hv]at hc ⊢;obtain⟨p,rfl⟩:=hf;clear hb;unfold vU;go_enter func273,ntmps273;exact ky
def ZU4(W)(rn)(k:Nat)(f)(up)(fv)(b)(hb:W.heap[b]? =some (.cells #[.int .i64 k] 3))(hf:Ao W rn (f::up) fv)(v)(hk:f.made[k]? =some v):Calls prog 336 #[fv,vU b] W λe w'=>e= .returned (.tuple #[xe v,.int .i64 0])/\vV W w':=by
 obtain⟨n,y,hv⟩:∃n y,xe v= .iface n y:=by cases v<;>exact⟨_,_,rfl⟩
 have hc:=xH hb;obtain⟨fb,rv,mv,av,sp,rfl,ho,hr,hm,_⟩:=hf;obtain⟨a,cap,rfl,h1,h2,h3⟩:=hm;obtain⟨zl,LG⟩:=qP.1 hk;obtain⟨g,o,cu,rfl,_,Bl⟩:=h3 k zl;rw[LG,hv]at Bl;rw[hv];have Dm:=zS ho;clear hb ho h3 hr hk LG;unfold vU;go_enter func336,ntmps336;go_wp2_with fail;go_region;all_goals
  go_wp2;go_ret2;exact⟨rfl,yF (uQ _ _) 1⟩
def ZU2(W)(rn)(o p:Nat)(fs)(fv)(b c)(hb:W.heap[b]? =some (.cells #[.int .i64 o] 3))(hc:W.heap[c]? =some (.cells #[.int .i64 p] 3))(ho:o<=1000000)(hf:Ao W rn fs fv)(f)(v)(hk:fs[o]? =some f)(CK:f.row[p]? =some v):Calls prog 274 #[fv,vU b,vU c] W λe w'=>e= .returned (.tuple #[xe v,.int .i64 0])/\vV W w':=by
 obtain⟨n,y,hv⟩:∃n y,xe v= .iface n y:=by cases v<;>exact⟨_,_,rfl⟩
 have zT:=xH hb;have Cv:=xH hc;have HV:=(show Hid _ from hv);obtain⟨fp,rfl⟩:∃q,fv= .pointer q:=by
  cases fs with
  |nil=>exact⟨_,hf⟩
  |cons f up=>obtain⟨b,_,_,_,_,rfl,_⟩:=hf;exact⟨_,rfl⟩
 have HF:=vR hf;have HK:=vR hk;rw[hv];clear hb hc hf hv hk;unfold vU;go_enter func274,ntmps274;go_wp2_with fail;go_loop [0,7] (λfv i=>∃(k:Nat) (q:Option Addr),k<=o/\i= .int .i64 k/\fv= .pointer q/\Hid (Ao W rn (fs.drop k) (.pointer q))) (λfv i=>o-(intOf i).toNat);case atStart=>exact⟨0,fp,pI _,rfl,rfl,HF.out⟩
 case round=>
  obtain⟨k,q,hk,rfl,rfl,hq⟩:=hrel;obtain⟨hol,hof⟩:=qP.1 HK.out;have zl:k<fs.length:=Z
  have hq':=hq.out;rw[pM zl]at hq';obtain⟨fb,rv,mv,av,sp,hqe,yX,hr,hm,zu⟩:=hq';unfold vU at hqe;cases hqe;obtain⟨q2,rfl⟩:=Qm zu;have h0:=xH yX;have h2:=KG yX;have HU:=vR zu;by_cases hko:k<o
  ·clear hr hm zu yX hof h0;go_wp2_with fail;exact⟨⟨k+1,q2,Z,ak,rfl,HU.out⟩,bE⟩
  ·have ZKN:k=o:=by omega
   subst ZKN;obtain⟨a,cap,rfl,h1,h3,h4⟩:=hr;rw[hof]at h1 h4 h0;obtain⟨Br,Gj⟩:=qP.1 CK;obtain⟨g,o2,cu,rfl,_,Bl⟩:=h4 p Br;rw[Gj,HV.out]at Bl;clear h4 hm zu yX hof Gj CK HK HF hq zl;go_wp2_with fail;go_region;all_goals
    go_wp2;go_ret2;exact⟨rfl,yF (uQ _ _) 1⟩
def ZDE(b)(n)(W):Calls prog 378 #[.bool b,.int .i64 n] W λe w'=>e= .returned (.tuple #[xe (Q7 b n).1,.int .i64 (Q7 b n).2])/\W=w':=by
 cases b;all_goals
  go_enter func378,ntmps378;go_wp2;go_ret2;exact jS
def Zbp(W:World)(r:wG×Nat)(e:Ending)(w':World):Prop:=e= .returned (.tuple #[xe r.1,.int .i64 r.2])/\vV W w'
def Dp(v):∃n y,xe v= .iface n y:=by cases v<;>exact⟨_,_,rfl⟩
def ZkC(R:wG×Nat)(c)(n)(hR:R=Q7 c n)(tn)(ty)(hv:xe R.1= .iface tn ty)(b)(m)(hb:b=c)(hm:m=n)(W):Calls prog 378 #[.bool b,.int .i64 m] W λe w'=>e= .returned (.tuple #[.iface tn ty,.int .i64 R.2])/\W=w':=by
 subst hb hm hR;rw[<-hv];exact ZDE b m W
def ZZQ{p:Prop}(h:p:=by
 go_wp2_with fail;all_goals
  refine(HU.out _ _ (by first|(simp[*];done)|(simp_all;done)|(rw[p9];simp_all)) rfl _).mono ?_;rintro e w' ⟨rfl,rfl⟩;go_wp2;go_ret2;exact⟨by rw[HV.out];rfl,uQ _ _⟩):p:=h
def ZDD(a b)(W):Calls prog 331 #[.int .i64 a,.int .i64 b] W (Zbp W (Im [43] a b)):=by
 have hR:Im [43] a b=Q7 ((decide (a<wrap64 (a+b)) != decide (0<b))&&decide (b≠0)) (wrap64 (a+b)):=rfl;generalize Im [43] a b=R at hR ⊢;obtain⟨tn,ty,hv⟩:=Dp R.1;have HU:=vR (ZkC R _ _ hR tn ty hv);have HV:=vR hv;clear hR hv;go_enter func331,ntmps331;exact ZZQ
def ZDu(a b)(W):Calls prog 332 #[.int .i64 a,.int .i64 b] W (Zbp W (Im [45] a b)):=by
 have hR:Im [45] a b=Q7 ((decide (wrap64 (a-b)<a) != decide (0<b))&&decide (b≠0)) (wrap64 (a-b)):=rfl;generalize Im [45] a b=R at hR ⊢;obtain⟨tn,ty,hv⟩:=Dp R.1;have HU:=vR (ZkC R _ _ hR tn ty hv);have HV:=vR hv;clear hR hv;go_enter func332,ntmps332;exact ZZQ
def ZZP{p:Prop}(h:p:=by
 go_wp2_with fail;all_goals
  refine(HU.out _ _ (by first|(simp[*,Pt];done)|(simp_all [Pt];done)|(rw[p9];simp_all [Pt])) (by first|rfl|(simp[*];done)|(simp_all;done)) _).mono ?_;rintro e w' ⟨rfl,rfl⟩;go_wp2;go_ret2;exact⟨by rw[HV.out];rfl,uQ _ _⟩):p:=h
def ZDA(a b)(W):Calls prog 333 #[.int .i64 a,.int .i64 b] W (Zbp W (Im [42] a b)):=by
 have hR:Im [42] a b=Q7 ((decide (a= -1)&&decide (b=Pt))||(decide (a≠0)&&decide (wrap64 ((wrap64 (a*b)).tdiv a)≠b))) (wrap64 (a*b)):=rfl;generalize Im [42] a b=R at hR ⊢;obtain⟨tn,ty,hv⟩:=Dp R.1;have HU:=vR (ZkC R _ _ hR tn ty hv);have HV:=vR hv;clear hR hv;go_enter func333,ntmps333;exact ZZP
def ZDB(a b)(W):Calls prog 334 #[.int .i64 a,.int .i64 b] W (Zbp W (Im [47] a b)):=by
 by_cases hb:b=0
 ·subst hb;go_enter func334,ntmps334;exact ky
 ·have hR:Im [47] a b=Q7 (decide (a=Pt)&&decide (b= -1)) (wrap64 (a.tdiv b)):=nU hb;generalize Im [47] a b=R at hR ⊢;obtain⟨tn,ty,hv⟩:=Dp R.1;have HU:=vR (ZkC R _ _ hR tn ty hv);have HV:=vR hv;have Bj:(b==0)=false:=by simpa using hb
  clear hR hv;go_enter func334,ntmps334;exact ZZP
def ZDC(op:vS)(h1:op≠ [43])(h2:op≠ [45])(h3:op≠ [42])(h4:op≠ [47])(a b)(W):Calls prog 335 #[.int .i64 a,.int .i64 b] W (Zbp W (Im op a b)):=by
 have hR:Im op a b=if b=0 then(.null,8)else(.int (a.tmod b),0):=by unfold Im;rw[nU h1,nU h2,nU h3,nU h4]
 generalize Im op a b=R at hR ⊢;by_cases hb:b=0
 ·subst hb;rw[nY rfl]at hR;subst hR;go_enter func335,ntmps335;exact ky
 ·rw[nU hb]at hR;subst hR;have Bj:(b==0)=false:=by simpa using hb
  go_enter func335,ntmps335;go_wp2;all_goals
   go_ret2;exact⟨rfl,uQ _ _⟩
def ZDz(op)(a b)(W):Calls prog (Tf op) #[.int .i64 a,.int .i64 b] W (Zbp W (Im op a b)):=by
 unfold Tf;split
 ·next h=>subst h;exact ZDD a b W
 split
 ·next h=>subst h;exact ZDu a b W
 split
 ·next h=>subst h;exact ZDA a b W
 split
 ·next h=>subst h;exact ZDB a b W
 ·exact ZDC op aP aP aP aP a b W
def ZkM(W:World)(v:Value)(es:List Nat):Prop:=∃a cap,v= .slice a es.length cap/\es.length<=100000/\∀i (h:i<es.length),∃g o,a=some ⟨g,o,none⟩/\W.cell? ⟨g,o+i,none⟩=some (.int .i64 es[i])
def ZZR{p:Prop}(h:p:=by
 go_wp2_with fail;all_goals first|(exfalso;omega)|exact⟨⟨k+1,x,Z,ak,rfl,by rw[<-HN.out];exact HR.out⟩,bE⟩):p:=h
def ZZS{p:Prop}(h:p:=by
 go_wp2_with fail;all_goals first|(exfalso;omega)|exact⟨⟨k+1,m,Z,ak,rfl,by rw[<-HN.out];exact HR.out⟩,bE⟩):p:=h
def YV(v)(es)(W)(h:ZkM W v es):Calls prog 120 #[v] W λe w'=>e= .returned (.int .i64 (xG es))/\W=w':=by
 obtain⟨a,cap,rfl,hl,hc⟩:=h;go_enter func120,ntmps120;go_wp2_with fail;go_loop [3,8] (λl i=>∃(k:Nat) (m:Nat),k<=es.length/\i= .int .i64 k/\l= .int .i64 m/\Hid (xG es=(es.drop k).foldl MS m)) (λl i=>es.length-(intOf i).toNat);case atStart=>exact⟨0,0,pI _,rfl,rfl,rfl⟩
 case round=>
  obtain⟨k,m,hk,rfl,rfl,hr⟩:=hrel;by_cases zl:k<es.length
  ·obtain⟨g,o,rfl,UK⟩:=hc k zl;have HR:Hid (xG es=(es.drop (k+1)).foldl MS (MS m es[k])):=by
    show _=_;rw[hr.out,pM zl,List.foldl_cons]
   clear hc hr;generalize es[k]=x at *;by_cases hm:m=0
   ·subst hm;have HN:Hid (MS 0 x=x):=by show _=_;simp[MS]
    exact ZZR
   ·have UU:((m:Int)==0)=false:=by simpa using hm
    by_cases hx:x≠0/\x<m
    ·have HN:Hid (MS m x=x):=by show _=_;simp[MS,hx]
     have U3:((x:Int)==0)=false:=by simpa using hx.1
     have IK:(x:Int)<m:=Z
     have hxn:¬x=0:=hx.1;clear hx;exact ZZR
    ·have HN:Hid (MS m x=m):=by show _=_;simp only[MS];rw[nU Z]
     by_cases U3:x=0
     ·subst U3;exact ZZS
     ·have IK:¬(x:Int)<m:=by omega
      have hx2:((x:Int)==0)=false:=by simpa using U3
      clear hx;exact ZZS
  ·have HR:Hid (xG es=m):=by
    show _=_;rw[hr.out,qM Z];rfl
   clear hc hr;go_wp2_with fail;go_ret;exact⟨by rw[HR.out];rfl,rfl⟩
def ZbG{g:Nat}{a b:Nat}{cap:Nat}(h:W.heap[g]? =some (.cells #[.int .i64 a,.int .i64 b] 47)):ZkM W (.slice (some ⟨g,0,none⟩) 2 cap) [a,b]:=by
 refine⟨_,cap,rfl,ae,λi hi=>⟨g,0,rfl,?_⟩⟩;match i with
 |0=>simp[World.cell?,h]
 |1=>simp[World.cell?,h]
 |i+2=>simp at hi;omega
def IY(W:World)(v:Value)(m:Nat)(e:Ending)(W':World):Prop:=e= .returned (.tuple #[v,.int .i64 m])/\vV W W'
def ZZO{p:Prop}(h:p:=by
 go_wp2_with fail;refine H1.out.mono ?_;rintro e w1 ⟨rfl,wE⟩;go_wp2_with fail;refine(H2.out _ wE).mono ?_;rintro e w2 ⟨rfl,wK⟩;have hB:=wE.trans (wK.mono wE.size);go_wp2_with fail;refine(YV _ [a.2,b.2] _ (ZbG (xI w2 _))).mono ?_;rintro e w3 ⟨rfl,rfl⟩;go_wp2;go_ret3;exact⟨rfl,hB.alloc hB.size _⟩):p:=h
def Zr9(W)(fp)(K1 K2)(c1 c2)(e1:yH K1)(e2:yH K2)(a b:wG×Nat)(h1:Calls prog K1 (#[.pointer fp]++c1) W (IY W (xe a.1) a.2))(h2:∀W',vV W W'->Calls prog K2 (#[.pointer fp]++c2) W' (IY W' (xe b.1) b.2)):
  Calls prog 272 #[.pointer fp,.func (.func K1) #[] c1,.func (.func K2) #[] c2] W λe W'=>e= .returned (.tuple #[xe a.1,xe b.1,.int .i64 (xG [a.2,b.2])])/\vV W W':=by
 have H1:=vR h1;have H2:=vR h2;unfold yH at e1 e2;obtain⟨n1,y1,yB⟩:=Dp a.1;obtain⟨n2,y2,Fx⟩:=Dp b.1;rw[yB]at H1 ⊢;rw[Fx]at H2 ⊢;clear h1 h2;go_enter func272,ntmps272;exact ZZO
def ZDt(W)(fp)(K1 K2)(c1 c2)(e1:yH K1)(e2:yH K2)(a b:Nat×Nat)(h1:Calls prog K1 (#[.pointer fp]++c1) W (IY W (.int .i64 a.1) a.2))(h2:∀W',vV W W'->Calls prog K2 (#[.pointer fp]++c2) W' (IY W' (.int .i64 b.1) b.2)):
  Calls prog 211 #[.pointer fp,.func (.func K1) #[] c1,.func (.func K2) #[] c2] W λe W'=>e= .returned (.tuple #[.int .i64 a.1,.int .i64 b.1,.int .i64 (xG [a.2,b.2])])/\vV W W':=by
 have H1:=vR h1;have H2:=vR h2;unfold yH at e1 e2;clear h1 h2;go_enter func211,ntmps211;exact ZZO
def ZU1(W)(op)(fp)(b c d)(K1 K2)(c1 c2)(e1:yH K1)(e2:yH K2)(x y:wG×Nat)(hb:W.heap[b]? =some (.cells #[.func (.func K1) #[] c1] 345))(hc:W.heap[c]? =some (.cells #[.func (.func K2) #[] c2] 345))(hd:W.heap[d]? =some (.cells #[.func (.func (Tf op)) #[] #[]] 514))(h1:∀W',vV W W'->Calls prog K1 (#[.pointer fp]++c1) W' (IY W' (xe x.1) x.2))(h2:∀W',vV W W'->Calls prog K2 (#[.pointer fp]++c2) W' (IY W' (xe y.1) y.2)):
  Calls prog 276 #[.pointer fp,vU b,vU c,vU d] W (IY W (xe (Zbt op x y).1) (Zbt op x y).2):=by
 have zT:=xH hb;have Cv:=xH hc;have LC:=(wo hd);have hcd:=xH hd;obtain⟨xv,xm⟩:=x;obtain⟨yv,ym⟩:=y;have hBo:=Zr9 W fp K1 K2 c1 c2 e1 e2 (xv,xm) (yv,ym) (h1 W (uQ _ _)) h2;have HR:Hid (∀a b,xv= .int a->yv= .int b->Zbt op (xv,xm) (yv,ym)=if xG [xm,ym]=0 then Im op a b else(.null,xG [xm,ym])):=λa b ha hb=>by subst ha hb;rfl
 have HN:Hid ((∀a b,¬(xv= .int a/\yv= .int b))->Zbt op (xv,xm) (yv,ym)=(.null,xG [xm,ym])):=λh=>by
  cases xv<;>cases yv<;>first|rfl|exact absurd ⟨rfl,rfl⟩ (h _ _)
 simp only at hBo;generalize xG [xm,ym]=L at HR HN hBo;generalize Zbt op (xv,xm) (yv,ym)=R at HR HN ⊢;have VY:=vR hBo;clear hBo;have HE:=vR (ZHr op);have HO:=vR (ZDz op);have v1:=ZqK;have v2:=ZkD;have v3:=ZqL;clear hb hc hd h1 h2 e1 e2;unfold vU;go_enter func276,ntmps276;go_wp2_with fail;refine VY.out.mono ?_;rintro e w1 ⟨rfl,wE⟩;have Zv1:=wT wE LC hcd;clear zT Cv hcd VY;by_cases hint:∃a b,xv= .int a/\yv= .int b
 ·obtain⟨a,b,rfl,rfl⟩:=hint;have Me:=vR (HR.out a b rfl rfl);clear HR HN;simp only[xe];by_cases hL:L=0
  ·subst hL;have HR3:Hid (R=Im op a b):=by show _=_;rw[Me.out,nY rfl]
   clear Me;have hE:=HE.out;unfold yH at hE;go_wp2_with fail;refine(HO.out a b _).mono ?_;rintro e w2 ⟨rfl,wK⟩;obtain⟨n1,y1,yB⟩:=Dp (Im op a b).1;have HV:=vR yB;rw[yB];clear yB;go_wp2;go_ret2;refine⟨?_,wE.trans (wK.mono wE.size)⟩;rw[HR3.out,HV.out];rfl
  ·have HR3:Hid (R=(.null,L)):=by show _=_;rw[Me.out,nU hL]
   have hL0:((L:Int)==0)=false:=by simpa using hL
   clear Me HO HE;go_wp2_with fail;go_ret2;refine⟨?_,wE⟩;rw[HR3.out];rfl
 ·have HR3:=vR (HN.out (λa b h=>hint ⟨a,b,h⟩));clear HR HN HO HE;have hLc:L=0\/(¬L=0/\((L:Int)==0)=false):=by by_cases h:L=0;exact .inl h;exact .inr ⟨h,ay⟩
  cases xv<;>cases yv<;>first|exact absurd ⟨_,_,rfl,rfl⟩ hint|skip
  all_goals rcases hLc with hL0|⟨hLn,hL0⟩
  all_goals first|subst hL0|skip
  all_goals
   clear hint;simp only[xe];go_wp2_with fail;all_goals first|(exfalso;omega)|(go_ret2;refine⟨?_,wE⟩;rw[HR3.out];rfl)
theorem Yd(rn):∀pe W f fs fv (r:wG×Nat),zz W pe f->Ao W rn fs fv->BM pe fs=some r->∃K cap,f= .func (.func K) #[] cap/\yH K/\∀W',vV W W'->Calls prog K (#[fv]++cap) W' (IY W' (xe r.1) r.2)
 | .lit v,W,f,fs,fv,r,hf,hr,he=>by
  obtain⟨b,rfl,hb⟩:=hf;rw[BM]at he;cases he;refine⟨_,_,rfl,Zuf,λW' hB=>?_⟩;exact ZU3 W' v fv b (KT.vZ (ts:= [80]) hB b _ _ ae hb) (Qm hr)
 | .zO o p,W,f,fs,fv,r,hf,hr,he=>by
  obtain⟨b,c,rfl,hb,hc,ho,hp⟩:=hf;rw[BM]at he;cases hfo:fs[o]? with
  |none=>rw[hfo]at he;cases he
  |some f0=>
   rw[hfo]at he;cases hrp:f0.row[p]? with
   |none=>simp[hrp]at he
   |some v=>
    simp[hrp]at he;subst he;refine⟨_,_,rfl,Zua,λW' hB=>?_⟩;exact ZU2 W' rn o p fs fv b c (KT.vZ (ts:= [3]) hB b _ _ ae hb) (KT.vZ (ts:= [3]) hB c _ _ ae hc) ho (hr.same (KT.vZ hB)) f0 v hfo hrp
 | .made k,W,f,fs,fv,r,hf,hr,he=>by
  obtain⟨b,rfl,hb,hk⟩:=hf;rw[BM]at he;cases fs with
  |nil=>simp at he
  |cons f0 up=>
   cases hrp:f0.made[k]? with
   |none=>simp[hrp]at he
   |some v=>
    simp[hrp]at he;subst he;refine⟨_,_,rfl,Zuh,λW' hB=>?_⟩;exact ZU4 W' rn k f0 up fv b (KT.vZ (ts:= [3]) hB b _ _ ae hb) (hr.same (KT.vZ hB)) v hrp
 | .arith op l r',W,f,fs,fv,r,hf,hr,he=>by
  obtain⟨b,c,d,x,y,rfl,hb,hc,hd,hl,Dw⟩:=hf;rw[BM]at he;cases h1:BM l fs with
  |none=>rw[h1]at he;cases he
  |some a1=>
   cases h2:BM r' fs with
   |none=>simp[h1,h2]at he
   |some a2=>
    simp[h1,h2]at he;subst he;refine⟨_,_,rfl,Zt9,λW' hB=>?_⟩;obtain⟨K1,c1,rfl,e1,k1⟩:=Yd rn l W' x fs fv a1 (hl.same (KT.vZ hB)) (hr.same (KT.vZ hB)) h1;obtain⟨K2,c2,rfl,e2,k2⟩:=Yd rn r' W' y fs fv a2 (Dw.same (KT.vZ hB)) (hr.same (KT.vZ hB)) h2;obtain⟨q,rfl⟩:=Qm hr;have kb:=fun(g:Nat) (o:Obj) (h:W.heap[g]? =some o)=>xq hB h;exact ZU1 W' op q b c d K1 K2 c1 c2 e1 e2 a1 a2 (kb _ _ hb) (kb _ _ hc) (kb _ _ hd) k1 k2
def OQ(s:vS):Nat:=if s= [61]then 372 else if s= [60,62]then 373 else if s= [60]then 374 else if s= [60,61]then 375 else if s= [62]then 376 else 377
def Q0(FO:Bool):Nat:=if FO then 209 else 208
def Nb(W:World)(s:vS)(f:Value):Prop:=∃b,f= .func (.func 330) #[] #[vU b]/\W.heap[b]? =some (.cells #[.func (.func (OQ s)) #[] #[]] 31)
def DC(W:World)(wb:Option Nat):PC->Value->Prop
 | .always,f=>f= .func (.func 207) #[] #[]
 | .xJ c,f=>∃b x,f= .func (.func 212) #[] #[vU b]/\W.heap[b]? =some (.cells #[x] 246)/\DC W wb c x
 | .BS a l r,f=>∃b c d x y,f= .func (.func 210) #[] #[vU b,vU c,vU d]/\W.heap[b]? =some (.cells #[x] 246)/\W.heap[c]? =some (.cells #[y] 246)/\W.heap[d]? =some (.cells #[.func (.func (Q0 a)) #[] #[]] 433)/\DC W wb l x/\DC W wb r y
 | .cmp s l r,f=>∃b c d x y z,f= .func (.func 271) #[] #[vU b,vU c,vU d]/\W.heap[b]? =some (.cells #[x] 345)/\W.heap[c]? =some (.cells #[y] 345)/\W.heap[d]? =some (.cells #[z] 510)/\zz W l x/\zz W r y/\Nb W s z
 | .Fy e,f=>∃b x,f= .func (.func 221) #[] #[vU b]/\W.heap[b]? =some (.cells #[x] 345)/\zz W e x
 | .zK,f=>∃b w,wb=some w/\f= .func (.func 224) #[] #[vU b]/\W.heap[b]? =some (.cells #[vU w] 354)
 | .BK e s a,f=>∃b c d i n w x z,wb=some w/\f= .func (.func 279) #[] #[vU b,vU c,vU n,vU i,vU d]/\W.heap[b]? =some (.cells #[x] 345)/\W.heap[c]? =some (.cells #[vU w] 354)/\W.heap[d]? =some (.cells #[z] 510)/\W.heap[i]? =some (.cells #[.func (.func (Q0 a)) #[] #[]] 433)/\W.heap[n]? =some (.cells #[.int .i64 (if a then 2 else 0)] 396)/\zz W e x/\Nb W s z
def Nb.same(h:KT IQ W W'){s}{f}(hj:Nb W s f):Nb W' s f:=by
 obtain⟨b,h1,h2⟩:=hj;exact⟨b,h1,h _ _ _ O h2⟩
theorem DC.same(h:KT IQ W W'):∀{c:PC} {f:Value},DC W wb c f->DC W' wb c f
 | .always,f,e=>e
 | .xJ c,f,⟨b,x,h1,h2,h3⟩=>⟨b,x,h1,h _ _ _ O h2,DC.same h h3⟩
 | .BS a l r,f,⟨b,c,d,x,y,h1,h2,h3,h4,h5,h6⟩=>⟨b,c,d,x,y,h1,h _ _ _ O h2,h _ _ _ O h3,h _ _ _ O h4,DC.same h h5,DC.same h h6⟩
 | .cmp s l r,f,⟨b,c,d,x,y,z,h1,h2,h3,h4,h5,h6,h7⟩=>⟨b,c,d,x,y,z,h1,h _ _ _ O h2,h _ _ _ O h3,h _ _ _ O h4,h5.same h,h6.same h,h7.same h⟩
 | .Fy e,f,⟨b,x,h1,h2,h3⟩=>⟨b,x,h1,h _ _ _ O h2,h3.same h⟩
 | .zK,f,⟨b,w,h0,h1,h2⟩=>⟨b,w,h0,h1,h _ _ _ O h2⟩
 | .BK e s a,f,⟨b,c,d,i,n,w,x,z,h0,h1,h2,h3,h4,h5,h6,h7,h8⟩=>⟨b,c,d,i,n,w,x,z,h0,h1,h _ _ _ O h2,h _ _ _ O h3,h _ _ _ O h4,h _ _ _ O h5,h _ _ _ O h6,h7.same h,h8.same h⟩
def Zt8:yH 207:=λ_ _=>uO
def ZmB:yH 212:=λ_ _=>uO
def Zug:yH 210:=λ_ _=>uO
def Zub:yH 271:=λ_ _=>uO
def Zud:yH 221:=λ_ _=>uO
def Zuc:yH 224:=λ_ _=>uO
def Zui:yH 279:=λ_ _=>uO
def ZHp:yH 330:=λ_ _=>uO
def ZHq:yH 209:=λ_ _=>uO
def ZHo:yH 208:=λ_ _=>uO
def ZHi:yH 372:=λ_ _=>uO
def ZHj:yH 373:=λ_ _=>uO
def ZHk:yH 374:=λ_ _=>uO
def ZHl:yH 375:=λ_ _=>uO
def ZHm:yH 376:=λ_ _=>uO
def ZHn:yH 377:=λ_ _=>uO
def Zue(a):yH (Q0 a):=by cases a;exact ZHo;exact ZHq
def ZHh(s):yH (OQ s):=by
 unfold OQ;split
 ·exact ZHi
 split
 ·exact ZHj
 split
 ·exact ZHk
 split
 ·exact ZHl
 split
 ·exact ZHm
 ·exact ZHn
theorem DC.func:∀{c:PC} {f:Value},DC W wb c f->∃K cap,f= .func (.func K) #[] cap/\yH K
 | .always,f,h=>⟨_,_,h,Zt8⟩
 | .xJ c,f,⟨b,x,h,_⟩=>⟨_,_,h,ZmB⟩
 | .BS a l r,f,⟨b,c,d,x,y,h,_⟩=>⟨_,_,h,Zug⟩
 | .cmp s l r,f,⟨b,c,d,x,y,z,h,_⟩=>⟨_,_,h,Zub⟩
 | .Fy e,f,⟨b,x,h,_⟩=>⟨_,_,h,Zud⟩
 | .zK,f,⟨b,w,_,h,_⟩=>⟨_,_,h,Zuc⟩
 | .BK e s a,f,⟨b,c,d,i,n,w,x,z,_,h,_⟩=>⟨_,_,h,Zui⟩
def TU(W:World)(wb:Option Nat)(c:PC)(en:Ending)(W':World):Prop:=∃f,en= .returned f/\DC W' wb c f/\vV W W'
def ZP5(W)(wb):Calls prog 145 #[] W (TU W wb .always):=by
 have BD:=Jn;go_enter func145,ntmps145;go_wp2;go_ret;exact⟨_,rfl,rfl,uQ _ _⟩
def ZpG(W)(wb)(x)(c)(hx:DC W wb c x):Calls prog 147 #[x] W (TU W wb (.xJ c)):=by
 have BD:=Jn;have HX:=vR hx;obtain⟨K1,c1,rfl,_⟩:=hx.func;clear hx;go_enter func147,ntmps147;go_wp2;go_ret;have hB:vV W (W.alloc (.cells #[.func (.func K1) #[] c1] 246)):=(uQ _ _).alloc (nV _) _;exact jI
def ZQo(W)(wb)(x)(e)(hx:zz W e x):Calls prog 151 #[x] W (TU W wb (.Fy e)):=by
 have BD:=Jn;have HX:=vR hx;obtain⟨K1,c1,rfl,_⟩:=hx.func;clear hx;go_enter func151,ntmps151;go_wp2;go_ret;have hB:vV W (W.alloc (.cells #[.func (.func K1) #[] c1] 345)):=(uQ _ _).alloc (nV _) _;exact jI
def ZQj(W)(w):Calls prog 153 #[vU w] W (TU W (some w) .zK):=by
 have BD:=Jn;unfold vU;go_enter func153,ntmps153;go_wp2;go_ret;exact⟨_,rfl,⟨_,w,rfl,rfl,xI W _⟩,(uQ _ _).alloc (nV _) _⟩
def ZZT{p:Prop}(h:p:=by
 exact⟨_,rfl,⟨_,_,_,_,_,rfl,a1,a2,a3,HX.out.same (KT.vZ hB),HY.out.same (KT.vZ hB)⟩,hB⟩):p:=h
def ZQt(W)(wb)(s:vS)(x y)(l r)(hx:DC W wb l x)(hy:DC W wb r y):Calls prog 146 #[.string ⟨s.toArray⟩,x,y] W (TU W wb (.BS (decide (s= [97,110,100])) l r)):=by
 have BD:=Jn;have HX:=vR hx;have HY:=vR hy;obtain⟨K1,c1,rfl,_⟩:=hx.func;obtain⟨K2,c2,rfl,_⟩:=hy.func;clear hx hy;by_cases h1:s= [97,110,100]
 ·subst h1;go_enter func146,ntmps146;go_wp2;go_ret;obtain⟨a1,a2,a3⟩:=OI W (.cells #[.func (.func K1) #[] c1] 246) (.cells #[.func (.func K2) #[] c2] 246) (.cells #[.func (.func 209) #[] #[]] 433);have hB:=Ui W (.cells #[.func (.func K1) #[] c1] 246) (.cells #[.func (.func K2) #[] c2] 246) (.cells #[.func (.func 209) #[] #[]] 433);exact ZZT
 ·have b1:(s== [97,110,100])=false:=by simpa using h1
  have HD:Hid (decide (s= [97,110,100])=false):=by show _=_;simpa using h1
  generalize decide (s= [97,110,100])=d at HD ⊢;clear h1;go_enter func146,ntmps146;go_wp2;go_ret;obtain⟨a1,a2,a3⟩:=OI W (.cells #[.func (.func K1) #[] c1] 246) (.cells #[.func (.func K2) #[] c2] 246) (.cells #[.func (.func 208) #[] #[]] 433);have hB:=Ui W (.cells #[.func (.func K1) #[] c1] 246) (.cells #[.func (.func K2) #[] c2] 246) (.cells #[.func (.func 208) #[] #[]] 433);have hd:=HD.out;subst hd;exact ZZT
def ZQm(W)(s):Calls prog 329 #[.string ⟨s.toArray⟩] W λe w'=>e= .returned (.func (.func (OQ s)) #[] #[])/\W=w':=by
 have BD:=Jn;have nb:∀x:vS,¬s=x->(s==x)=false:=λx hx=>by simpa using hx
 by_cases h1:s= [61]
 ·subst h1;exact jZ
 have b1:=nb _ h1;by_cases h2:s= [60,62]
 ·subst h2;exact jZ
 have b2:=nb _ h2;by_cases h3:s= [60]
 ·subst h3;exact jZ
 have b3:=nb _ h3;by_cases h4:s= [60,61]
 ·subst h4;exact jZ
 have b4:=nb _ h4;by_cases h5:s= [62]
 ·subst h5;exact jZ
 have b5:=nb _ h5;have HF:Hid (OQ s=377):=by show _=_;unfold OQ;rw[nU h1,nU h2,nU h3,nU h4,nU h5]
 clear h1 h2 h3 h4 h5 nb;go_enter func329,ntmps329;go_wp2;go_ret;exact⟨dV,rfl⟩
def ZpE(W)(s):Calls prog 270 #[.string ⟨s.toArray⟩] W λe W'=>∃f,e= .returned f/\Nb W' s f/\vV W W':=by
 have BD:=Jn;go_enter func270,ntmps270;go_wp2_with fail;refine(ZQm _ s).mono ?_;rintro e w1 ⟨rfl,rfl⟩;generalize xP:OQ s=K3;have HK3:=vR xP;clear xP;go_wp2_with fail;go_ret;exact⟨_,rfl,⟨_,rfl,by rw[HK3.out];exact xI W _⟩,(uQ _ W).alloc (nV _) _⟩
theorem Nb.func{s}{f}(h:Nb W s f):∃K cap,f= .func (.func K) #[] cap:=by
 obtain⟨b,h1,h2⟩:=h;exact⟨_,_,h1⟩
def ZQf(W)(wb)(s)(x y)(l r)(hx:zz W l x)(hy:zz W r y):Calls prog 213 #[.string ⟨s.toArray⟩,x,y] W (TU W wb (.cmp s l r)):=by
 have BD:=Jn;have HX:=vR hx;have HY:=vR hy;obtain⟨K1,c1,rfl,_⟩:=hx.func;obtain⟨K2,c2,rfl,_⟩:=hy.func;clear hx hy;go_enter func213,ntmps213;go_wp2_with fail;refine(ZpE _ s).mono ?_;rintro e w1 ⟨z,rfl,hz,hB⟩;have HZ:=vR hz;obtain⟨K3,c3,rfl⟩:=hz.func;clear hz;go_wp2_with fail;go_ret;obtain⟨a1,a2⟩:=J6 W (.cells #[.func (.func K1) #[] c1] 345) (.cells #[.func (.func K2) #[] c2] 345);have h0:vV W ((W.alloc (.cells #[.func (.func K1) #[] c1] 345)).alloc (.cells #[.func (.func K2) #[] c2] 345)):=((uQ _ W).alloc (nV _) _).alloc ae _;have hs:=hB.size;simp only[uP]at hs;have xX:=h0.trans (hB.mono h0.size);have hA:=xX.alloc xX.size (.cells #[.func (.func K3) #[] c3] 510);refine⟨_,rfl,⟨W.heap.size,W.heap.size+1,w1.heap.size,_,_,_,rfl,?_,?_,xI w1 _,HX.out.same (KT.vZ hA),HY.out.same (KT.vZ hA),HZ.out.same (KT.vZ ((uQ _ _).alloc (nV _) _))⟩,hA⟩
 ·exact(ow _ _ _ Z).trans ((hB.block _ ah).trans a1)
 ·exact(ow _ _ _ Z).trans ((hB.block _ ae).trans a2)
def ZA3{w:Nat}{s}{e}{K1 K3:Nat}{c1 c3:Array Value}{a:Bool}(hX:zz W e (.func (.func K1) #[] c1))(hZ:Nb w1 s (.func (.func K3) #[] c3))(hB:Below ((W.alloc (.cells #[.func (.func K1) #[] c1] 345)).alloc (.cells #[.pointer (some ⟨w,0,none⟩)] 354)).heap.size ((W.alloc (.cells #[.func (.func K1) #[] c1] 345)).alloc (.cells #[.pointer (some ⟨w,0,none⟩)] 354)) w1):
  TU W (some w) (.BK e s a) (.returned (.func (.func 279) #[] #[.pointer (some ⟨W.heap.size,0,none⟩),.pointer (some ⟨W.heap.size+1,0,none⟩),.pointer (some ⟨w1.heap.size+1+1,0,none⟩),.pointer (some ⟨w1.heap.size+1,0,none⟩),.pointer (some ⟨w1.heap.size,0,none⟩)]))
   (((w1.alloc (.cells #[.func (.func K3) #[] c3] 510)).alloc (.cells #[.func (.func (Q0 a)) #[] #[]] 433)).alloc (.cells #[.int .i64 (if a then 2 else 0)] 396)):=by
 obtain⟨a1,a2⟩:=J6 W (.cells #[.func (.func K1) #[] c1] 345) (.cells #[.pointer (some ⟨w,0,none⟩)] 354);have h0:vV W ((W.alloc (.cells #[.func (.func K1) #[] c1] 345)).alloc (.cells #[.pointer (some ⟨w,0,none⟩)] 354)):=((uQ _ W).alloc (nV _) _).alloc ae _;have hs:=hB.size;simp only[uP]at hs;have xX:=h0.trans (hB.mono h0.size);obtain⟨b1,b2,b3⟩:=OI w1 (.cells #[.func (.func K3) #[] c3] 510) (.cells #[.func (.func (Q0 a)) #[] #[]] 433) (.cells #[.int .i64 (if a then 2 else 0)] 396);have z8:=Ui w1 (.cells #[.func (.func K3) #[] c3] 510) (.cells #[.func (.func (Q0 a)) #[] #[]] 433) (.cells #[.int .i64 (if a then 2 else 0)] 396);have hA:=xX.trans (z8.mono xX.size);refine⟨_,rfl,⟨W.heap.size,W.heap.size+1,w1.heap.size,w1.heap.size+1,w1.heap.size+1+1,w,_,_,rfl,rfl,?_,?_,b1,b2,b3,hX.same (KT.vZ hA),hZ.same (KT.vZ z8)⟩,hA⟩
 ·exact(z8.block _ Z).trans ((hB.block _ ah).trans a1)
 ·exact(z8.block _ Z).trans ((hB.block _ ae).trans a2)
def ZQO(W)(w)(s h:vS)(x)(e)(hx:zz W e x)(hh:h= [97,110,121]\/h= [97,108,108]):Calls prog 225 #[x,.string ⟨s.toArray⟩,.string ⟨h.toArray⟩,vU w] W (TU W (some w) (.BK e s (decide (h= [97,108,108])))):=by
 have BD:=Jn;have HX:=vR hx;obtain⟨K1,c1,rfl,_⟩:=hx.func;clear hx;unfold vU;rcases hh with rfl|rfl
 ·go_enter func225,ntmps225;go_wp2_with fail;refine(ZpE _ s).mono ?_;rintro e w1 ⟨z,rfl,hz,hB⟩;have HZ:=vR hz;obtain⟨K3,c3,rfl⟩:=hz.func;clear hz;go_wp2_with fail;go_ret;exact ZA3 (a:=false) HX.out HZ.out hB
 ·go_enter func225,ntmps225;go_wp2_with fail;refine(ZpE _ s).mono ?_;rintro e w1 ⟨z,rfl,hz,hB⟩;have HZ:=vR hz;obtain⟨K3,c3,rfl⟩:=hz.func;clear hz;go_wp2_with fail;go_ret;exact ZA3 (a:=true) HX.out HZ.out hB
def Ztt(b)(x y:Nat)(W):Calls prog (Q0 b) #[.int .i64 x,.int .i64 y] W λe w'=>e= .returned (.int .i64 (LY b x y))/\W=w':=by
 cases b with
 |false=>
  show Calls prog 208 _ _ _;go_enter func208,ntmps208;go_wp2_with fail;all_goals
   go_ret;refine⟨XV ?_,rfl⟩;simp only[LY,rF,qE];omega
 |true=>
  show Calls prog 209 _ _ _;go_enter func209,ntmps209;go_wp2_with fail;all_goals
   go_ret;refine⟨XV ?_,rfl⟩;simp only[LY,pX];omega
def Zuk(w):(binOp .eql 80 (.iface 140 (.agg #[])) (.iface 140 (.agg #[]))).run prog w= .ok (.bool true) w:=by kernel_rfl
def Zuj(n)(w):(binOp .eql 80 (.iface 142 (.int .i64 n)) (.iface 140 (.agg #[]))).run prog w= .ok (.bool false) w:=by kernel_rfl
def Zul(s:vS)(w):(binOp .eql 80 (.iface 82 (.string ⟨s.toArray⟩)) (.iface 140 (.agg #[]))).run prog w= .ok (.bool false) w:=by kernel_rfl
def Zmj(b)(W):Calls prog 222 #[.bool b] W λe w'=>e= .returned (.int .i64 (PO b))/\W=w':=by
 cases b;all_goals
  go_enter func222,ntmps222;exact uR
def Zmf(v)(W):Calls prog 223 #[xe v] W λe w'=>e= .returned (.bool (decide (v= .null)))/\W=w':=by
 have e1:=Zuk;have e2:=Zuj;have e3:=Zul;cases v;all_goals
  simp only[xe];go_enter func223,ntmps223;exact uR
def ZFx(s)(o)(W):Calls prog (OQ s) #[.int .i64 o] W λe w'=>e= .returned (.bool (Zez s o))/\W=w':=by
 unfold OQ Zez;split
 ·go_enter func372,ntmps372;exact kz
 split
 ·go_enter func373,ntmps373;exact kz
 split
 ·go_enter func374,ntmps374;exact kz
 split
 ·go_enter func375,ntmps375;exact kz
 split
 ·go_enter func376,ntmps376;exact kz
 ·go_enter func377,ntmps377;exact kz
def Ztu(s)(x y)(W)(b)(hb:W.heap[b]? =some (.cells #[.func (.func (OQ s)) #[] #[]] 31)):Calls prog 330 #[xe x,xe y,vU b] W λe w'=>e= .returned (.int .i64 (Ko s x y))/\vV W w':=by
 have hc:=xH hb;have HX:=vR (Zmf x);have HY:=vR (Zmf y);have HV:=vR (Zj7 x y);have HF:=vR (ZFx s);have hE:=ZHh s;unfold yH at hE;have HJ:Hid (Ko s x y=if x= .null\/y= .null then 1 else PO (Zez s (G7 x y))):=rfl;generalize Ko s x y=J at HJ ⊢;generalize OQ s=K at HF hE hc;have HN:Hid (x= .null↔decide (x= .null)=true):=by show _↔_;simp
 have HM:Hid (y= .null↔decide (y= .null)=true):=by show _↔_;simp
 obtain⟨n1,y1,yB⟩:=Dp x;obtain⟨n2,y2,Fx⟩:=Dp y;rw[yB]at HX HV ⊢;rw[Fx]at HY HV ⊢;generalize decide (x= .null)=dx at HX HN;generalize decide (y= .null)=dy at HY HM;clear hb yB Fx;unfold vU;go_enter func330,ntmps330;go_wp2_with fail;refine(HX.out _).mono ?_;rintro e w1 ⟨rfl,rfl⟩;cases dx with
 |true=>
  go_wp2_with fail;go_ret;exact⟨by rw[HJ.out,nY (.inl (by simpa using HN.out))];rfl,uQ _ _⟩
 |false=>
  go_wp2_with fail;refine(HY.out _).mono ?_;rintro e w1 ⟨rfl,rfl⟩;cases dy with
  |true=>
   go_wp2_with fail;go_ret;exact⟨by rw[HJ.out,nY (.inr (by simpa using HM.out))];rfl,uQ _ _⟩
  |false=>
   have Rz:Hid (J=PO (Zez s (G7 x y))):=by
    show _=_;rw[HJ.out,nU];rintro(h|h)
    ·exact absurd h (by simpa using HN.out)
    ·exact absurd h (by simpa using HM.out)
   go_wp2_with fail;go_region_with (first|(go_at_call 252;refine(HV.out _).mono ?_;rintro e w1 ⟨rfl,rfl⟩)|(go_at_call 222;refine(Zmj _ _).mono ?_;rintro e w1 ⟨rfl,rfl⟩)|(with_reducible refine(HF.out _ _).mono ?_;rintro e w1 ⟨rfl,rfl⟩));all_goals
    go_wp2;go_ret;exact⟨by rw[Rz.out];rfl,yF (uQ _ _) 1⟩
def ZFp(W)(fp):Calls prog 207 #[.pointer fp] W (IY W (.int .i64 2) 0):=by
 go_enter func207,ntmps207;exact ky
def ZFB(W)(fp)(b K1)(c1)(e1:yH K1)(x:wG×Nat)(hb:W.heap[b]? =some (.cells #[.func (.func K1) #[] c1] 345))(h1:Calls prog K1 (#[.pointer fp]++c1) W (IY W (xe x.1) x.2)):Calls prog 221 #[.pointer fp,vU b] W (IY W (.int .i64 (PO (decide (x.1= .null)))) x.2):=by
 have hc:=xH hb;unfold yH at e1;have H1:=vR h1;have HN:=vR (Zmf x.1);obtain⟨n1,y1,yB⟩:=Dp x.1;rw[yB]at H1 HN;clear hb h1 yB;generalize decide (x.1= .null)=dx at HN ⊢;unfold vU;go_enter func221,ntmps221;go_wp2_with fail;refine H1.out.mono ?_;rintro e w1 ⟨rfl,wE⟩;go_wp2_with fail;refine(HN.out _).mono ?_;rintro e w2 ⟨rfl,rfl⟩;go_wp2_with fail;refine(Zmj _ _).mono ?_;exact mO
def Ztw(W)(fp)(b K1)(c1)(e1:yH K1)(t m:Nat)(ht:t<=2)(hb:W.heap[b]? =some (.cells #[.func (.func K1) #[] c1] 246))(R:World->Prop)(h1:Calls prog K1 (#[.pointer fp]++c1) W λe W'=>e= .returned (.tuple #[.int .i64 t,.int .i64 m])/\R W'):Calls prog 212 #[.pointer fp,vU b] W λe W'=>e= .returned (.tuple #[.int .i64 ((2-t:Nat):Int),.int .i64 m])/\R W':=by
 have hc:=xH hb;unfold yH at e1;have H1:=vR h1;clear hb h1;unfold vU;go_enter func212,ntmps212;go_wp2_with fail;refine H1.out.mono ?_;rintro e w1 ⟨rfl,hR⟩;go_wp2_with fail;go_ret2;refine⟨?_,hR⟩;rw[show((2-t:Nat):Int)=2-(t:Int) from Z];rfl
def ZFr(W)(s)(fp)(b c d)(K1 K2)(c1 c2)(e1:yH K1)(e2:yH K2)(x y:wG×Nat)(z)(hb:W.heap[b]? =some (.cells #[.func (.func K1) #[] c1] 345))(hc:W.heap[c]? =some (.cells #[.func (.func K2) #[] c2] 345))(hd:W.heap[d]? =some (.cells #[z] 510))(hz:Nb W s z)(h1:Calls prog K1 (#[.pointer fp]++c1) W (IY W (xe x.1) x.2))(h2:∀W',vV W W'->Calls prog K2 (#[.pointer fp]++c2) W' (IY W' (xe y.1) y.2)):
  Calls prog 271 #[.pointer fp,vU b,vU c,vU d] W (IY W (.int .i64 (Ko s x.1 y.1)) (xG [x.2,y.2])):=by
 have zT:=xH hb;have Cv:=xH hc;have LC:=(wo hd);have hcd:=xH hd;have VY:=vR (Zr9 W fp K1 K2 c1 c2 e1 e2 x y h1 h2);obtain⟨zb,rfl,hzb⟩:=hz;have HJ:=vR (λW' (hB:vV W W')=>Ztu s x.1 y.1 W' zb (xq hB hzb));obtain⟨n1,y1,yB⟩:=Dp x.1;obtain⟨n2,y2,Fx⟩:=Dp y.1;rw[yB]at VY HJ;rw[Fx]at VY HJ;clear hb hc hd h1 h2 e1 e2 yB Fx;unfold vU at *;generalize xG [x.2,y.2]=L at *;generalize Ko s x.1 y.1=J at *;go_enter func271,ntmps271;go_wp2_with fail;refine VY.out.mono ?_;rintro e w1 ⟨rfl,wE⟩;have Zv1:=wT wE LC hcd;go_wp2_with fail;refine(HJ.out _ wE).mono ?_;rintro e w2 ⟨rfl,wK⟩;go_wp2_with fail;go_ret2;exact⟨rfl,wE.trans (wK.mono wE.size)⟩
def ZFF(W)(a)(fp)(b c d)(K1 K2)(c1 c2)(e1:yH K1)(e2:yH K2)(x y:Nat×Nat)(hb:W.heap[b]? =some (.cells #[.func (.func K1) #[] c1] 246))(hc:W.heap[c]? =some (.cells #[.func (.func K2) #[] c2] 246))(hd:W.heap[d]? =some (.cells #[.func (.func (Q0 a)) #[] #[]] 433))(h1:Calls prog K1 (#[.pointer fp]++c1) W (IY W (.int .i64 x.1) x.2))(h2:∀W',vV W W'->Calls prog K2 (#[.pointer fp]++c2) W' (IY W' (.int .i64 y.1) y.2)):
  Calls prog 210 #[.pointer fp,vU b,vU c,vU d] W (IY W (.int .i64 (LY a x.1 y.1)) (xG [x.2,y.2])):=by
 have zT:=xH hb;have Cv:=xH hc;have LC:=(wo hd);have hcd:=xH hd;have VY:=vR (ZDt W fp K1 K2 c1 c2 e1 e2 x y h1 h2);have HJ:=vR (Ztt a x.1 y.1);have hE:=Zue a;unfold yH at hE;clear hb hc hd h1 h2 e1 e2;unfold vU at *;generalize xG [x.2,y.2]=L at *;generalize LY a x.1 y.1=J at *;generalize Q0 a=K3 at *;go_enter func210,ntmps210;go_wp2_with fail;refine VY.out.mono ?_;rintro e w1 ⟨rfl,wE⟩;have Zv1:=wT wE LC hcd;go_wp2_with fail;refine(HJ.out _).mono ?_;exact mO
def ZMU(s)(a b):Ko s a b<=2:=by
 unfold Ko PO;split
 ·omega
 ·split<;>omega
def ZMT{a}{x y:Nat}(hx:x<=2)(hy:y<=2):LY a x y<=2:=by
 unfold LY;split<;>omega
def ZUf(b):PO b<=2:=by unfold PO;split<;>omega
theorem ZmC:∀{c:PC} {fs:List xE} {t:Nat×Nat},DD c fs=some t->t.1<=2
 | .always,fs,t,h=>by rw[DD]at h;cases h;exact jo
 | .xJ c,fs,t,h=>by
  rw[DD]at h;cases h1:DD c fs with
  |none=>rw[h1]at h;cases h
  |some x=>rw[h1]at h;cases h;show 2-x.1<=2;omega
 | .BS a l r,fs,t,h=>by
  rw[DD]at h;cases h1:DD l fs with
  |none=>rw[h1]at h;cases h
  |some x=>
   cases h2:DD r fs with
   |none=>simp[h1,h2]at h
   |some y=>simp[h1,h2]at h;subst h;exact ZMT (ZmC h1) (ZmC h2)
 | .cmp s l r,fs,t,h=>by
  rw[DD]at h;cases h1:BM l fs with
  |none=>rw[h1]at h;cases h
  |some x=>
   cases h2:BM r fs with
   |none=>simp[h1,h2]at h
   |some y=>simp[h1,h2]at h;subst h;exact ZMU _ _ _
 | .Fy e,fs,t,h=>by
  rw[DD]at h;cases h1:BM e fs with
  |none=>rw[h1]at h;cases h
  |some x=>rw[h1]at h;cases h;exact ZUf _
 | .zK,fs,t,h=>by rw[DD]at h;cases h
 | .BK _ _ _,fs,t,h=>by rw[DD]at h;cases h
theorem Zep(rn)(wb):∀c W f fs fv (r:Nat×Nat),DC W wb c f->Ao W rn fs fv->DD c fs=some r->∃K cap,f= .func (.func K) #[] cap/\yH K/\∀W',vV W W'->Calls prog K (#[fv]++cap) W' (IY W' (.int .i64 r.1) r.2)
 | .always,W,f,fs,fv,r,hf,hr,he=>by
  rw[DD]at he;cases he;obtain⟨q,rfl⟩:=Qm hr;exact⟨_,_,hf,Zt8,λW' hB=>ZFp W' q⟩
 | .xJ c,W,f,fs,fv,r,hf,hr,he=>by
  obtain⟨b,x,rfl,hb,hc⟩:=hf;rw[DD]at he;cases h1:DD c fs with
  |none=>rw[h1]at he;cases he
  |some t=>
   rw[h1]at he;cases he;refine⟨_,_,rfl,ZmB,λW' hB=>?_⟩;obtain⟨K1,c1,rfl,e1,k1⟩:=Zep rn wb c W' x fs fv t (hc.same (KT.vZ hB)) (hr.same (KT.vZ hB)) h1;obtain⟨q,rfl⟩:=Qm hr;exact Ztw W' q b K1 c1 e1 t.1 t.2 (ZmC h1) (xq hB hb) _ (k1 W' (uQ _ _))
 | .BS a l r',W,f,fs,fv,r,hf,hr,he=>by
  obtain⟨b,c,d,x,y,rfl,hb,hc,hd,hl,Dw⟩:=hf;rw[DD]at he;cases h1:DD l fs with
  |none=>rw[h1]at he;cases he
  |some a1=>
   cases h2:DD r' fs with
   |none=>simp[h1,h2]at he
   |some a2=>
    simp[h1,h2]at he;subst he;refine⟨_,_,rfl,Zug,λW' hB=>?_⟩;obtain⟨K1,c1,rfl,e1,k1⟩:=Zep rn wb l W' x fs fv a1 (hl.same (KT.vZ hB)) (hr.same (KT.vZ hB)) h1;obtain⟨K2,c2,rfl,e2,k2⟩:=Zep rn wb r' W' y fs fv a2 (Dw.same (KT.vZ hB)) (hr.same (KT.vZ hB)) h2;obtain⟨q,rfl⟩:=Qm hr;have kb:=fun(g:Nat) (o:Obj) (h:W.heap[g]? =some o)=>xq hB h;exact ZFF W' a q b c d K1 K2 c1 c2 e1 e2 a1 a2 (kb _ _ hb) (kb _ _ hc) (kb _ _ hd) (k1 W' (uQ _ _)) k2
 | .cmp s l r',W,f,fs,fv,r,hf,hr,he=>by
  obtain⟨b,c,d,x,y,z,rfl,hb,hc,hd,hl,Dw,hz⟩:=hf;rw[DD]at he;cases h1:BM l fs with
  |none=>rw[h1]at he;cases he
  |some a1=>
   cases h2:BM r' fs with
   |none=>simp[h1,h2]at he
   |some a2=>
    simp[h1,h2]at he;subst he;refine⟨_,_,rfl,Zub,λW' hB=>?_⟩;obtain⟨K1,c1,rfl,e1,k1⟩:=Yd rn l W' x fs fv a1 (hl.same (KT.vZ hB)) (hr.same (KT.vZ hB)) h1;obtain⟨K2,c2,rfl,e2,k2⟩:=Yd rn r' W' y fs fv a2 (Dw.same (KT.vZ hB)) (hr.same (KT.vZ hB)) h2;obtain⟨q,rfl⟩:=Qm hr;have kb:=fun(g:Nat) (o:Obj) (h:W.heap[g]? =some o)=>xq hB h;exact ZFr W' s q b c d K1 K2 c1 c2 e1 e2 a1 a2 z (kb _ _ hb) (kb _ _ hc) (kb _ _ hd) (hz.same (KT.vZ hB)) (k1 W' (uQ _ _)) k2
 | .Fy e,W,f,fs,fv,r,hf,hr,he=>by
  obtain⟨b,x,rfl,hb,hc⟩:=hf;rw[DD]at he;cases h1:BM e fs with
  |none=>rw[h1]at he;cases he
  |some t=>
   rw[h1]at he;cases he;refine⟨_,_,rfl,Zud,λW' hB=>?_⟩;obtain⟨K1,c1,rfl,e1,k1⟩:=Yd rn e W' x fs fv t (hc.same (KT.vZ hB)) (hr.same (KT.vZ hB)) h1;obtain⟨q,rfl⟩:=Qm hr;exact ZFB W' q b K1 c1 e1 t (xq hB hb) (k1 W' (uQ _ _))
 | .zK,W,f,fs,fv,r,hf,hr,he=>by rw[DD]at he;cases he
 | .BK _ _ _,W,f,fs,fv,r,hf,hr,he=>by rw[DD]at he;cases he
def Tryz.U6:(prog.info? 80).map (λi=>(i.zero,i.size,i.bytes))=some (some .nilIface,1,16):=by kernel_rfl
def Tryz.ZMA:(prog.info? 47).map (λi=>(i.zero,i.size,i.bytes))=some (some (.int .i64 0),1,8):=by kernel_rfl
def Tryz.ZML:(prog.info? 396).map (λi=>(i.zero,i.size,i.bytes))=some (some (.int .i64 0),1,8):=by kernel_rfl
def Tryz.ZjS:(prog.info? 78).map (λi=>(i.zero,i.size,i.bytes))=some (some (.slice none 0 0),1,24):=by kernel_rfl
def ZOj(a):MS 0 a=a:=by simp[MS]
def Zyv(a b):xG [a,b]=MS a b:=by simp[xG,ZOj]
def Gs(W:World)(v:Value)(es:List PX):Prop:=∃a cap,v= .slice a es.length cap/\es.length<=100000/\∀i (h:i<es.length),∃g o cu f,a=some ⟨g,o,none⟩/\W.heap[g]? =some (.cells cu 345)/\W.cell? ⟨g,o+i,none⟩=some f/\zz W es[i] f
theorem Gs.same(h:KT IQ W W'){v}{es}(hv:Gs W v es):Gs W' v es:=by
 obtain⟨a,cap,rfl,h1,h3⟩:=hv;refine⟨a,cap,rfl,h1,λi hi=>?_⟩;obtain⟨g,o,cu,f,e,ho,hc,hf⟩:=h3 i hi;have:=h g cu _ O ho;exact⟨g,o,cu,f,e,this,yP (this.trans ho.symm) hc,hf.same h⟩
def FnR(W:World)(es:List PX)(f:Value):Prop:=∃b v,f= .func (.func 191) #[] #[vU b]/\W.heap[b]? =some (.cells #[v] 251)/\Gs W v es
def ZHv:yH 191:=λ_ _=>uO
def ZpH(W)(v)(es)(hv:Gs W v es):Calls prog 128 #[v] W λen W'=>∃f,en= .returned f/\FnR W' es f/\vV W W':=by
 have BD:=Jn;have HV:=vR hv;obtain⟨a,cap,rfl,_⟩:=hv;go_enter func128,ntmps128;go_wp2;go_ret;have hB:vV W (W.alloc (.cells #[.slice a es.length cap] 251)):=(uQ _ _).alloc (nV _) _;exact⟨_,rfl,⟨_,_,rfl,xI W _,HV.out.same (KT.vZ hB)⟩,hB⟩
theorem Q4{α β:Type}{f:α->Option β}:∀{l:List α} {r:List β},CR f l=some r->r.length=l.length/\∀i (h:i<l.length) (h':i<r.length),f l[i]=some r[i]
 | [],r,h=>by rw[CR]at h;cases h;exact⟨rfl,λi h=>ax⟩
 |a::l,r,h=>by
  rw[CR]at h;cases h1:f a with
  |none=>rw[h1]at h;cases h
  |some b=>
   cases h2:CR f l with
   |none=>simp[h1,h2]at h
   |some r'=>
    simp[h1,h2]at h;subst h;obtain⟨h3,h4⟩:=Q4 h2;refine⟨by simp[h3],λi hi Ck=>?_⟩;cases i with
    |zero=>exact h1
    |succ i=>exact h4 i aN dW
def IU{w:World}{b k:Nat}(h:w.heap[b]? =some (.cells cur ty))(hk:k<cur.size):w.cell? ⟨b,k,none⟩=some cur[k]/\w.frozen? ⟨b,k,none⟩=false:=by
 refine⟨?_,dO⟩;simp only[World.cell?,h];exact rz hk
def zD{w:World}{b k:Nat}{u:Value}{e:TypeId}{fr:Nat×Nat}(h:w.heap[b]? =some (.cells cur e fr)):(w.setCell ⟨b,k,none⟩ u).heap[b]? =some (.cells (cur.setIfInBounds k u) e fr):=by
 simp[World.setCell,tY,h]
def Bf(w:World)(p)(u):(w.setCell p u).heap.size=w.heap.size:=by simp[World.setCell]
def ZzV(rn)(W:World)(b:Nat)(v:Value)(es)(fs)(fv)(rs:List (wG×Nat))(hb:W.heap[b]? =some (.cells #[v] 251))(hv:Gs W v es)(hf:Ao W rn fs fv)(he:CR (λe=>BM e fs) es=some rs):
  Calls prog 191 #[fv,vU b] W λe W'=>∃rv,e= .returned (.tuple #[rv,.int .i64 (xG (rs.map (·.2)))])/\xD W' rv (rs.map (·.1))/\vV W W':=by
 have HE:=vR (Q4 he);have HV:=vR hv;have HF:=vR hf;obtain⟨q,rfl⟩:=Qm hf;obtain⟨a,cap,rfl,hl,hx⟩:=hv;have hc:=xH hb;have Fv:=λw:World=>rJ (P:=prog) 78 80 .nilIface 16 underlying78 Tryz.U6 rfl .i64 .i64 es.length Z Z w;have zi:=(wo hb);clear hb he hf hx;unfold vU;go_enter func191,ntmps191;go_wp2_with fail;go_loopg [6,16] (es.length+1) (λgk mv iv wr=>∃k m:Nat,k<=es.length/\gk=es.length-k+1/\iv= .int .i64 k/\mv= .int .i64 m/\Hid (xG ((rs.take k).map (·.2))=m)/\vV W wr/\W.heap.size<wr.heap.size/\(∃cur:Array Value,cur.size=es.length/\wr.heap[W.heap.size]? =some (.cells cur 80)/\Hid (∀j (h:j<rs.length),j<k->cur[j]? =some (xe rs[j].1))));case atStart=>exact⟨0,0,Z,Z,rfl,rfl,rfl,(uQ _ _).alloc (nV _) _,ae,⟨_,bY,xI W _,λj hj hk=>Z⟩⟩
 case round=>
  obtain⟨k,m,hk,rfl,rfl,rfl,hm,hB,yA,⟨cur,Fp,DI,Ke⟩⟩:=hrel;by_cases hlt:k<es.length
  ·obtain⟨a',zY,ee,_,hx⟩:=HV.out.same (KT.vZ hB);cases ee;obtain⟨g,o,cu,f,rfl,_,JE,hff⟩:=hx k hlt;have JG:k<rs.length:=by have:=HE.out.1;omega
   obtain⟨K1,c1,rfl,e1,k1⟩:=Yd rn es[k] wr f fs (.pointer q) rs[k] hff (HF.out.same (KT.vZ hB)) (HE.out.2 k hlt JG);have HK:=vR (k1 wr (uQ _ _));unfold yH at e1;have HM:Hid (xG ((rs.take (k+1)).map (·.2))=xG [m,rs[k].2]):=by
    show _=_;rw[o8 JG,oo,xG,qN,Zyv];have h2:=hm.out;unfold xG at h2;rw[h2];rfl
   have HRK:Hid (∀x,x=rs[k]->xe rs[k].1=xe x.1):=λx hx=>by rw[hx]
   generalize hrk:rs[k]=rk at *;have ZCR:=vR hrk;obtain⟨n1,y1,yB⟩:=Dp rk.1;rw[yB]at HK;have Et:=vR yB;clear hx hff k1 hrk yB;have NN:k<cur.size:=Z
   go_wp2_with fail;refine HK.out.mono ?_;rintro e w2 ⟨rfl,wK⟩;have UL:=(wK.block _ yA).trans DI;obtain⟨yI,Dl⟩:=IU UL NN;have Pp:=wK.size;have hWl:W.heap.size<w2.heap.size:=Z
   clear JE;go_wp2_with fail;refine(YV _ [m,rk.2] _ (ZbG (xI w2 _))).mono ?_;rintro e w3 ⟨rfl,rfl⟩;have ZXX:=λob=>(uS w2 ob ⟨W.heap.size,k,none⟩ hWl).trans yI;have Zn0:=λob=>(ow w2 ob W.heap.size hWl).trans UL;have ZXd:=λob=>(IU (Zn0 ob) NN).2;go_wp2_with fail;go_roundg (es.length-(k+1)+1);case measure=>omega
   case rel=>
    have wH:=hB.trans (wK.mono hB.size);refine⟨k+1,_,Z,rfl,ak,rfl,HM.out,(wH.setCell (p:=⟨W.heap.size,k,none⟩) (nV _) _).alloc (by rw[Bf];exact wH.size) _,by rw[uP,Bf];omega,⟨_,?_,(ow _ _ _ (by rw[Bf];exact hWl)).trans (zD UL),?_⟩⟩
    ·exact mX
    ·intro j hj LD;by_cases Zoj:j=k
     ·subst Zoj;rw[qQ NN,ZCR.out,Et.out]
     ·exact mW
  ·obtain rfl:k=es.length:=by omega
   have A9:=HE.out.1;have HM:Hid (xG (rs.map (·.2))=m):=by
    have h2:=hm.out;rwa [oO Z]at h2
   have TQ:Hid (xD wr (.slice (some ⟨W.heap.size,0,none⟩) es.length es.length) (rs.map (·.1))):=by
    refine⟨some ⟨W.heap.size,0,none⟩,es.length,by rw[pY,A9],by rw[pY,A9];omega,aj,λi hi=>⟨W.heap.size,0,cur,rfl,DI,?_⟩⟩;rw[pY]at hi;have h1:=Ke.out i hi Z;simp only[World.cell?,DI,o9,h1,uj];rfl
   clear hm Ke;go_wp2_with fail;go_ret2;exact⟨_,by rw[HM.out];rfl,TQ.out,hB⟩
def FR{n}{w}(h:Below n w w'):Below n w w'.drew:=⟨h.os,h.tape,h.output,h.size,h.block⟩
def at4{n:Nat}(hn:W.heap.size=n)(a b c d):((((W.alloc a).alloc b).alloc c).alloc d).heap[n]? =some a/\((((W.alloc a).alloc b).alloc c).alloc d).heap[n+1]? =some b/\((((W.alloc a).alloc b).alloc c).alloc d).heap[n+1+1]? =some c/\((((W.alloc a).alloc b).alloc c).alloc d).heap[n+1+1+1]? =some d:=by
 subst hn;obtain⟨h1,h2,h3⟩:=OI W a b c;refine⟨(ow _ _ _ aX).trans h1,(ow _ _ _ aX).trans h2,(ow _ _ _ ae).trans h3,?_⟩;have:=xI (((W.alloc a).alloc b).alloc c) d;rwa [uP,uP,uP]at this
def ZED(W)(a b c d):vV W ((((W.alloc a).alloc b).alloc c).alloc d):=(Ui W a b c).alloc aX _
def Cq(W:World)(v:Value)(l:List xE):Prop:=∃a cap,v= .slice a l.length cap/\l.length<=100000/\∀i (h:i<l.length),∃g o cu rv mv,a=some ⟨g,o,none⟩/\W.heap[g]? =some (.cells cu 214)/\W.cell? ⟨g,o+i*2,none⟩=some rv/\W.cell? ⟨g,o+i*2+1,none⟩=some mv/\xD W rv l[i].row/\xD W mv l[i].made
def Ig:List TypeId:=214::257::78::47::389::393::67::300::251::232::88::402::459::173::IQ
def KT.less{ts':List TypeId}(h:KT ts W W')(hs:∀t∈ts',t∈ts):KT ts' W W':=λg cu ty ht e=>h g cu ty (hs ty ht) e
def ZQ3:∀t∈IQ,t∈Ig:=λt h=>by unfold Ig;simp[h]
def KT.BV(h:KT Ig W W'):KT IQ W W':=h.less ZQ3
def Cq.same(h:KT Ig W W'){v}{l}(hv:Cq W v l):Cq W' v l:=by
 exact lV
def ZOv:List TypeId:= [396,80,78,47,218]
structure Md where
 X:Nat->World->World->Prop
 J:Nat->World->Prop
 L:List TypeId
 refl:∀n W,X n W W
 trans:∀{n a b c},X n a b->X n b c->X n a c
 mono:∀{n m a b},X n a b->m<=n->X m a b
 below:∀{n a b},Below n a b->X n a b
 set:∀{n a b} {g o:Nat} {v:Value},X n a b->n<=g->X n a (b.setCell ⟨g,o,none⟩ v)
 wJ:∀{n a b} {g:Nat} {cu:Array Value} {ty:TypeId},X n a b->g<n->ty∈Ig->a.heap[g]? =some (.cells cu ty)->b.heap[g]? =some (.cells cu ty)
 size:∀{n a b},X n a b->a.heap.size<=b.heap.size
 jb:∀{i a b},J i a->vV a b->J i b
 js:∀{i a} {g o:Nat} {cu:Array Value} {ty:TypeId} {v:Value},J i a->a.heap[g]? =some (.cells cu ty)->ty∈L->J i (a.setCell ⟨g,o,none⟩ v)
def Md.kt(M:Md){a b:World}(h:M.X a.heap.size a b):KT Ig a b:=λg cu ty ht e=>M.wJ h (wo e) ht e
def Nt:Md where
 X:=Below
 J:=λ_ _=>True
 L:=ZOv
 refl:=uQ
 trans:=λh k=>h.trans k
 mono:=λh k=>h.mono k
 below:=λh=>h
 set:=λh k=>h.setCell (p:=⟨_,_,none⟩) k _
 wJ:=λh k _ e=>(h.block _ k).trans e
 size:=λh=>h.size
 jb:=λ_ _=>trivial
 js:=λ_ _ _=>trivial
def ZGl(em)(w):(Instr.checkKey em 10000 80 (.iface 140 (.agg #[]))).run prog w= .ok () w:=by kernel_rfl
def ZGk(em)(n)(w):(Instr.checkKey em 10000 80 (.iface 142 (.int .i64 n))).run prog w= .ok () w:=by kernel_rfl
def ZGm(em)(s:vS)(w):(Instr.checkKey em 10000 80 (.iface 82 (.string ⟨s.toArray⟩))).run prog w= .ok () w:=by kernel_rfl
def ZtL(em)(v)(w):(Instr.checkKey em 10000 80 (xe v)).run prog w= .ok () w:=by
 cases v
 ·exact ZGl em w
 ·exact ZGk em _ w
 ·exact ZGm em _ w
def ZtK(em)(s:vS)(w):(Instr.checkKey em 10000 9 (.string ⟨s.toArray⟩)).run prog w= .ok () w:=by kernel_rfl
def ZRz(w):(Op.equal 80 (.iface 140 (.agg #[])) (.iface 140 (.agg #[]))).run prog w= .ok true w:=by kernel_rfl
def ZRy(n)(w):(Op.equal 80 (.iface 140 (.agg #[])) (.iface 142 (.int .i64 n))).run prog w= .ok false w:=by kernel_rfl
def ZRA(s:vS)(w):(Op.equal 80 (.iface 140 (.agg #[])) (.iface 82 (.string ⟨s.toArray⟩))).run prog w= .ok false w:=by kernel_rfl
def ZRw(n)(w):(Op.equal 80 (.iface 142 (.int .i64 n)) (.iface 140 (.agg #[]))).run prog w= .ok false w:=by kernel_rfl
def ZRv(m n)(w):(Op.equal 80 (.iface 142 (.int .i64 m)) (.iface 142 (.int .i64 n))).run prog w= .ok (m==n) w:=by kernel_rfl
def ZRx(n)(s:vS)(w):(Op.equal 80 (.iface 142 (.int .i64 n)) (.iface 82 (.string ⟨s.toArray⟩))).run prog w= .ok false w:=by kernel_rfl
def ZRC(s:vS)(w):(Op.equal 80 (.iface 82 (.string ⟨s.toArray⟩)) (.iface 140 (.agg #[]))).run prog w= .ok false w:=by kernel_rfl
def ZRB(s:vS)(n)(w):(Op.equal 80 (.iface 82 (.string ⟨s.toArray⟩)) (.iface 142 (.int .i64 n))).run prog w= .ok false w:=by kernel_rfl
def ZRD(s t:vS)(w):(Op.equal 80 (.iface 82 (.string ⟨s.toArray⟩)) (.iface 82 (.string ⟨t.toArray⟩))).run prog w= .ok ((⟨s.toArray⟩:ByteArray)==⟨t.toArray⟩) w:=by kernel_rfl
def Zl4(s t:vS):((⟨s.toArray⟩:ByteArray)==⟨t.toArray⟩)=decide (s=t):=by
 rw[p9,MapKept.bytes_beq];constructor
 ·intro e;have:=congrArg (λb:ByteArray=>b.data.toList) e;exact nR
 ·intro e;rw[qw e]
def ZRE(a b)(w):(Op.equal 80 (xe a) (xe b)).run prog w= .ok (decide (a=b)) w:=by
 cases a<;>cases b
 ·exact ZRz w
 ·exact ZRy _ w
 ·exact ZRA _ w
 ·exact ZRw _ w
 ·rename_i m n;refine(ZRv m n w).trans ?_;congr 1;rw[p9];simp
 ·exact ZRx _ _ w
 ·exact ZRC _ w
 ·exact ZRB _ _ w
 ·rename_i s t;refine(ZRD s t w).trans ?_;rw[Zl4];congr 1;rw[p9];simp
def OG(W:World)(b:Nat)(vs:List wG):Prop:=∃es clock,W.heap[b]? =some (.map es clock)/\es.size=vs.length/\∀i (h:i<vs.length),∃e,es[i]? =some e/\e.key=xe vs[i]/\e.val= .int .i64 i
def SMap(W:World)(b:Nat)(ks:List vS):Prop:=∃es clock,W.heap[b]? =some (.map es clock)/\es.size=ks.length/\∀i (h:i<ks.length),∃e,es[i]? =some e/\e.key= .string ⟨ks[i].toArray⟩/\e.val= .int .i64 i
theorem ZmJ(v)(w):∀es (vs:List wG) j,es.length=vs.length->(∀i (h:i<vs.length),∃e,es[i]? =some e/\e.key=xe vs[i]/\e.val= .int .i64 ((j+i:Nat):Int))->
  (Instr.findAsking 80 (xe v) es j).run prog w= .ok ((vs.idxOf? v).map λi=>(j+i,Value.int .i64 ((j+i:Nat):Int))) w
 | [], [],j,_,_=>rfl
 | [],_::_,j,h,_=>ax
 |_::_, [],j,h,_=>ax
 |e::es,x::vs,j,hl,h=>by
  obtain⟨e0,h0,hk,hv⟩:=h 0 ae;simp at h0;subst h0;rw[Instr.findAsking];have hq:=ZRE v x w;simp only[List.getElem_cons_zero]at hk;rw[<-hk]at hq;have ih:=ZmJ v w es vs (j+1) dA (λi hi=>by
   obtain⟨e1,g1,g2,g3⟩:=h (i+1) aN;exact⟨e1,by simpa using g1,by simpa using g2,by rw[g3,show j+(i+1)=j+1+i from Z]⟩)
  by_cases hvx:v=x
  ·subst hvx;simp only[uT,hq,Result.andThen_ok,rX,pX,Sem.run_pure,rM,beq_self_eq_true,Option.map_some,Nat.add_zero,hv]
  ·have hb:(x==v)=false:=by simpa using λe=>hvx e.symm
   simp only[uT,hq,Result.andThen_ok,qd hvx,rF,qE,ih,rM,hb,tZ];refine congrArg (λx=>Result.ok x w) ?_;cases vs.idxOf? v with
   |none=>rfl
   |some i=>exact nQ
theorem ZmK(v):∀es (vs:List vS) j,es.length=vs.length->(∀i (h:i<vs.length),∃e,es[i]? =some e/\e.key= .string ⟨vs[i].toArray⟩/\e.val= .int .i64 ((j+i:Nat):Int))->
  Instr.findNow .string (.string ⟨v.toArray⟩) es j=some ((vs.idxOf? v).map λi=>(j+i,Value.int .i64 ((j+i:Nat):Int)))
 | [], [],j,_,_=>rfl
 | [],_::_,j,h,_=>ax
 |_::_, [],j,h,_=>ax
 |e::es,x::vs,j,hl,h=>by
  obtain⟨e0,h0,hk,hv⟩:=h 0 ae;simp at h0;subst h0;simp only[List.getElem_cons_zero]at hk;have ih:=ZmK v es vs (j+1) dA (λi hi=>by
   obtain⟨e1,g1,g2,g3⟩:=h (i+1) aN;exact⟨e1,by simpa using g1,by simpa using g2,by rw[g3];congr 2;omega⟩)
  rw[Instr.findNow,hk];by_cases hvx:v=x
  ·subst hvx;simp only[Instr.sameNow,Zl4,rX,rM,beq_self_eq_true,pX,Option.map_some,Nat.add_zero,hv]
  ·have hb:(x==v)=false:=by simpa using λe=>hvx e.symm
   simp only[Instr.sameNow,Zl4,qd hvx,ih,rM,hb,rF,qE,tZ];congr 1;cases vs.idxOf? v with
   |none=>rfl
   |some i=>exact nQ
def Tryz.ZBs(w:World):(zeroValue 3).run prog w= .ok (.int .i64 0) w:=by kernel_rfl
def ZZU{p:Prop}(h:p:=by
 cases vs.idxOf? v with
 |none=>simp only[Option.map_none,uT,Tryz.ZBs,Result.andThen_ok,Sem.run_pure,pX];rfl
 |some i=>simp only[Option.map_some,uT,Result.andThen_ok,Sem.run_pure,pX,o9];rfl):p:=h
def ZqO{b}{vs}(h:OG W b vs)(v):(Instr.lookup 480 (.map (some b)) (xe v) true).run prog W= .ok (.tuple #[.int .i64 ((vs.idxOf? v).getD 0:Nat),.bool (vs.idxOf? v).isSome]) W:=by
 obtain⟨es,clock,hb,hs,hx⟩:=h;have O6:=ZmJ v W es.toList vs 0 dX (λi hi=>dY);have Kg:(Instr.findKey 80 (xe v) es.toList).run prog W= .ok ((vs.idxOf? v).map λi=>(0+i,Value.int .i64 ((0+i:Nat):Int))) W:=by
  cases hes:es.toList with
  |nil=>
   have:vs= []:=by
    have h0:es.size=0:=by have:=congrArg List.length hes;simpa using this
    exact uk Z
   subst this;simp[Instr.findKey,uU underlying80,Instr.findNow,Result.andThen,uT]
  |cons e r=>
   have Bo:∀d,Instr.findNow (.interface d) (xe v) (e::r) 0=none:=λd=>by
    have:Instr.sameNow (.interface d) (xe v) e.key=none:=by cases v<;>rfl
    rw[Instr.findNow,this]
   rw[<-hes,Instr.findKey];simp only[uT,uU underlying80,Result.andThen_ok];rw[hes,Bo];rw[hes]at O6;exact O6
 have Av:=ZtL es.isEmpty v W;rw[Instr.lookup];simp only[uT,uU underlying480,Result.andThen_ok,rA hb,Sem.run_pure,Av,Kg];exact ZZU
def ZAi{b}{vs}(h:SMap W b vs)(v):(Instr.lookup 230 (.map (some b)) (.string ⟨v.toArray⟩) true).run prog W= .ok (.tuple #[.int .i64 ((vs.idxOf? v).getD 0:Nat),.bool (vs.idxOf? v).isSome]) W:=by
 obtain⟨es,clock,hb,hs,hx⟩:=h;have O6:=ZmK v es.toList vs 0 dX (λi hi=>dY);have Kg:(Instr.findKey 9 (.string ⟨v.toArray⟩) es.toList).run prog W= .ok ((vs.idxOf? v).map λi=>(0+i,Value.int .i64 ((0+i:Nat):Int))) W:=by
  rw[Instr.findKey];simp only[uT,uU underlying9,Result.andThen_ok];rw[O6];rfl
 have Av:=ZtK es.isEmpty v W;rw[Instr.lookup];simp only[uT,uU underlying230,Result.andThen_ok,rA hb,Sem.run_pure,Av,Kg];exact ZZU
structure Yh (b:Nat) (W W':World):Prop where
 os:W'.os=W.os
 tape:W'.tape=W.tape
 output:W'.output=W.output
 size:W'.heap.size=W.heap.size
 block:∀g,g≠b->W'.heap[g]? =W.heap[g]?
def XP(w:World)(b:Nat)(o:Obj):World:={w with heap:=w.heap.setIfInBounds b o}
def ZpX{w:World}{b:Nat}(h:b<w.heap.size)(o):(XP w b o).heap[b]? =some o:=by simp[XP,h]
def ZpY(w)(b)(o):Yh b w (XP w b o):=⟨rfl,rfl,rfl,by simp[XP],λg hg=>by simp only[XP];exact qL Z⟩
def ZZV{p:Prop}(h:p:=by
 obtain⟨e,g1,g2,g3⟩:=hx i h1;refine⟨e,?_,by rw[pJ h1];exact g2,g3⟩;rw[tu,nU Z];exact g1):p:=h
def ZUy{b}{vs}(h:OG W b vs)(v)(hv:vs.idxOf? v=none)(x)(U3:x= .int .i64 vs.length):∃W',(Instr.mapUpdate 480 (.map (some b)) (xe v) x).run prog W= .ok () W'/\OG W' b (vs++ [v])/\Yh b W W':=by
 have hl:=ZqO h v;obtain⟨es,clock,hb,hs,hx⟩:=h;have O6:=ZmJ v W es.toList vs 0 dX (λi hi=>dY);have Kg:(Instr.findKey 80 (xe v) es.toList).run prog W= .ok none W:=by
  cases hes:es.toList with
  |nil=>simp[Instr.findKey,uU underlying80,Instr.findNow,Result.andThen,uT]
  |cons e r=>
   have Bo:∀d,Instr.findNow (.interface d) (xe v) (e::r) 0=none:=λd=>by
    have:Instr.sameNow (.interface d) (xe v) e.key=none:=by cases v<;>rfl
    rw[Instr.findNow,this]
   rw[<-hes,Instr.findKey];simp only[uT,uU underlying80,Result.andThen_ok];rw[hes,Bo];rw[hes,hv]at O6;exact O6
 have Av:=ZtL false v W;have zi:=(wo hb);refine⟨XP W b (.map (es.push {key:=xe v,val:=x,born:=clock}) (clock+1)),?_,?_,?_⟩;rotate_left
 ·exact⟨_,_,ZpX zi (.map (es.push {key:=xe v,val:=x,born:=clock}) (clock+1)),by simp[hs],λi hi=>by
   by_cases h1:i<vs.length
   ·exact ZZV
   ·have h2:i=vs.length:=by simp at hi;omega
    subst h2;exact⟨{key:=xe v,val:=x,born:=clock},by rw[<-hs];simp,ae,U3⟩⟩
 ·exact ZpY W b _
 ·rw[Instr.mapUpdate];simp only[uT,uU underlying480,Result.andThen_ok,rA hb,Av,Kg,MapKept.run_setObj_map _ hb];rfl
def ZS0{b}{vs}(h:SMap W b vs)(v)(hv:vs.idxOf? v=none)(x)(U3:x= .int .i64 vs.length):∃W',(Instr.mapUpdate 230 (.map (some b)) (.string ⟨v.toArray⟩) x).run prog W= .ok () W'/\SMap W' b (vs++ [v])/\Yh b W W':=by
 obtain⟨es,clock,hb,hs,hx⟩:=h;have O6:=ZmK v es.toList vs 0 dX (λi hi=>dY);have Kg:(Instr.findKey 9 (.string ⟨v.toArray⟩) es.toList).run prog W= .ok none W:=by
  rw[Instr.findKey];simp only[uT,uU underlying9,Result.andThen_ok];rw[O6,hv];rfl
 have Av:=ZtK false v W;have zi:=(wo hb);refine⟨XP W b (.map (es.push {key:=.string ⟨v.toArray⟩,val:=x,born:=clock}) (clock+1)),?_,?_,?_⟩;rotate_left
 ·exact⟨_,_,ZpX zi (.map (es.push {key:=.string ⟨v.toArray⟩,val:=x,born:=clock}) (clock+1)),by simp[hs],λi hi=>by
   by_cases h1:i<vs.length
   ·exact ZZV
   ·have h2:i=vs.length:=by simp at hi;omega
    subst h2;exact⟨{key:=.string ⟨v.toArray⟩,val:=x,born:=clock},by rw[<-hs];simp,ae,U3⟩⟩
 ·exact ZpY W b _
 ·rw[Instr.mapUpdate];simp only[uT,uU underlying230,Result.andThen_ok,rA hb,Av,Kg,MapKept.run_setObj_map _ hb];rfl
def ZUw{b}{vs}(h:OG W b vs):∃es clock,W.heap[b]? =some (.map es clock)/\es.size=vs.length:=by
 exact l5
def ZSI{b}{vs}(h:SMap W b vs):∃es clock,W.heap[b]? =some (.map es clock)/\es.size=vs.length:=by
 exact l5
def Zf5{α:Type}[BEq α][LawfulBEq α]{l:List α}{x:α}(h:l.idxOf? x=none):x∉l:=by
 rw[uG]at h;exact h
def ZjQ{α:Type}[BEq α][LawfulBEq α]{l:List α}{x:α}{i:Nat}(h:l.idxOf? x=some i):x∈l:=by
 by_cases hm:x∈l
 ·exact hm
 ·have:=uG.2 hm;rw[this]at h;cases h
def Zyx{b:Nat}{es:Array MapEntry}{clock:Nat}(hb:W.heap[b]? =some (.map es clock))(t){k e:TypeId}(ht:prog.underlying t=some (.map k e)):(Builtin.len_ #[t] 3 #[.map (some b)]).run prog W= .ok (.int .i64 es.size) W:=by
 simp[Builtin.len_,rA hb,uU ht,uT,Result.andThen,goInt]
def Pw{α:Type} [BEq α](l:List α)(x:α):Nat:=(l.idxOf? x).getD l.length
def ZZW{p:Prop}(h:p:=by
 go_wp2_with fail;go_ret;exact⟨by rw[F8.out];rfl,by rw[IZ.out];exact HH.out,⟨rfl,rfl,rfl,rfl,λ_ _=>rfl⟩⟩):p:=h
def ZEx(W)(b)(vs)(v)(h:OG W b vs)(hl:vs.length<=100000):Calls prog 292 #[.map (some b),xe v] W λe W'=>e= .returned (.int .i64 (Pw vs v))/\OG W' b (Bh vs v)/\Yh b W W':=by
 have GI:=ZqO h v;have zu:=λhv=>ZUy h v hv _ rfl;obtain⟨es,clock,hb,hs⟩:=ZUw h;have HH:=vR h;obtain⟨n1,y1,yB⟩:=Dp v;have HN:Hid (Pw vs v=(vs.idxOf? v).getD vs.length):=rfl;have HA:Hid (Bh vs v=if v∈vs then vs else vs++ [v]):=rfl;generalize Pw vs v=N at HN ⊢;generalize Bh vs v=AV at HA ⊢;rw[yB]at GI zu ⊢;clear h yB;cases zH:vs.idxOf? v with
 |some i=>
  rw[zH]at GI;have F8:Hid (N=i):=by show _=_;rw[HN.out,zH];rfl
  have IZ:Hid (AV=vs):=by show _=_;rw[HA.out,nY (ZjQ zH)]
  clear zu zH HN HA;simp only[Option.getD_some,Option.isSome_some]at GI;go_enter func292,ntmps292;exact ZZW
 |none=>
  rw[zH]at GI;obtain⟨W',hu,hvm,Qx⟩:=zu zH;have F8:Hid (N=vs.length):=by show _=_;rw[HN.out,zH];rfl
  have IZ:Hid (AV=vs++ [v]):=by show _=_;rw[HA.out,nU (Zf5 zH)]
  clear zu zH HN HA;simp only[Option.getD_none,Option.isSome_none]at GI;go_enter func292,ntmps292;have Kl:=Zyx hb 480 underlying480;rw[hs]at Kl;exact kJ
def ZEw(W)(b)(vs)(v)(h:SMap W b vs)(hl:vs.length<=100000):Calls prog 294 #[.map (some b),.string ⟨v.toArray⟩] W λe W'=>e= .returned (.int .i64 (Pw vs v))/\SMap W' b (Bh vs v)/\Yh b W W':=by
 have GI:=ZAi h v;have zu:=λhv=>ZS0 h v hv _ rfl;obtain⟨es,clock,hb,hs⟩:=ZSI h;have HH:=vR h;have HN:Hid (Pw vs v=(vs.idxOf? v).getD vs.length):=rfl;have HA:Hid (Bh vs v=if v∈vs then vs else vs++ [v]):=by show _=_;unfold Bh;by_cases h:v∈vs<;>simp[h]
 generalize Pw vs v=N at HN ⊢;generalize Bh vs v=AV at HA ⊢;clear h;cases zH:vs.idxOf? v with
 |some i=>
  rw[zH]at GI;have F8:Hid (N=i):=by show _=_;rw[HN.out,zH];rfl
  have IZ:Hid (AV=vs):=by show _=_;rw[HA.out,nY (ZjQ zH)]
  clear zu zH HN HA;simp only[Option.getD_some,Option.isSome_some]at GI;go_enter func294,ntmps294;exact ZZW
 |none=>
  rw[zH]at GI;obtain⟨W',hu,hvm,Qx⟩:=zu zH;have F8:Hid (N=vs.length):=by show _=_;rw[HN.out,zH];rfl
  have IZ:Hid (AV=vs++ [v]):=by show _=_;rw[HA.out,nU (Zf5 zH)]
  clear zu zH HN HA;simp only[Option.getD_none,Option.isSome_none]at GI;have Kl:=Zyx hb 230 underlying230;rw[hs]at Kl;go_enter func294,ntmps294;exact kJ
structure Eu (W:World) (x bv bs:Nat) (ix:Ix):Prop where
 obj:W.heap[x]? =some (.cells #[.map (some bv),.map (some bs)] 482)
 wR:OG W bv ix.wR
 keys:SMap W bs ix.keys
def Tryz.ZMv:(prog.info? 5).map (λi=>(i.zero,i.size,i.bytes))=some (some (.int .u8 0),1,1):=by kernel_rfl
def ZPV(W)(B)(v)(l:vS)(h:W.ownsRow B 5 1 v l.length (l.map λc=>.int .u8 c.toNat)):(convert 220 9 v).run prog W= .ok (.string ⟨l.toArray⟩) W:=by
 rcases h.2 with⟨rfl,h0⟩|⟨g,cap,cur,rfl,hb,hh,hc,hm,_⟩
 ·have:l= []:=uk h0;subst this;rw[run_convert_bytes_string W 220 9 5 none 0 0 underlying220 underlying5 underlying9];rfl
 ·refine run_convert_bytes_back W 220 9 5 ⟨g,0,none⟩ cap l underlying220 underlying5 underlying9 λj hj=>?_;exact h.cells (g:=g) rfl j _ (by simp[hj])
theorem Zpm(vs):∀a b,EB vs (a++b)=(EB vs a).bind λx=>(EB vs b).map λy=>x++y
 | [],b=>by cases h:EB vs b<;>simp[EB,h]
 |v::a,b=>by
  rw[List.cons_append,EB,EB,Zpm vs a b];cases vs.idxOf? v with
  |none=>rfl
  |some n=>
   cases EB vs a with
   |none=>rfl
   |some x=>cases EB vs b<;>simp
def ZRt(w:World)(n)(a b c d)(hn:w.heap.size=n):∀j u, [a,b,c,d][j]? =some u->(w.alloc (.cells #[a,b,c,d] ty)).cell? ((⟨n,0,none⟩:Addr).add j)=some u:=by
 subst hn;intro j u h;match j with
 |0=>simp at h;subst h;simp[Addr.add]
 |1=>simp at h;subst h;simp[Addr.add]
 |2=>simp at h;subst h;simp[Addr.add]
 |3=>simp at h;subst h;simp[Addr.add]
 |n+4=>simp at h
def ZEC{n}{w0 wr}{o:Obj}{e:TypeId}{v:Value}(hB:Below n w0 wr)(hn:n<=wr.heap.size)(wD:wr.ownsRow n e sz v m xs)(hg:(wr.alloc o).grownBy w1 v.ownBlock):Below n w0 w1:=
 (hB.alloc hn o).grown hg ah (λk e=>(wD.lt k e).1)
def ZsR(W)(x bv bs)(ix)(rv)(row)(h:Eu W x bv bs ix)(hr:xD W rv row)(hl:row.length<=1000)(AA:ix.wR.length<=100000):Calls prog 293 #[vU x,rv] W λe W'=>e= .returned (.tuple #[.string ⟨((EB ix.wR row).getD []).toArray⟩,.bool (EB ix.wR row).isSome])/\vV W W':=by
 have GI:=fun(w:World) (hB:vV W w) (v:wG)=>ZqO (b:=bv) (vs:=ix.wR) (by obtain⟨es,c,hb,r⟩:=h.wR;exact⟨es,c,xq hB hb,r⟩) (W:=w) v;have RA:=vR GI;obtain⟨ra,rc,rfl,h1,h2,h3⟩:=hr;have HR:=vR h3;have Dx:=(wo h.obj);have Ch:=xH h.obj;obtain⟨i0,zB,hz0,yo,hz2⟩:=uV Tryz.ZMv;obtain⟨w',Fv,UZ,A7⟩:=run_make_own W W.heap.size 220 5 i0 (.int .u8 0) 1 underlying220 zB hz0 yo .i64 .i64 (4*row.length) (by rw[hz2];omega) aj (nV _);have ZXv:(Instr.makeSlice 220 (.int .i64 0) (.int .i64 (4*(row.length:Int)))).run prog W= .ok (.slice (some ⟨W.heap.size,0,none⟩) 0 (4*row.length)) w':=by simpa using Fv
 have x8:=(uQ _ W).grown A7 (nV _) (λk e=>ai);clear h h3 GI Fv A7;unfold vU;go_enter func293,ntmps293;go_wp2_with fail;go_loopg [6,17] (row.length+1) (λgk v iv wr=>∃(k:Nat) (ks:vS),k<=row.length/\gk=row.length-k+1/\iv= .int .i64 k/\wr.ownsRow W.heap.size 5 1 v ks.length (ks.map λc=>.int .u8 c.toNat)/\vV W wr/\ks.length<=4*k/\Hid (EB ix.wR (row.take k)=some ks));case atStart=>exact⟨0, [],Z,Z,rfl,UZ,x8,nV _,by rw[List.take_zero];rfl⟩
 case round=>
  obtain⟨k,ks,hk,rfl,rfl,wD,hB,zl,he⟩:=hrel;have NH:=wT hB Dx Ch;by_cases hlt:k<row.length
  ·obtain⟨g,o,cu,rfl,hg,Bl⟩:=HR.out k hlt;have ZJ9:=wT hB (wo hg) Bl;have ZfA:=RA.out wr hB row[k];have HT:Hid (EB ix.wR (row.take (k+1))=(ix.wR.idxOf? row[k]).map λn=>ks++Zap n):=by
    show _=_;rw[o8 hlt,Zpm,he.out];simp only[EB,Option.bind_some];cases ix.wR.idxOf? row[k]<;>simp
   have TM:Hid (ix.wR.idxOf? row[k]=none->EB ix.wR row=none):=λhn=>by
    have h1:=HT.out;rw[hn]at h1;rw[<-sS (k+1) row,Zpm,h1];rfl
   obtain⟨n1,y1,yB⟩:=Dp row[k];rw[yB]at ZfA ZJ9;have hs:=hB.size;clear Bl hg;cases zH:ix.wR.idxOf? row[k]with
   |none=>
    rw[zH]at ZfA;have HF:=vR (TM.out zH);simp only[Option.getD_none,Option.isSome_none]at ZfA;clear HT TM zH;go_wp2_with fail;go_ret2;exact⟨dV,hB⟩
   |some n=>
    rw[zH]at ZfA;have hn:n<ix.wR.length:=by
     have:=List.idxOf?_eq_some_iff.1 zH;exact this.1
    have Dq:Hid (EB ix.wR (row.take (k+1))=some (ks++Zap n)):=by show _=_;rw[HT.out,zH];rfl
    simp only[Option.getD_some,Option.isSome_some]at ZfA;clear HT TM zH;have HKB:Hid ((Zap n).map (λc=>Value.int .u8 c.toNat)= [.int .u8 ((n:Int)%256),.int .u8 ((n:Int)/256%256),.int .u8 ((n:Int)/65536),.int .u8 ((n:Int)/16777216)]):=by
     show _=_;simp only[Zap,oq,oF,UInt8.toNat_ofNat',List.cons.injEq,Value.int.injEq,sP,and_true];omega
    have SN:=λob=>wD.alloc ob;go_wp2_with (at_builtin;go_must (refine uW _ rfl _ _ 220 rfl W.heap.size 5 i0 (.int .u8 0) 1 1 underlying220 zB hz0 yo hz2 rfl O _ _ _ rfl (wD.alloc _) ⟨wr.heap.size,0,none⟩ 4 4 [.int .u8 ((n:Int)%256),.int .u8 ((n:Int)/256%256),.int .u8 ((n:Int)/65536),.int .u8 ((n:Int)/16777216)] rfl rfl (ZRt _ _ _ _ _ _ rfl) au aj Z ah ?_);intro v' w6 zm xQ _);go_roundg (row.length-(k+1)+1);case measure=>omega
    case rel=>
     refine⟨k+1,ks++Zap n,Z,rfl,ak,?_,ZEC hB hs wD xQ,by simp[Zap];omega,Dq.out⟩;rw[o6,oo,HKB.out];exact zm
  ·obtain rfl:k=row.length:=by omega
   have HF:Hid (EB ix.wR row=some ks):=by
    have h1:=he.out;rwa [oO (nV _)]at h1
   have Fp:=ZPV wr W.heap.size u6 ks wD;obtain⟨xa,xn,xc,rfl⟩:∃a n c,u6= .slice a n c:=by
    rcases wD.2 with⟨rfl,h0⟩|⟨g,cap,cur,rfl,_⟩
    ·exact⟨_,_,_,rfl⟩
    ·exact⟨_,_,_,rfl⟩
   clear he wD;go_wp2_with fail;go_ret2;exact⟨dV,hB⟩
structure Ox (S:List Nat) (W W':World):Prop where
 os:W'.os=W.os
 tape:W'.tape=W.tape
 output:W'.output=W.output
 size:W.heap.size<=W'.heap.size
 block:∀g,g<W.heap.size->g∉S->W'.heap[g]? =W.heap[g]?
def Ox.refl(S)(W):Ox S W W:=⟨rfl,rfl,rfl,nV _,λ_ _ _=>rfl⟩
theorem Ox.trans{a b c}(h:Ox S a b)(k:Ox S b c):Ox S a c:=⟨k.os.trans h.os,k.tape.trans h.tape,k.output.trans h.output,om h.size k.size,λg h1 h2=>(k.block g (oU h1 h.size) h2).trans (h.block g h1 h2)⟩
def Ox.vZ(h:vV W W'):Ox S W W':=⟨h.os,h.tape,h.output,h.size,λg h1 _=>h.block g h1⟩
def Ox.Zy2{b}(h:Yh b W W')(hb:b∈S):Ox S W W':=⟨h.os,h.tape,h.output,qp h.size.symm,λg _ h2=>h.block g (λe=>h2 (e▸hb))⟩
def Ox.below{n}{W0}(h0:Below n W0 W)(h:Ox S W W')(hn:n<=W.heap.size)(hS:∀g∈S,n<=g):Below n W0 W':=
 ⟨h.os.trans h0.os,h.tape.trans h0.tape,h.output.trans h0.output,om h0.size h.size,λg hg=>(h.block g Z (λhm=>by have:=hS g hm;omega)).trans (h0.block g hg)⟩
def Ox.mono{S':List Nat}(h:Ox S W W')(hs:∀g∈S,g∈S'):Ox S' W W':=⟨h.os,h.tape,h.output,h.size,λg h1 h2=>h.block g h1 (λhm=>h2 (hs g hm))⟩
def OG.same{b}{vs}(h:OG W b vs)(hb:W'.heap[b]? =W.heap[b]?):OG W' b vs:=by
 exact lZ
def SMap.same{b}{vs}(h:SMap W b vs)(hb:W'.heap[b]? =W.heap[b]?):SMap W' b vs:=by
 exact lZ
def OG.lt{b}{vs}(h:OG W b vs):b<W.heap.size:=by
 obtain⟨es,c,h1,r⟩:=h;exact(wo h1)
def SMap.lt{b}{vs}(h:SMap W b vs):b<W.heap.size:=by
 obtain⟨es,c,h1,r⟩:=h;exact(wo h1)
theorem Eu.same{x bs}(h:Eu W x bv bs ix)(h1:W'.heap[x]? =W.heap[x]?)(h2:W'.heap[bv]? =W.heap[bv]?)(h3:W'.heap[bs]? =W.heap[bs]?):Eu W' x bv bs ix:=⟨h1.trans h.obj,h.wR.same h2,h.keys.same h3⟩
def Eu.below{x bs}(h:Eu W x bv bs ix)(hB:vV W W'):Eu W' x bv bs ix:=h.same (hB.block _ (wo h.obj)) (hB.block _ h.wR.lt) (hB.block _ h.keys.lt)
def xD.ox{v}{vs}(h:xD W v vs)(hx:Ox S W W')(hs:∀g∈S,∀cu,W.heap[g]?≠some (.cells cu 80)):xD W' v vs:=by
 obtain⟨a,cap,rfl,h1,h2,h3⟩:=h;refine⟨a,cap,rfl,h1,h2,λi hi=>?_⟩;obtain⟨g,o,cu,e,ho,hc⟩:=h3 i hi;have hb:=hx.block g (wo ho) (λhm=>hs g hm cu ho);exact⟨g,o,cu,e,hb.trans ho,yP hb hc⟩
def Zl2(W):Calls prog 174 #[] W λe W'=>∃x bv bs,e= .returned (vU x)/\Eu W' x bv bs {}/\vV W W'/\W.heap.size<=x/\W.heap.size<=bv/\W.heap.size<=bs/\bv≠bs:=by
 go_enter func174,ntmps174;have Z0:∀(t:TypeId) (w:World),(Instr.makeMap t none).run prog w= .ok (.map (some w.heap.size)) (w.alloc (.map #[] 0)):=λ_ _=>rfl;go_wp2;go_ret;obtain⟨a1,a2,a3⟩:=OI W (.map #[] 0) (.map #[] 0) (.cells #[.map (some W.heap.size),.map (some (W.heap.size+1))] 482);exact⟨_,_,_,rfl,⟨a3,⟨_,_,a1,rfl,λi h=>ax⟩,⟨_,_,a2,rfl,λi h=>ax⟩⟩,Ui W _ _ _,Z,Z,Z,Z⟩
def ZhJ(W)(x bv bs)(ix)(rv)(row)(h:Eu W x bv bs ix)(hr:xD W rv row)(hl:row.length<=1000)(AA:ix.wR.length<=100000):Calls prog 242 #[vU x,rv] W λe W'=>e= .returned (.tuple #[.int .i64 ((ix.at_ row).getD 0:Nat),.bool (ix.at_ row).isSome])/\vV W W':=by
 have HK:=vR (ZsR W x bv bs ix rv row h hr hl AA);have HA:Hid (ix.at_ row=(EB ix.wR row).bind λk=>ix.keys.idxOf? k):=rfl;generalize ix.at_ row=R at HA ⊢;have GI:=fun(w:World) (hB:vV W w) (v:vS)=>ZAi (h.keys.same (hB.block bs h.keys.lt)) v;have RA:=vR GI;have Dx:=(wo h.obj);have yV:=zS h.obj;obtain⟨ra,rc,rfl,_⟩:=hr;clear h GI;generalize EB ix.wR row=kk at *;unfold vU at *;go_enter func242,ntmps242;go_wp2_with fail;refine HK.out.mono ?_;rintro e w1 ⟨rfl,wE⟩;cases kk with
 |none=>
  go_wp2_with fail;go_ret2;exact⟨by rw[HA.out];rfl,wE⟩
 |some k=>
  have El:=RA.out w1 wE k;have ZW3:=wT wE Dx yV;simp only[Option.getD_some,Option.isSome_some];have IZ:Hid (R=ix.keys.idxOf? k):=HA.out;generalize ix.keys.idxOf? k=R2 at *;go_wp2_with fail;go_ret2;exact⟨by rw[IZ.out];rfl,wE⟩
def ZDJ{l:List wG}{x y:wG}(h:y∈l):y∈Bh l x:=by
 unfold Bh;split
 ·exact h
 ·exact List.mem_append_left _ h
def ZDK(l)(x:wG):x∈Bh l x:=by
 unfold Bh;split
 ·assumption
 ·simp
theorem Zuz:∀(r l:List wG) y,(y∈l\/y∈r)->y∈r.foldl Bh l
 | [],l,y,h=>by
  rcases h with h|h
  ·exact h
  ·cases h
 |v::r,l,y,h=>by
  rw[List.foldl_cons];refine Zuz r (Bh l v) y ?_;rcases h with h|h
  ·exact .inl (ZDJ h)
  ·rcases oQ.1 h with rfl|h
   ·exact .inl (ZDK l _)
   ·exact .inr h
theorem Zyk{vs:List wG}:∀{row:List wG},(∀v∈row,v∈vs)->∃k,EB vs row=some k
 | [],_=>⟨[],rfl⟩
 |v::row,h=>by
  obtain⟨k,hk⟩:=Zyk (row:=row) (λu hu=>h u (qb _ hu));rw[EB,hk];cases hi:vs.idxOf? v with
  |none=>exact absurd (h v tF) (Zf5 hi)
  |some n=>exact⟨_,rfl⟩
theorem ZxU:∀l (x:vS),l.idxOf? x=none->(l++ [x]).idxOf? x=some l.length
 | [],x,_=>by simp[rM]
 |a::l,x,h=>by
  rw[rM]at h;cases hb:a==x with
  |true=>rw[hb]at h;simp at h
  |false=>
   rw[hb]at h;have h':l.idxOf? x=none:=by cases hl:l.idxOf? x with|none=>rfl|some i=>rw[hl]at h;simp at h
   rw[List.cons_append,rM,hb,ZxU l x h'];simp
def ZDI(l)(x:vS):(Bh l x).idxOf? x=some (Pw l x):=by
 unfold Pw;cases h:l.idxOf? x with
 |some i=>
  have:Bh l x=l:=by unfold Bh;rw[nY (ZjQ h)]
  rw[this,h];rfl
 |none=>
  have:Bh l x=l++ [x]:=by unfold Bh;rw[nU (Zf5 h)]
  rw[this,ZxU l x h];rfl
def ZyY(ix:Ix)(row):∃k,EB (row.foldl Bh ix.wR) row=some k/\ix.number row=⟨row.foldl Bh ix.wR,Bh ix.keys k⟩/\(ix.number row).at_ row=some (Pw ix.keys k):=by
 obtain⟨k,hk⟩:=Zyk (vs:=row.foldl Bh ix.wR) (row:=row) (λv hv=>Zuz row ix.wR v (.inr hv));refine⟨k,hk,by unfold Ix.number;rw[hk];rfl,?_⟩;unfold Ix.at_ Ix.number;simp only[hk,Option.getD_some,Option.bind_some];exact ZDI _ _
def Zsd(l)(x:wG):(Bh l x).length<=l.length+1:=by unfold Bh;split<;>simp
def Zeh(W)(x bv bs)(ix)(rv)(row)(h:Eu W x bv bs ix)(hr:xD W rv row)(hl:row.length<=1000)(AA:ix.wR.length<=90000)(zl:ix.keys.length<=90000)(wF:bv≠bs):Calls prog 241 #[vU x,rv] W λe W'=>e= .returned (.int .i64 (((ix.number row).at_ row).getD 0:Nat))/\Eu W' x bv bs (ix.number row)/\Ox [bv,bs] W W':=by
 obtain⟨key,yU,EH,NM⟩:=ZyY ix row;have HK2:=vR EH;have HK3:Hid (((ix.number row).at_ row).getD 0=Pw ix.keys key):=by show _=_;rw[NM];rfl
 generalize ix.number row=ix' at HK2 HK3 ⊢;have Yx:=vR yU;have HR:=vR hr;have HI:=vR h;obtain⟨ra,rc,rfl,h1,h2,h3⟩:=hr;have HRC:=vR h3;have Dx:=(wo h.obj);have yX:=h.obj;have ZX5:=h.wR.lt;have ZXU:=h.keys.lt;have nxv:x≠bv:=λe=>by obtain⟨es,c,hb,_⟩:=h.wR;rw[<-e,yX]at hb;cases hb
 have nxs:x≠bs:=λe=>by obtain⟨es,c,hb,_⟩:=h.keys;rw[<-e,yX]at hb;cases hb
 have HNV:Hid (∀g∈ [bv,bs],∀cu,W.heap[g]?≠some (.cells cu 80)):=λg hg cu e=>by
  rcases oQ.1 hg with rfl|hg
  ·obtain⟨es,c,hb,_⟩:=HI.out.wR;rw[hb]at e;cases e
  ·rcases oQ.1 hg with rfl|hg
   ·obtain⟨es,c,hb,_⟩:=HI.out.keys;rw[hb]at e;cases e
   ·cases hg
 clear h h3 yU EH NM;unfold vU;go_enter func241,ntmps241;go_wp2_with fail;go_loopg [11] (row.length+1) (λgk iv wr=>∃k:Nat,k<=row.length/\gk=row.length-k+1/\iv= .int .i64 k/\Hid (Eu wr x bv bs ⟨(row.take k).foldl Bh ix.wR,ix.keys⟩/\Ox [bv,bs] W wr/\((row.take k).foldl Bh ix.wR).length<=ix.wR.length+k));case atStart=>exact⟨0,Z,Z,rfl,HI.out,Ox.refl _ _,nV _⟩
 case round=>
  obtain⟨k,hk,rfl,rfl,hI⟩:=hrel;obtain⟨zH,xu,Kl⟩:=hI.out;have NH:=xH zH.obj;have hcy:=zS zH.obj;have Pn:=HR.out.ox xu HNV.out;by_cases hlt:k<row.length
  ·obtain⟨a',c',ee,_,_,hx⟩:=Pn;cases ee;obtain⟨g,o,cu,rfl,hg,Bl⟩:=hx k hlt;have OB:=vR (ZEx wr bv ((row.take k).foldl Bh ix.wR) row[k] zH.wR Z);obtain⟨n1,y1,yB⟩:=Dp row[k];rw[yB]at Bl OB;have HTK:Hid ((row.take (k+1)).foldl Bh ix.wR=Bh ((row.take k).foldl Bh ix.wR) row[k]):=by
    show _=_;rw[o8 hlt,qN];rfl
   have Ju:=vR (oG zH xu);have HLN:=vR Kl;clear hx zH xu hI Kl hg;go_wp2_with fail;refine OB.out.mono ?_;rintro e w1 ⟨rfl,hvm,Qx⟩;go_wp2_with fail;go_roundg (row.length-(k+1)+1);case measure=>omega
   case rel=>
    refine⟨k+1,Z,rfl,ak,⟨(Qx.block x nxv).trans Ju.out.1.obj,?_,Ju.out.1.keys.same (Qx.block bs (p8 wF))⟩,Ju.out.2.trans (Ox.Zy2 Qx ae),?_⟩
    ·rw[HTK.out];exact hvm
    ·rw[HTK.out];have:=Zsd ((row.take k).foldl Bh ix.wR) row[k];have:=HLN.out;omega
  ·obtain rfl:k=row.length:=by omega
   rw[oO (nV _)]at zH Kl;have HKY:=vR (ZsR wr x bv bs _ (.slice ra row.length rc) row zH Pn hl (by show(row.foldl Bh ix.wR).length<=_;omega));simp only[Yx.out,Option.getD_some,Option.isSome_some]at HKY;have Ju:=vR (oG zH xu);have hxw:=(wo zH.obj);clear zH xu hI Kl Pn;go_wp2_with fail;refine HKY.out.mono ?_;rintro e w1 ⟨rfl,wE⟩;have ZW8:=wT wE hxw hcy;have HNS:=vR (ZEw w1 bs ix.keys key (Ju.out.1.keys.same (wE.block bs Ju.out.1.keys.lt)) Z);go_wp2_with fail;refine HNS.out.mono ?_;rintro e w2 ⟨rfl,hsm,Qx⟩;go_wp2_with fail;go_ret;have Kj:=Ju.out.1.below wE;refine⟨by rw[HK3.out];rfl,?_,Ju.out.2.trans ((Ox.vZ wE).trans (Ox.Zy2 Qx ae))⟩;rw[HK2.out];exact⟨(Qx.block x nxs).trans Kj.obj,Kj.wR.same (Qx.block bv wF),hsm⟩
def Tryz.ZMB:(prog.info? 3).map (λi=>(i.zero,i.size,i.bytes))=some (some (.int .i64 0),1,8):=by kernel_rfl
def Ec(ts:List Nat):List Value:=ts.map fun(t:Nat)=>Value.int .i64 (t:Int)
def zC{w:World}{e size n:Nat}{v:Value}(h:w.ownsRow B e size v n xs)(hb:vV w w'):w'.ownsRow B e size v n xs:=by
 refine⟨h.1,?_⟩;rcases h.2 with h0|⟨g,cap,cur,rfl,hg,hh,r⟩
 ·exact jg
 ·exact .inr ⟨g,cap,cur,rfl,hg,xq hb hh,r⟩
def Zgu{w:World}{e n:Nat}{v:Value}(h:w.ownsRow B e sz v n xs){row:Option Nat}(hg:w.grownBy w' row)(wF:∀g,v.ownBlock=some g->some g≠row):w'.ownsRow B e sz v n xs:=by
 refine⟨h.1,?_⟩;rcases h.2 with h0|⟨g,cap,cu,rfl,hb,hh,r⟩
 ·exact jg
 ·exact ji
def Zkm{w:World}{B1 B2 e1 e2 s1 s2 n1 n2:Nat}{v1 v2:Value}{x1 x2:List Value}(h1:w.ownsRow B1 e1 s1 v1 n1 x1)(h2:w.ownsRow B2 e2 s2 v2 n2 x2)(he:e1≠e2):∀g,v1.ownBlock=some g->some g≠v2.ownBlock:=by
 intro g hg e;rcases h1.2 with⟨rfl,_⟩|⟨g1,c1,u1,rfl,_,DK,_⟩
 ·cases hg
 ·rcases h2.2 with⟨rfl,_⟩|⟨g2,c2,u2,rfl,_,hh2,_⟩
  ·cases e
  ·cases hg;cases e;rw[DK]at hh2;cases hh2;exact he rfl
def yN{e n:Nat}{v:Value}(h:W.ownsRow B e sz v n xs):∃a cap,v= .slice a n cap:=by
 rcases h.2 with⟨rfl,rfl⟩|⟨g,cap,cur,rfl,_⟩
 ·exact⟨none,0,rfl⟩
 ·exact⟨_,cap,rfl⟩
def Qc(ob:Obj):Prop:=∀cu ty fr,ob= .cells cu ty fr->ty≠78/\ty≠3/\ty≠281
structure yJ (n b:Nat) (px:Value) (wb:World) (r t rv tv:Value) (m1 m2:Nat) (vs ts:List Value) (w:World):Prop where
 o1:w.ownsRow n 78 1 rv m1 vs
 o2:w.ownsRow n 3 1 tv m2 ts
 Bi:w.heap[b]? =some (.cells #[px,r,t] 281)
 wJ:∀(g:Nat) (ob:Obj),Qc ob->wb.heap[g]? =some ob->w.heap[g]? =some ob
 low:Below n wb w
 le:n<=w.heap.size
 gb:n<=b
section
variable {n b:Nat} {px:Value} {wb:World} {r t rv tv:Value} {m1 m2:Nat} {vs ts:List Value} {w w':World}
def yJ.below(h:yJ n b px wb r t rv tv m1 m2 vs ts w)(hB:vV w w'):yJ n b px wb r t rv tv m1 m2 vs ts w':=
 ⟨zC h.o1 hB,zC h.o2 hB,xq hB h.Bi,λg ob h1 h2=>(hB.block g (wo (h.wJ g ob h1 h2))).trans (h.wJ g ob h1 h2),h.low.trans (hB.mono h.le),om h.le hB.size,h.gb⟩
theorem yJ.alloc(h:yJ n b px wb r t rv tv m1 m2 vs ts w)(o):yJ n b px wb r t rv tv m1 m2 vs ts (w.alloc o):=h.below ((uQ _ w).alloc (nV _) _)
theorem yJ.drew(h:yJ n b px wb r t rv tv m1 m2 vs ts w):yJ n b px wb r t rv tv m1 m2 vs ts w.drew:=h.below (FR (uQ _ w))
def ZAs{w:World}{n e:Nat}{v:Value}(h:w.ownsRow n e sz v m xs)(he:e=78\/e=3){g:Nat}{ob}(hs:Qc ob)(ho:w.heap[g]? =some ob):some g≠v.ownBlock:=by
 intro e2;rcases h.2 with⟨rfl,_⟩|⟨g1,c1,u1,rfl,_,hh,_⟩
 ·cases e2
 ·cases e2;rw[ho]at hh;have:=hs u1 e (0,0) (oN hh);rcases he with he|he
  ·exact this.1 he
  ·exact this.2.1 he
def Zbv{w:World}{n e b:Nat}{v:Value}{cu:Array Value}(h:w.ownsRow n e sz v m xs)(he:e≠281)(ho:w.heap[b]? =some (.cells cu 281)):some b≠v.ownBlock:=by
 intro e2;rcases h.2 with⟨rfl,_⟩|⟨g1,c1,u1,rfl,_,hh,_⟩
 ·cases e2
 ·cases e2;rw[ho]at hh;cases hh;exact he rfl
def yJ.ZIH{Ri:Value}{vs':List Value}(h:yJ n b px wb r t rv tv m1 m2 vs ts w)(hg:w.grownBy w' rv.ownBlock)(ho:w'.ownsRow n 78 1 Ri (m1+1) vs'):yJ n b px wb r t Ri tv (m1+1) m2 vs' ts w':=
 ⟨ho,Zgu h.o2 hg (Zkm h.o2 h.o1 O),(hg.block b (wo h.Bi) (Zbv h.o1 O h.Bi)).trans h.Bi,
  λg ob h1 h2=>(hg.block g (wo (h.wJ g ob h1 h2)) (ZAs h.o1 (.inl rfl) h1 (h.wJ g ob h1 h2))).trans (h.wJ g ob h1 h2),
  h.low.grown hg h.le (λk e=>(h.o1.lt k e).1),om h.le hg.size,h.gb⟩
def yJ.ZII{Tn:Value}{ts':List Value}(h:yJ n b px wb r t rv tv m1 m2 vs ts w)(hg:w.grownBy w' tv.ownBlock)(ho:w'.ownsRow n 3 1 Tn (m2+1) ts'):yJ n b px wb r t rv Tn m1 (m2+1) vs ts' w':=
 ⟨Zgu h.o1 hg (Zkm h.o1 h.o2 O),ho,(hg.block b (wo h.Bi) (Zbv h.o2 O h.Bi)).trans h.Bi,
  λg ob h1 h2=>(hg.block g (wo (h.wJ g ob h1 h2)) (ZAs h.o2 (.inr rfl) h1 (h.wJ g ob h1 h2))).trans (h.wJ g ob h1 h2),
  h.low.grown hg h.le (λk e=>(h.o2.lt k e).1),om h.le hg.size,h.gb⟩
def Ia{w:World}{n e g o:Nat}{v u:Value}(h:w.ownsRow n e sz v m xs)(hn:some g≠v.ownBlock):(w.setCell ⟨g,o,none⟩ u).ownsRow n e sz v m xs:=by
 refine⟨h.1,?_⟩;rcases h.2 with h0|⟨g1,cap,cu,rfl,hb,hh,r⟩
 ·exact jg
 ·exact jl
def yJ.BX(h:yJ n b px wb r t rv tv m1 m2 vs ts w)(u):yJ n b px wb u t rv tv m1 m2 vs ts (w.setCell ⟨b,1,none⟩ u):=
 ⟨Ia h.o1 (Zbv h.o1 O h.Bi),Ia h.o2 (Zbv h.o2 O h.Bi),by have:=zD (k:=1) (u:=u) h.Bi;simpa using this,
  λg ob h1 h2=>(uX w ⟨b,1,none⟩ u g (λe=>iw)).trans (h.wJ g ob h1 h2),
  h.low.setCell (p:=⟨b,1,none⟩) h.gb _,by rw[Bf];exact h.le,h.gb⟩
def yJ.ZSA(h:yJ n b px wb r t rv tv m1 m2 vs ts w)(u):yJ n b px wb r u rv tv m1 m2 vs ts (w.setCell ⟨b,2,none⟩ u):=
 ⟨Ia h.o1 (Zbv h.o1 O h.Bi),Ia h.o2 (Zbv h.o2 O h.Bi),by have:=zD (k:=2) (u:=u) h.Bi;simpa using this,
  λg ob h1 h2=>(uX w ⟨b,2,none⟩ u g (λe=>iw)).trans (h.wJ g ob h1 h2),
  h.low.setCell (p:=⟨b,2,none⟩) h.gb _,by rw[Bf];exact h.le,h.gb⟩
def yJ.cells(h:yJ n b px wb r t rv tv m1 m2 vs ts w):w.cell? ⟨b,1,none⟩=some r/\w.cell? ⟨b,2,none⟩=some t/\w.frozen? ⟨b,1,none⟩=false/\w.frozen? ⟨b,2,none⟩=false:=by
 simp[World.cell?,World.frozen?,h.Bi]
end
section
variable {n b:Nat} {px:Value} {wb:World} {r t rv tv:Value} {m1 m2:Nat} {vs ts:List Value} {w w':World}
def ZqH{o:Oper}{a:Act}(hgd:o.guard=none)(s x)(ho:o.op= .call {callee:=.builtin .append,args:=#[s,x],argTypes:=#[67,67]})(Ex:yJ n b px wb r t rv tv m1 m2 vs ts w)(hs:a.eval s=rv)(ad)(xa)(xn xc)(hx:a.eval x= .slice (some ad) 1 1)(hc:w.cell? (ad.add 0)=some (.slice xa xn xc))(wF:m1<=1000000)(h:∀g cap w',yJ n b px wb r t (.slice (some ⟨g,0,none⟩) (m1+1) cap) tv (m1+1) m2 (vs++ [.slice xa xn xc]) ts w'->(∀(c:Nat) cu,w.heap[c]? =some (.cells cu 3)->w'.heap[c]? =some (.cells cu 3))->w.heap.size<=w'.heap.size->K (a.put o.dst (.slice (some ⟨g,0,none⟩) (m1+1) cap)) w'):if Region.wanted o (yielded ops a.tmps)=true then Oper.wp prog o a w K Q else E:=by
 obtain⟨j0,hj,hy0,GK,hy2⟩:=uV Tryz.ZjS;refine qz _ hgd s x 67 ho n 78 j0 (.slice none 0 0) 1 24 underlying67 hj hy0 GK hy2 rfl O rv m1 vs hs Ex.o1 ad 1 1 [.slice xa xn xc] hx rfl (λj u hj=>?_) au Z aj Z Ex.le _ rfl ?_
 ·rcases j with _|j
  ·simp at hj;subst hj;exact hc
  ·simp at hj
 ·intro g cap w' wD xQ _ _;refine h g cap w' (Ex.ZIH xQ wD) (λc cu e=>(xQ.block c (wo e) λe2=>?_).trans e) xQ.size;rcases Ex.o1.2 with⟨e3,_⟩|⟨g1,c1,u1,e3,_,DK,_⟩
  ·rw[e3]at e2;cases e2
  ·rw[e3]at e2;cases e2;rw[e]at DK;cases DK
def Ya{o:Oper}{a:Act}(hgd:o.guard=none)(s x)(ho:o.op= .call {callee:=.builtin .append,args:=#[s,x],argTypes:=#[32,32]})(Ex:yJ n b px wb r t rv tv m1 m2 vs ts w)(hs:a.eval s=tv)(ad)(ty)(hx:a.eval x= .slice (some ad) 1 1)(hc:w.cell? (ad.add 0)=some (.int .i64 ty))(wF:m2<=1000000)(h:∀g cap w',yJ n b px wb r t rv (.slice (some ⟨g,0,none⟩) (m2+1) cap) m1 (m2+1) vs (ts++ [.int .i64 ty]) w'->w.heap.size<=w'.heap.size->K (a.put o.dst (.slice (some ⟨g,0,none⟩) (m2+1) cap)) w'):if Region.wanted o (yielded ops a.tmps)=true then Oper.wp prog o a w K Q else E:=by
 obtain⟨j0,hj,hy0,GK,hy2⟩:=uV Tryz.ZMB;refine qz _ hgd s x 32 ho n 3 j0 (.int .i64 0) 1 8 underlying32 hj hy0 GK hy2 rfl O tv m2 ts hs Ex.o2 ad 1 1 [.int .i64 ty] hx rfl (λj u hj=>?_) au Z aj Z Ex.le _ rfl ?_
 ·rcases j with _|j
  ·simp at hj;subst hj;exact hc
  ·simp at hj
 ·intro g cap w' wD xQ _ _;exact h g cap w' (Ex.ZII xQ wD) xQ.size
end
end Go.Proofs.YtncnkiabjhhclaaGreatDoor
