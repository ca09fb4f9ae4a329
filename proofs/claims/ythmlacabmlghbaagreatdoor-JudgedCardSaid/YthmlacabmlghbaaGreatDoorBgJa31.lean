import Derived.Test.YthmlacabmlghbaaGreatDoorBgJa30
set_option maxRecDepth 100000
set_option maxHeartbeats 8000000
set_option linter.unusedSimpArgs false
set_option linter.unusedVariables false
namespace Go.Proofs.YthmlacabmlghbaaGreatDoor
open Go.Proofs.Tryz
theorem ZU1{p:Prop}(h:p:=by have HX:=(show Hid _ from hx);clear hx;go_enter func175,ntmps175;go_wp2_with fail;go_ret;exact⟨ZPt,Below.refl _ _⟩):p:=h
theorem ZUR{p:Prop}(h:p:=by go_wp2_with fail;refine hone.mono ?_;rintro e w2 ⟨rfl,hB2⟩;go_wp2_with fail;go_ret;exact⟨⟨k,rfl,U,U,⟨fun _=>HE.out,fun _=>U⟩⟩,hB.trans (hB2.mono hB.size)⟩):p:=h
theorem ZUP{p:Prop}(h:p:=by go_wp2_with fail;go_ret;exact⟨⟨-1,rfl,U,U,⟨fun h=>U,fun h=>absurd h HM.out⟩⟩,hB⟩):p:=h
theorem ZSI{p:Prop}(h:p:=by clear h3;go_wp2_with fail;go_ret;exact⟨Xw HC.out.symm,hB⟩):p:=h
open Go.RowKit
theorem ZMr(y:Value)(w:World):(Instr.typeAssert (.iface 398 y) 318 403 true).run prog w= .ok (.tuple #[.agg #[.nilIface],.bool false]) w:=by kernel_rfl
theorem ZMs(y:Value)(w:World):(Instr.typeAssert (.iface 398 y) 318 407 true).run prog w= .ok (.tuple #[.agg #[.nilIface,.string ⟨#[]⟩,.nilIface],.bool false]) w:=by kernel_rfl
theorem ZMt(y:Value)(w:World):(Instr.typeAssert (.iface 398 y) 318 410 true).run prog w= .ok (.tuple #[.agg #[.string ⟨#[]⟩,.nilIface],.bool false]) w:=by kernel_rfl
theorem ZMo(y:Value)(w:World):(Instr.typeAssert (.iface 344 y) 318 403 true).run prog w= .ok (.tuple #[.agg #[.nilIface],.bool false]) w:=by kernel_rfl
theorem ZMp(y:Value)(w:World):(Instr.typeAssert (.iface 344 y) 318 407 true).run prog w= .ok (.tuple #[.agg #[.nilIface,.string ⟨#[]⟩,.nilIface],.bool false]) w:=by kernel_rfl
theorem ZMq(y:Value)(w:World):(Instr.typeAssert (.iface 344 y) 318 410 true).run prog w= .ok (.tuple #[.agg #[.string ⟨#[]⟩,.nilIface],.bool false]) w:=by kernel_rfl
def UW(l:Value)(x:Tr):Prop:=∀W,Calls prog 175 #[l] W fun e W'=>e= .returned (.bool (ZL x))/\Below W.heap.size W W'
theorem Znx(y:Value)(x:Tr)(hx:ZL x=false):UW (.iface 398 y) x:=by
 intro W;have t2:=ZMr y;have t3:=ZMs y;have t4:=ZMt y;exact ZU1
theorem ZDs(y:Value)(x:Tr)(hx:ZL x=false):UW (.iface 344 y) x:=by
 intro W;have t2:=ZMo y;have t3:=ZMp y;have t4:=ZMq y;exact ZU1
theorem Zti(s:Za)(v:Value)(hv:v= .nilIface\/∃n y,v= .iface n y)(x:Tr)(hx:ZL x=true):UW (.iface 410 (.agg #[.string ⟨s.toArray⟩,v])) x:=by
 intro W;have t2:=Zps (.agg #[.string ⟨s.toArray⟩,v]);have t3:=Zpt (.agg #[.string ⟨s.toArray⟩,v]);have t4:=Zpu (.agg #[.string ⟨s.toArray⟩,v]);have HX:=(show Hid _ from hx);clear hx;rcases hv with rfl|⟨n,y,rfl⟩;all_goals
  go_enter func175,ntmps175;go_wp2_with fail;go_ret;exact⟨ZPt,(ZWT _ W).alloc (ZWS _) _⟩
theorem ZDt(l:Value)(x:Tr)(hl:UW l x)(hil:∃n y,l= .iface n y):UW (.iface 403 (.agg #[l])) (nd {kind:= [110,101,103]} (l1 x)):=by
 intro W;have hc:ZL (nd {kind:= [110,101,103]} (l1 x))=ZL x:=by
  rw[nd,ZL,l1,ZL,ZL,ZYc];have:decide (([110,101,103]:Za)∈Yf)=false:=ZPl
  simp[this]
 obtain⟨ln,ly,rfl⟩:=hil;have t2:=ZwP (.agg #[.iface ln ly]);have HL:=(show Hid _ from hl);rw[hc];clear hc hl;generalize ZL x=c at *;go_enter func175,ntmps175;go_wp2_with fail;refine(HL.out _).mono ?_;rintro e w1 ⟨rfl,hB⟩;go_wp2_with fail;go_ret;exact⟨rfl,((ZWT _ W).alloc (ZWS _) _).trans (hB.mono ZPm)⟩
theorem ZDr(l r:Value)(x y:Tr)(s:Za)(hs:s∈Ec)(hl:UW l x)(hr:UW r y)(hil:∃n y,l= .iface n y)(hir:∃n y,r= .iface n y):UW (.iface 407 (.agg #[l,Zv s,r])) (nd {kind:=s} (l2 x y)):=by
 intro W;have hc:ZL (nd {kind:=s} (l2 x y))=(ZL x||ZL y):=by
  rw[nd,ZL,l2,ZL,ZL,ZL,ZYc];have:decide (s∈Yf)=false:=by
   simp only[Ec,ZW3,ZXV,ZXK]at hs;rcases hs with rfl|rfl|rfl|rfl|rfl<;>decide
  simp[this]
 obtain⟨ln,ly,rfl⟩:=hil;obtain⟨rn,ry,rfl⟩:=hir;have t2:=ZwN (.agg #[.iface ln ly,.string ⟨s.toArray⟩,.iface rn ry]);have t3:=ZwO (.agg #[.iface ln ly,.string ⟨s.toArray⟩,.iface rn ry]);have HL:Hid (∀W,Calls prog 175 #[.iface ln ly] W fun e W'=>e= .returned (.bool (ZL x))/\Below W.heap.size W W'):=hl;have HR:Hid (∀W,Calls prog 175 #[.iface rn ry] W fun e W'=>e= .returned (.bool (ZL y))/\Below W.heap.size W W'):=hr;rw[hc];clear hc hl hr hs;generalize ZL x=cx at *;generalize ZL y=cy at *;unfold Zv;cases cx with
 |true=>
  go_enter func175,ntmps175;go_wp2_with fail;generalize Yb:W.alloc (.cells #[.iface ln ly,.string ⟨s.toArray⟩,.iface rn ry] 407)=Wp;have ZE:Below W.heap.size W Wp:=by rw[<-Yb];exact(ZWT _ W).alloc (ZWS _) _
  have Zn:Wp.heap[W.heap.size]? =some (.cells #[.iface ln ly,.string ⟨s.toArray⟩,.iface rn ry] 407 (0,0)):=by rw[<-Yb];exact ZWV W _
  clear Yb;refine(HL.out _).mono ?_;rintro e w1 ⟨rfl,hB⟩;have hB1:=ZE.trans (hB.mono ZE.size);obtain⟨c0,c1,c2,_⟩:=YW ((hB.block W.heap.size (ZWU.1 Zn).1).trans Zn);go_wp2_with fail;go_ret;exact⟨rfl,hB1⟩
 |false=>
  go_enter func175,ntmps175;go_wp2_with fail;generalize Yb:W.alloc (.cells #[.iface ln ly,.string ⟨s.toArray⟩,.iface rn ry] 407)=Wp;have ZE:Below W.heap.size W Wp:=by rw[<-Yb];exact(ZWT _ W).alloc (ZWS _) _
  have Zn:Wp.heap[W.heap.size]? =some (.cells #[.iface ln ly,.string ⟨s.toArray⟩,.iface rn ry] 407 (0,0)):=by rw[<-Yb];exact ZWV W _
  clear Yb;refine(HL.out _).mono ?_;rintro e w1 ⟨rfl,hB⟩;have hB1:=ZE.trans (hB.mono ZE.size);obtain⟨c0,c1,c2,_⟩:=YW ((hB.block W.heap.size (ZWU.1 Zn).1).trans Zn);go_wp2_with fail;refine(HR.out _).mono ?_;exact ZV9
theorem Jr.ZIk(a b c:Jr):(a.or b).or c=a.or (b.or c):=by simp[Jr.or,ZXx]
theorem Zuu:∀(l:List Tr) (x:Tr) (ss:List Sc),ZY (l++ [x]) ss=((ZY l ss).1++ [(Qo x.kids ss).1],(ZY l ss).2.or (Qo x.kids ss).2)
 | [],x,ss=>by simp[ZY,Jr.or]
 |y::l,x,ss=>by
  rw[List.cons_append,ZY,Zuu l x ss,ZY,Jr.ZIk];rfl
theorem Zut{ss:List Sc}{x:Tr}:∀{l:List Tr},x∈l->(Qo x.kids ss).2.lost=true->(ZY l ss).2.lost=true
 |y::l,hx,h=>by
  rw[ZY];rcases ZW3.1 hx with e|e
  ·subst e;simp[Jr.or,h]
  ·simp[Jr.or,Zut e h]
def JU(p:Value×Za×Tr):Tr:=nd {kind:= [105,116,101,109],Zx:=p.2.1} (l1 p.2.2)
theorem ZFm(p:Value×Za×Tr)(ss:List Sc):Qo (JU p).kids ss=jx p.2.2 ss:=rfl
def itV(p:Value×Za×Tr):Value×Value:=(p.1,Zv p.2.1)
def JA(xs:List XS):List Int:=xs.flatMap fun x=>x.Ze.map (·.2)
theorem Zzb(xs:List XS)(x:XS):JA (xs++ [x])=JA xs++x.Ze.map (·.2):=by simp[JA]
theorem ZqF{xs:List XS}(h:∀x∈xs,x.Ze.length<=6):(JA xs).length<=6*xs.length:=by
 induction xs with
 |nil=>simp[JA]
 |cons x xs ih=>
  have h1:=h x ZXn;have h2:=ih fun y hy=>h y (ZXe _ hy);unfold JA at *;rw[List.flatMap_cons,ZW9,ZW5,List.length_cons];omega
theorem Xk.JA{s:Sc}{xs:List XS}(h:Xk s xs):(s.tabs.flatMap (·.types)).map ZI=JA xs:=by
 have key:∀(ts:List Tb) (xs:List XS),ts.length=xs.length->(∀(i:Nat) (t:Tb) (x:XS),ts[i]? =some t->xs[i]? =some x->Zjd t x.Ze)->(∀x∈xs,Zc1 x.Ze)->(ts.flatMap (·.types)).map ZI=_root_.Go.Proofs.YthmlacabmlghbaaGreatDoor.JA xs:=by
  intro ts;induction ts with
  |nil=>intro xs hl _ _;cases xs with
   |nil=>rfl
   |cons x xs=>simp at hl
  |cons t ts ih=>
   intro xs hl ht ho;cases xs with
   |nil=>simp at hl
   |cons x xs=>
    have h1:=ht 0 t x rfl rfl;have h2:=ih xs (by simpa using hl) (fun i t' x' e1 e2=>ht (i+1) t' x' (by simpa using e1) (by simpa using e2)) (fun y hy=>ho y (ZXe _ hy));unfold _root_.Go.Proofs.YthmlacabmlghbaaGreatDoor.JA at *;rw[List.flatMap_cons,List.flatMap_cons,ZWY,h2,h1.2,ZX2];congr 1;refine List.map_congr_left fun c hc=>?_;exact Zxa ((ho x ZXn).ty c hc)
 exact key _ _ h.len h.tabs h.ok
theorem Zvu{W:World}{B:Nat}{v:Value}{ks:List Int}(h:W.ownsRow B 246 1 v ks.length (ks.map fun k=>Value.int .i64 k)):Qj W v ks:=by
 have hc:=fun g=>h.cells (g:=g);rcases h.2 with⟨rfl,h0⟩|⟨g,cap,cu,rfl,_,hh,_⟩
 ·exact ZT2
 ·refine⟨some ⟨g,0,none⟩,cap,rfl,fun i hi=>?_⟩;have hg:∀j u,(ks.map fun k=>Value.int .i64 k)[j]? =some u->W.cell? ⟨g,j,none⟩=some u:=fun j u hj=>by have:=hc g rfl j u hj;rw[ZXE]at this;simpa using this
  exact⟨g,cu,rfl,hh,hg i _ ZSm⟩
def ZdX(s:Sc):Prop:=∀t∈s.tabs,t.types.length=t.Ze.length/\∀ty∈t.types,J6 ty
def Ua(t:Tr):Prop:=∀ss:List Sc,(∀s∈ss,ZdX s)->J6 (jx t ss).1
theorem Xk.ty{s:Sc}{xs:List XS}(h:Xk s xs):ZdX s:=fun t ht=>by
 obtain⟨i,hi,rfl⟩:=ZX4 ht;have hix:i<xs.length:=by rw[<-h.len];exact hi
 obtain⟨h1,h2⟩:=h.tabs i _ _ (ZW1 hi) (ZW1 hix);refine⟨by rw[h1,h2];simp,fun ty hty=>?_⟩;rw[h2]at hty;obtain⟨c,_,rfl⟩:=ZXj.1 hty;exact Zuo _
theorem Ua.ok{t:Tr}(h:Ua t):Er t:=fun ss hss=>h ss fun s hs=>by
 obtain⟨xs,hx⟩:=hss s hs;exact hx.ty
theorem ZEW{ss:List Sc}(h:∀s∈ss,ZdX s):∀s∈inside ss,ZdX s:=by
 intro s hs;cases ss with
 |nil=>cases hs
 |cons s0 up=>
  rcases ZW3.1 hs with rfl|hs
  ·exact h s0 ZXn
  ·exact h s (ZXe _ hs)
theorem ZMD(o s:Za):Ua (nd {kind:= [99,111,108,117,109,110],Zd:=o,text:=s} .nil):=fun ss hss=>by
 have hj:jx (nd {kind:= [99,111,108,117,109,110],Zd:=o,text:=s} .nil) ss=Xb o s ss:=by
  rw[nd,jx,ZWQ ZSa,ZWQ ZSb,ZWR ZSc]
 rw[hj];cases ha:Ye o s ss with
 |none=>rw[Zjy ha];exact .inr (.inr rfl)
 |some p=>
  obtain⟨l,i,c⟩:=p;obtain⟨s',t,e1,e2,e3⟩:=Zfj ha;rw[ZmD ha e1 e2];obtain⟨h1,h2⟩:=hss s' (ZXW e1) t (ZXW e2);have hc:c<t.types.length:=U
  show J6 (t.types.getD c []);rw[ZX6,ZW1 hc];exact h2 _ (ZWX hc)
theorem ZMG(n:Int):Ua (nd {kind:=Yh,num:=n} .nil):=fun ss _=>by
 rw[nd,jx,ZWR (by exact rfl)];exact ZS5
theorem ZMI(s:Za):Ua (nd {kind:=Yd,text:=s} .nil):=fun ss _=>by
 rw[nd,jx,ZWQ (by show ¬Yd=ZcH;decide),ZWR (.inl rfl)];exact .inr (.inl rfl)
theorem ZMF:Ua (nd {kind:= [110,117,108,108]} .nil):=fun ss _=>by
 rw[nd,jx,ZWQ ZPl,ZWR (.inr rfl)];exact .inr (.inr rfl)
theorem ZME(x:Tr):Ua (nd {kind:= [110,101,103]} (l1 x)):=fun ss _=>by
 exact ZWy
theorem ZMC{s:Za}(hs:s∈Ec)(x y:Tr):Ua (nd {kind:=s} (l2 x y)):=fun ss _=>by
 simp only[Ec,ZW3,ZXV,ZXK]at hs;rcases hs with rfl|rfl|rfl|rfl|rfl;all_goals
  exact ZWy
theorem ZMH:Ua (nd {kind:= [99,111,117,110,116],star:=true} .nil):=fun ss _=>by rw[Zuz];exact .inl rfl
theorem ZMB{s:Za}(hs:s∈Yf)(x:Tr)(hx:Ua x):Ua (nd {kind:=s} (l1 x)):=fun ss hss=>by
 rw[Zux hs];show J6 (if _ then _ else _);split
 ·exact hx _ (ZEW hss)
 ·exact ZS5
theorem ZBR{W0:World}{M:Nat}{db:List Tb}(hD:J4 W0 M db):∀t∈db,t.types.length=t.Ze.length/\∀ty∈t.types,J6 ty:=fun t ht=>by
 obtain⟨B,names,tl,_,_,_,_,rfl⟩:=hD.tabs;obtain⟨x,_,rfl⟩:=ZXj.1 ht;refine⟨ZPm,fun ty hty=>?_⟩;obtain⟨c,_,rfl⟩:=ZXj.1 hty;exact Zuo _
theorem Zwq{W0:World}{M:Nat}{db:List Tb}(hD:J4 W0 M db)(fr:Tr):ZdX (XJ db fr).1:=fun t ht=>
 ZBR hD t (ZeS db (elems fr) {} _ (fun t h=>ZPs) t ht)
theorem Zuv{ss:List Sc}(hss:∀s∈ss,ZdX s):∀{l:List Tr},(∀x∈l,∃t,Qo x.kids ss=jx t ss/\Ua t)->∀ty∈(ZY l ss).1,J6 ty
 | [],_,ty,h=>ZPs
 |x::l,hl,ty,h=>by
  rw[ZY]at h;rcases ZW3.1 h with rfl|h
  ·obtain⟨t,e,ht⟩:=hl x ZXn;rw[e];exact ht ss hss
  ·exact Zuv hss (fun y hy=>hl y (ZXe _ hy)) ty h
theorem ZJs{f:Fl}{ti tf tg tw th:Tr}(hk:f.kind=QE){L:List (Value×Za×Tr)}(he:elems ti=L.map JU)(hL:∀p∈L,Ua p.2.2):Zbj (.node f .nil ti tf tg tw th):=fun W0 M db ss hD hsc ty hty=>by
 rw[jq,ZWR hk]at hty;have hss:∀s∈Vs db ti tf tg ss::ss,ZdX s:=fun s hs=>by
  rcases ZW3.1 hs with rfl|hs
  ·exact Zwq hD tf
  ·obtain⟨xs,hx⟩:=hsc s hs;exact hx.ty
 have hty':ty∈ZiC db f ti tf tg ss:=hty;unfold ZiC at hty';rcases ZXt.1 hty' with h|h
 ·refine Zuv hss (fun x hx=>?_) ty h;rw[he]at hx;obtain⟨p,hp,rfl⟩:=ZXj.1 hx;exact⟨p.2.2,rfl,hL p hp⟩
 ·split at h
  ·obtain⟨t,ht,Zks⟩:=List.mem_flatMap.1 h;exact(Zwq hD tf t ht).2 ty Zks
  ·cases h
theorem ZGn(W:World)(b:Nat)(sa:Option Addr)(sn sc:Nat)(oa:Option Addr)(gv:Value)(ka:Option Addr)(kn kc:Nat)(ho:W.heap[b]? =some (.cells #[.slice sa sn sc,.pointer oa,gv] 256 (0,0))):
  Calls prog 126 #[.pointer (some ⟨b,0,none⟩),.slice ka kn kc] W fun e W'=>∃p G,e= .returned (.pointer (some ⟨p,0,none⟩))/\Below W.heap.size W W'/\W.heap.size<=p/\W.heap.size<=G/\W'.heap[p]? =some (.cells #[.slice sa sn sc,.pointer oa,.pointer (some ⟨G,0,none⟩)] 256 (0,0))/\W'.heap[G]? =some (.cells #[.slice ka kn kc,.pointer (some ⟨b,0,none⟩),.slice none 0 0] 274 (0,0)):=by
 obtain⟨c0,c1,c2,_⟩:=YW ho;have hbl:=(ZWU.1 ho).1;go_enter func126,ntmps126;go_wp2_with fail;have d0:∀o,(W.drew.alloc o).cell? ⟨b,0,none⟩=some (.slice sa sn sc):=fun o=>(ZW6 W.drew o ⟨b,0,none⟩ hbl).trans c0;have d1:∀o,(W.drew.alloc o).cell? ⟨b,1,none⟩=some (.pointer oa):=fun o=>(ZW6 W.drew o ⟨b,1,none⟩ hbl).trans c1;have e0:∀o,(W.alloc o).cell? ⟨b,0,none⟩=some (.slice sa sn sc):=fun o=>(ZW6 W o ⟨b,0,none⟩ hbl).trans c0;have e1:∀o,(W.alloc o).cell? ⟨b,1,none⟩=some (.pointer oa):=fun o=>(ZW6 W o ⟨b,1,none⟩ hbl).trans c1;have HF:Hid (∀(o1 o2:Obj),Below W.heap.size W ((W.alloc o1).alloc o2).drew/\((W.alloc o1).alloc o2).drew.heap[W.heap.size]? =((W.alloc o1)).heap[W.heap.size]?/\((W.alloc o1).alloc o2).drew.heap[W.heap.size+1]? =((W.alloc o1).alloc o2).heap[(W.alloc o1).heap.size]?):=fun o1 o2=>⟨ZW (((ZWT _ W).alloc (ZWS _) _).alloc ZPm _) 1,ZXa _ _ _ ZPm,by rw[World.size_alloc];rfl⟩;go_region;all_goals
  go_wp2;go_ret;obtain⟨hB,h1,h2⟩:=HF.out (.cells #[.slice ka kn kc,.pointer (some ⟨b,0,none⟩),.slice none 0 0] 274 (0,0)) (.cells #[.slice sa sn sc,.pointer oa,.pointer (some ⟨W.heap.size,0,none⟩)] 256 (0,0));exact⟨W.heap.size+1,W.heap.size,rfl,hB,U,ZWS _,h2.trans (ZWV _ _),h1.trans (ZWV _ _)⟩
theorem ZGE(W:World)(g:Nat)(s t:Za)(c0:W.cell? ⟨g,0,none⟩=some (.string ⟨s.toArray⟩))(c1:W.cell? ⟨g,1,none⟩=some (.string ⟨t.toArray⟩)):
  Calls prog 160 #[.slice (some ⟨g,0,none⟩) 2 2] W fun e w'=>e= .returned (.string ⟨(if s= []then t else s).toArray⟩)/\W=w':=by
 go_enter func160,ntmps160;go_wp2_with fail;go_loopg [8] 3 (fun gk iv wr=>∃k:Nat,k<=2/\gk=3-k/\iv= .int .i64 k/\W=wr/\Hid (1<=k->s= [])/\Hid (2<=k->t= []));case atStart=>exact⟨0,U,U,rfl,rfl,fun h=>U,fun h=>U⟩
 case round=>
  obtain⟨k,hk,rfl,rfl,rfl,h1,h2⟩:=hrel;rcases k with _|_|_|k
  ·by_cases hs:s= []
   ·have HS:Hid (s= []):=hs;subst hs;go_wp2_with fail;go_roundg 2;case measure=>omega
    case rel=>exact⟨1,U,rfl,rfl,rfl,ZRC,fun h=>U⟩
   ·have hb:(s== [])=false:=by simpa using hs
    have HS:Hid (s≠ []):=hs;clear hs;go_wp2_with fail;go_ret;exact⟨by first|rfl|(rw[ZWQ HS.out];rfl),rfl⟩
  ·have HS:Hid (s= []):=h1.out U;by_cases ht:t= []
   ·subst ht;go_wp2_with fail;go_roundg 1;case measure=>omega
    case rel=>exact⟨2,U,rfl,rfl,rfl,fun _=>HS.out,ZRC⟩
   ·have hb:(t== [])=false:=by simpa using ht
    clear ht;go_wp2_with fail;go_ret;exact⟨by first|rfl|(rw[ZWR HS.out];rfl),rfl⟩
  ·have HS:Hid (s= []):=h1.out U;have HT:Hid (t= []):=h2.out U;go_wp2_with fail;go_ret;exact⟨by first|rfl|(rw[ZWR HS.out,HT.out];rfl)|(rw[HT.out];rfl),rfl⟩
  ·omega
def Zd0(W:World)(sa:Option Addr)(xs:List XS):Prop:=∀i (h:i<xs.length),∃g f,sa=some ⟨g,0,none⟩/\W.cell? ⟨g,i*3,none⟩=some (.string ⟨xs[i].name.toArray⟩)/\W.cell? ⟨g,i*3+1,none⟩=some (.pointer (some ⟨xs[i].T,0,none⟩))/\W.cell? ⟨g,i*3+2,none⟩=some (.int .i64 f)
theorem Zd0.below{W W':World}{sa:Option Addr}{xs:List XS}(h:Zd0 W sa xs)(hB:Below W.heap.size W W'):Zd0 W' sa xs:=fun i hi=>by
 obtain⟨g,f,e,c0,c1,c2⟩:=h i hi;exact⟨g,f,e,(hB.cell (p:=⟨g,i*3,none⟩) (ZWW W _ c0)).trans c0,(hB.cell (p:=⟨g,i*3+1,none⟩) (ZWW W _ c1)).trans c1,(hB.cell (p:=⟨g,i*3+2,none⟩) (ZWW W _ c2)).trans c2⟩
theorem ZGI(W:World)(b:Nat)(nm on:Za)(pv:Option Addr)(f:Int)(c:W.cell? ⟨b,0,none⟩=some (.string ⟨nm.toArray⟩)):
  Calls prog 162 #[.agg #[.string ⟨on.toArray⟩,.pointer pv,.int .i64 f],.pointer (some ⟨b,0,none⟩)] W fun e w'=>e= .returned (.bool (on==nm))/\Below W.heap.size W w':=by
 have hbl:=ZWW W _ c;go_enter func162,ntmps162;go_wp2_with fail;go_ret;exact⟨rfl,(ZWT _ W).alloc (ZWS _) _⟩
theorem ZGq(W:World)(sa:Option Addr)(cap b:Nat)(xs:List XS)(nm:Za)(hS:Zd0 W sa xs)(hl:xs.length<=400)(hc:W.cell? ⟨b,0,none⟩=some (.string ⟨nm.toArray⟩)):
  Calls prog 204 #[.slice sa xs.length cap,.func (.func 162) #[] #[.pointer (some ⟨b,0,none⟩)]] W fun e w'=>(∃n:Int,e= .returned (.int .i64 n)/\ -1<=n/\n<=400/\(0<=n↔nm∈xs.map (·.name)))/\Below W.heap.size W w':=by
 have HS:=(show Hid _ from hS);have hbl:=ZWW W _ hc;clear hS;go_enter func204,ntmps204;go_wp2_with fail;go_loopg [8] (xs.length+1) (fun gk iv wr=>∃k:Nat,k<=xs.length/\gk=xs.length-k+1/\iv= .int .i64 k/\Below W.heap.size W wr/\Hid (∀j (hj:j<xs.length),j<k->xs[j].name≠nm));case atStart=>exact⟨0,U,U,rfl,ZWT _ _,fun j _ h=>U⟩
 case round=>
  obtain⟨k,hk,rfl,rfl,hB,hno⟩:=hrel;by_cases hlt:k<xs.length
  ·obtain⟨g,f,rfl,q0,q1,q2⟩:=Zd0.below HS.out hB k hlt;have hcr:=(hB.cell (p:=⟨b,0,none⟩) hbl).trans hc;have hki:(k:Int)<(xs.length:Int):=by omega
   have HM:Hid (nm∈xs.map (·.name)\/xs[k].name≠nm):=by
    by_cases h:xs[k].name=nm
    ·exact .inl (ZXj.2 ⟨_,ZWX hlt,h⟩)
    ·exact .inr h
   have hone:=ZGI wr b nm xs[k].name (some ⟨xs[k].T,0,none⟩) f hcr;by_cases he:xs[k].name=nm
   ·have HE:Hid (nm∈xs.map (·.name)):=ZXj.2 ⟨_,ZWX hlt,he⟩;rw[show(xs[k].name==nm)=true from by simpa using he]at hone;clear he HM;generalize xs[k]=x at *;exact ZUR
   ·have HN:Hid (∀j (hj:j<xs.length),j<k+1->xs[j].name≠nm):=fun j hj h=>by
     by_cases e:j=k
     ·subst e;exact he
     ·exact hno.out j hj U
    rw[show(xs[k].name==nm)=false from by simpa using he]at hone;clear he HM;generalize xs[k]=x at *;go_wp2_with fail;refine hone.mono ?_;rintro e w2 ⟨rfl,hB2⟩;go_wp2_with fail;go_roundg (xs.length-(k+1)+1);case measure=>omega
    case rel=>exact ZTZ
  ·have HM:Hid (nm∉xs.map (·.name)):=fun hm=>by
    obtain⟨x,hx,e⟩:=ZXj.1 hm;obtain⟨j,hj,rfl⟩:=ZX4 hx;exact hno.out j hj U e
   exact ZUP
theorem ZGi(W:World)(sa:Option Addr)(cap b:Nat)(xs:List XS)(nm:Za)(hS:Zd0 W sa xs)(hl:xs.length<=400)(hc:W.cell? ⟨b,0,none⟩=some (.string ⟨nm.toArray⟩)):
  Calls prog 161 #[.slice sa xs.length cap,.func (.func 162) #[] #[.pointer (some ⟨b,0,none⟩)]] W fun e w'=>e= .returned (.bool ((xs.map (·.name)).contains nm))/\Below W.heap.size W w':=by
 go_enter func161,ntmps161;go_wp2_with fail;refine(ZGq _ sa cap b xs nm hS hl hc).mono ?_;rintro e w' ⟨⟨n,rfl,h1,h2,h3⟩,hB⟩;have HC:Hid ((xs.map (·.name)).contains nm=decide (0<=n)):=by
  show _=_;rw[ZXG,ZXw,h3,ZXI]
 exact ZSI
def ItC(W:World)(ia:Option Addr)(its:List (Value×Value)):Prop:=∀i (h:i<its.length),∃g,ia=some ⟨g,0,none⟩/\W.cell? ⟨g,i*2,none⟩=some its[i].1/\W.cell? ⟨g,i*2+1,none⟩=some its[i].2
theorem ItC.below{n:Nat}{W W':World}{ia:Option Addr}{its:List (Value×Value)}(h:ItC W ia its)(hB:Below W.heap.size W W'):ItC W' ia its:=fun i hi=>by
 obtain⟨g,e,c0,c1⟩:=h i hi;exact⟨g,e,(hB.cell (p:=⟨g,i*2,none⟩) (ZWW W _ c0)).trans c0,(hB.cell (p:=⟨g,i*2+1,none⟩) (ZWW W _ c1)).trans c1⟩
def ItP(x:Value×Value)(t:Tr):Prop:=(∃n y,x.1= .iface n y)/\(∃s:Za,x.2= .string ⟨s.toArray⟩)/\UW x.1 t
theorem ZGA(W:World)(n:TypeId)(y:Value)(s:Za)(t:Tr)(h:UW (.iface n y) t):
  Calls prog 174 #[.agg #[.iface n y,.string ⟨s.toArray⟩]] W fun e w'=>e= .returned (.bool (ZL t))/\Below W.heap.size W w':=by
 have HH:=(show Hid _ from h);clear h;go_enter func174,ntmps174;go_wp2_with fail;refine(HH.out _).mono ?_;rintro e w2 ⟨rfl,hB2⟩;go_wp2_with fail;go_ret;exact⟨rfl,((ZWT _ W).alloc (ZWS _) _).trans (hB2.mono ZPm)⟩
theorem ZGp(W:World)(ia:Option Addr)(cap:Nat)(its:List (Value×Value))(ts:List Tr)(hI:ItC W ia its)(hlen:its.length=ts.length)(hl:its.length<=100000)(hp:∀(i:Nat) x t,its[i]? =some x->ts[i]? =some t->ItP x t):
  Calls prog 225 #[.slice ia its.length cap,.func (.func 174) #[] #[]] W fun e w'=>(∃n:Int,e= .returned (.int .i64 n)/\ -1<=n/\n<=100000/\(0<=n↔ts.any ZL=true))/\Below W.heap.size W w':=by
 have HS:=(show Hid _ from hI);have HP:=(show Hid _ from hp);have HL:Hid (its.length=ts.length):=hlen;clear hI hp hlen;go_enter func225,ntmps225;go_wp2_with fail;go_loopg [8] (its.length+1) (fun gk iv wr=>∃k:Nat,k<=its.length/\gk=its.length-k+1/\iv= .int .i64 k/\Below W.heap.size W wr/\Hid (∀j (hj:j<ts.length),j<k->ZL ts[j]=false));case atStart=>exact⟨0,U,U,rfl,ZWT _ _,fun j _ h=>U⟩
 case round=>
  obtain⟨k,hk,rfl,rfl,hB,hno⟩:=hrel;by_cases hlt:k<its.length
  ·obtain⟨g,rfl,q0,q1⟩:=ItC.below (n:=0) HS.out hB k hlt;have hkt:k<ts.length:=by have:=HL.out;omega
   obtain⟨⟨n,y,e1⟩,⟨s,e2⟩,hhas⟩:=HP.out k its[k] ts[k] (ZW1 hlt) (ZW1 hkt);rw[e1]at q0 hhas;rw[e2]at q1;have hki:(k:Int)<(its.length:Int):=U
   have hone:=ZGA wr n y s ts[k] hhas;cases he:ZL ts[k]with
   |true=>
    have HE:Hid (ts.any ZL=true):=ZYh.2 ⟨_,ZWX hkt,he⟩;rw[he]at hone;clear he hhas e1 e2;exact ZUR
   |false=>
    have HN:Hid (∀j (hj:j<ts.length),j<k+1->ZL ts[j]=false):=fun j hj h=>by
     by_cases e:j=k
     ·subst e;exact he
     ·exact hno.out j hj U
    rw[he]at hone;clear he hhas e1 e2;go_wp2_with fail;refine hone.mono ?_;rintro e w2 ⟨rfl,hB2⟩;go_wp2_with fail;go_roundg (its.length-(k+1)+1);case measure=>omega
    case rel=>exact ZTZ
  ·have HM:Hid (¬ts.any ZL=true):=fun hm=>by
    obtain⟨x,hx,e⟩:=ZYh.1 hm;obtain⟨j,hj,rfl⟩:=ZX4 hx;have:=hno.out j hj (by have:=HL.out;omega);rw[e]at this;cases this
   exact ZUP
theorem ZGh(W:World)(ia:Option Addr)(cap:Nat)(its:List (Value×Value))(ts:List Tr)(hI:ItC W ia its)(hlen:its.length=ts.length)(hl:its.length<=100000)(hp:∀(i:Nat) x t,its[i]? =some x->ts[i]? =some t->ItP x t):
  Calls prog 173 #[.slice ia its.length cap,.func (.func 174) #[] #[]] W fun e w'=>e= .returned (.bool (ts.any ZL))/\Below W.heap.size W w':=by
 have HS:=(show Hid _ from hI);have HP:=(show Hid _ from hp);have HL:=(show Hid _ from hlen);clear hI hp hlen;go_enter func173,ntmps173;go_wp2_with fail;refine(ZGp _ ia cap its ts HS.out HL.out hl HP.out).mono ?_;rintro e w' ⟨⟨n,rfl,h1,h2,h3⟩,hB⟩;have HC:Hid (ts.any ZL=decide (0<=n)):=by
  show _=_;rw[ZXG,ZXw,h3]
 exact ZSI
theorem Tryz.ZEN:(prog.info? 268).map (fun i=>(i.zero,i.size,i.bytes))=some (some (.agg #[.string ⟨#[]⟩,.pointer none,.int .i64 0]),3,32):=by kernel_rfl
theorem ZIs{W:World}{B:Nat}{v:Value}{xs:List XS}{k:Nat}(h:W.ownsRow B 268 3 v k (Vu xs 0))(hk:xs.length=k):∃a cap,v= .slice a xs.length cap/\Zd0 W a xs:=by
 subst hk;obtain⟨a,cap,rfl,hc⟩:=Zvs h;refine⟨a,cap,rfl,fun i hi=>?_⟩;obtain⟨g,cu,e,_,c0,c1,c2⟩:=hc i hi;exact⟨g,_,e,c0,c1,c2⟩
theorem ZAU(w:World)(a b c:Value)(ty:TypeId):∀j u, [a,b,c][j]? =some u->(w.alloc (.cells #[a,b,c] ty)).cell? ((⟨w.heap.size,0,none⟩:Addr).add j)=some u:=by
 intro j u h;have hb:=ZWV w (.cells #[a,b,c] ty);rw[ZXE];rcases j with _|_|_|j
 ·exact ZWE
 ·exact ZWE
 ·exact ZWE
 ·simp at h
theorem ZCw(xs:List XS)(x:XS):ZR (xs++ [x]) (xs++ [x]).length=ZR xs xs.length+x.Ze.length:=by
 unfold ZR;rw[ZXB (ZWS _),ZXB (ZWS _),ZWY,List.sum_append];simp
def ZqA(W0 W:World)(R:Sc×Bool)(e:Ending)(W':World):Prop:=
 (R.2=false/\XD W0.heap.size 5 0 W0 e W')\/(R.2=true/\∃lv xs,e= .returned lv/\Below W.heap.size W W'/\U0 W' lv xs/\Xk R.1 xs/\R.1.phase=ZcR/\R.1.groups= []/\∀x∈xs,∃B,Qi B W0 x.T x.Ze)
theorem ZGH(W0 W:World)(C M:Nat)(cl:Bool)(db:List Tb)(ps:List (Za×Za))(tf:Tr)(g cap:Nat)(hD:J4 W0 M db)(hC:Y3 W0 C M cl W)(he:elems tf=ps.map Zal)(hps:ps.length<=100000)(hpl:∀p∈ps,p.1.length<=1000/\p.2.length<=1000)
  (hcells:∀i (h:i<ps.length),W0.cell? ⟨g,i*2,none⟩=some (.string ⟨ps[i].1.toArray⟩)/\W0.cell? ⟨g,i*2+1,none⟩=some (.string ⟨ps[i].2.toArray⟩)):
  Calls prog 121 #[.pointer (some ⟨C,0,none⟩),.slice (some ⟨g,0,none⟩) ps.length cap] W (ZqA W0 W (XJ db tf)):=by
 by_cases hl:ps.length<=3
 ·have HST:=(show Hid _ from KM.start (W0:=W0) (db:=db) he hl);have hll:(ps.length:Int)<=3:=by omega
  generalize XJ db tf=R at *;have HPL:=(show Hid _ from hpl);have HD:=(show Hid _ from hD);have HC:=(show Hid _ from hC);have XE:=(show Hid _ from hC.low);have HCE:=(show Hid _ from hcells);clear hpl hD hC hcells he;obtain⟨i0,hi,hz0,hz1,hz2⟩:=ZXd Tryz.ZEN;go_enter func121,ntmps121;go_wp2_with fail;refine(ZbL _).mono ?_;rintro e w' ⟨rfl,rfl⟩;go_wp2_with fail;go_loopg [5,6,18] (ps.length+1) (fun gk mv fv iv wr=>∃(k:Nat) (xs:List XS),k<=ps.length/\gk=ps.length-k+1/\iv= .int .i64 k/\fv= .int .i64 (ZR xs xs.length:Nat)/\wr.ownsRow W.heap.size 268 3 mv k (Vu xs 0)/\Below W.heap.size W wr/\Hid (KM W0 db ps R k xs));case atStart=>exact⟨0, [],U,U,rfl,rfl,ZXp _ _ _ _,ZWT _ _,HST.out⟩
  case round=>
   obtain⟨k,xs,hk,rfl,rfl,rfl,hown,hB,hin⟩:=hrel;have hxl:=hin.out.len;by_cases hlt:k<ps.length
   ·have hki:(k:Int)<(ps.length:Int):=by omega
    obtain⟨q0,q1⟩:=HCE.out k hlt;have hgl:g<W0.heap.size:=ZWW W0 _ q0;have hB0:=XE.out.trans (hB.mono XE.out.size);have r0:=(hB0.cell (p:=⟨g,k*2,none⟩) hgl).trans q0;have r1:=(hB0.cell (p:=⟨g,k*2+1,none⟩) hgl).trans q1;have hCr:=HC.out.below hB;obtain⟨z0,z1,zf⟩:=hCr.cells;obtain⟨hp1,hp2⟩:=HPL.out ps[k] (ZWX hlt);obtain⟨hM,Zkj⟩:=ZHB HD.out ps[k].1 U;generalize hpk:ps[k]=p at *;have HPK:=(show Hid _ from hpk);clear hpk q0 q1;obtain⟨p1,p2⟩:=p;simp only at *;go_wp2_with fail;generalize Zn:(Obj.cells #[.string ⟨p1.toArray⟩,.string ⟨p2.toArray⟩] 304 (0,0))=ob;have hnb:(wr.alloc ob).heap[wr.heap.size]? =some (.cells #[.string ⟨p1.toArray⟩,.string ⟨p2.toArray⟩] 304 (0,0)):=by rw[<-Zn];exact ZWV wr _
    have Qm:Below wr.heap.size wr (wr.alloc ob):=(ZWT _ wr).alloc (ZWS _) _;have hBW:Below W.heap.size W (wr.alloc ob):=hB.trans (Qm.mono hB.size);have Zfo:=hB0.trans (Qm.mono hB0.size);have hzA:=((hCr.below Qm).cells).1;have ZbF:=hown.alloc ob;have hszA:(wr.alloc ob).heap.size=wr.heap.size+1:=ZPm
    have hMA:∀nq,((wr.alloc ob).drewN nq).heap[M]? =W0.heap[M]? :=fun nq=>Zfo.block M hM;have Jy:=(show Hid _ from hin.out);clear hin hB hB0 hCr z0 z1 zf r0 r1 Zn hown;generalize wr.alloc ob=wA at *;obtain⟨e0,e1,_,_⟩:=U5 hnb;rcases Zkj with⟨T,Ze,tb,hf,hTb,hCk,hTM,hne,hrun⟩|⟨hf,hrun⟩
    ·have hl0:=fun nq=>hrun _ (hMA nq);have hl1:(Instr.lookup 72 (.map (some M)) (.string ⟨p1.toArray⟩) true).run prog wA= .ok (.tuple #[.pointer (some ⟨T,0,none⟩),.bool true]) wA:=hl0 0;have HF:=(show Hid _ from hf);have JK:=(show Hid _ from hTb);have HCK:=(show Hid _ from hCk);have HTM:=(show Hid _ from hTM);have KE:=(show Hid _ from hne);clear hrun hf hTb hCk hTM hne;go_quiet (fail);go_wp2_with fail;refine(ZbL _).mono ?_;rintro e w' ⟨rfl,rfl⟩;go_wp2_with fail;have hnS:((wA.drewN nq).alloc (.cells #[.string ⟨p2.toArray⟩,.string ⟨p1.toArray⟩] 9)).heap[wr.heap.size+1]? =some (.cells #[.string ⟨p2.toArray⟩,.string ⟨p1.toArray⟩] 9 (0,0)):=by
      have:=ZWV (wA.drewN nq) (.cells #[.string ⟨p2.toArray⟩,.string ⟨p1.toArray⟩] 9 (0,0));rw[<-hszA];exact this
     obtain⟨f0,f1,_,_⟩:=U5 hnS;refine(ZGE _ _ p2 p1 f0 f1).mono ?_;rintro e w' ⟨rfl,rfl⟩;have UU:Hid (ZaU (p1,p2)=if p2= []then p1 else p2):=rfl;generalize (if p2= []then p1 else p2)=nm at *;have hBB:Below wA.heap.size wA ((wA.drewN nq).alloc (.cells #[.string ⟨p2.toArray⟩,.string ⟨p1.toArray⟩] 9)):=(ZW (ZWT _ wA) nq).alloc (ZWS _) _;have ZEp:((wA.drewN nq).alloc (.cells #[.string ⟨p2.toArray⟩,.string ⟨p1.toArray⟩] 9)).heap.size=wA.heap.size+1:=ZPm
     have Zez:=EC ZbF hBB;clear hnS f0 f1 hl0 hl1 hMA hzA;generalize (wA.drewN nq).alloc (.cells #[.string ⟨p2.toArray⟩,.string ⟨p1.toArray⟩] 9)=wB at *;obtain⟨ua,uc,rfl,hSC⟩:=ZIs Zez hxl;rw[hxl]at Zez;go_wp2_with fail;have hBC:Below wB.heap.size wB (wB.alloc (.cells #[.string ⟨nm.toArray⟩] 9)):=(ZWT _ wB).alloc (ZWS _) _;have hnN:(wB.alloc (.cells #[.string ⟨nm.toArray⟩] 9)).heap[wr.heap.size+1+1]? =some (.cells #[.string ⟨nm.toArray⟩] 9 (0,0)):=by
      have:=ZWV wB (.cells #[.string ⟨nm.toArray⟩] 9 (0,0));rw[<-hszA,<-ZEp];exact this
     have hcN:(wB.alloc (.cells #[.string ⟨nm.toArray⟩] 9)).cell? ⟨wr.heap.size+1+1,0,none⟩=some (.string ⟨nm.toArray⟩):=by simp[World.cell?,hnN]
     have hcall:=ZGi _ ua uc _ xs nm (hSC.below hBC) (by have:=Jy.out.len;omega) hcN;rw[hxl]at hcall;refine hcall.mono ?_;rintro e w3 ⟨rfl,hB3⟩;have hBD:Below wB.heap.size wB w3:=hBC.trans (hB3.mono hBC.size);have ZtW:=EC Zez hBD;have ZOB:=hBD.size;have ZK:=(hB3.block (wr.heap.size+1+1) ZPo).trans hnN;have hc3:w3.cell? ⟨wr.heap.size+1+1,0,none⟩=some (.string ⟨nm.toArray⟩):=by simp[World.cell?,ZK]
     have ZjW:Below W.heap.size W w3:=(hBW.trans (hBB.mono hBW.size)).trans (hBD.mono (hBW.trans (hBB.mono hBW.size)).size);have ZsA:Below W0.heap.size W0 w3:=XE.out.trans (ZjW.mono XE.out.size);clear hcall hnN hcN hSC hBC hB3 hBD ZK;cases hct:(xs.map (·.name)).contains nm with
     |true=>
      have HR:Hid (R.2=false):=Jy.out.dup hlt (by rw[HPK.out];exact HF.out) (by rw[HPK.out,UU.out];exact hct);clear hct;go_wp2_with fail;refine(ZcI _).mono ?_;rintro e w' ⟨b',rfl,h0,h1,hB4⟩;go_wp2;exact⟨rfl,.inl ⟨HR.out,b',rfl,h0,h1,ZsA.trans (hB4.mono ZsA.size)⟩⟩
     |false=>
      have Yq:Hid (KM W0 db ps R (k+1) (xs++ [⟨nm,T,Ze⟩])):=by
       have:=Jy.out.next (T:=T) (Ze:=Ze) (tb:=tb) hlt hl (by rw[HPK.out];exact HF.out) (by rw[HPK.out,UU.out];exact hct) JK.out HCK.out HTM.out (by rw[HPK.out];exact KE.out);rw[HPK.out,UU.out]at this;exact this
      clear hct;obtain⟨Bt,htm⟩:=HTM.out;obtain⟨gc,JD,P,rv,hTo,hgc,Vk,hPl,hcc,hval⟩:=Zld htm;have HT6:Hid (∀w',Below W.heap.size W w'->w'.cell? ⟨T,0,none⟩=some (.slice (some ⟨gc,0,none⟩) Ze.length JD)):=fun w' hb=>((XE.out.trans (hb.mono XE.out.size)).cell (p:=⟨T,0,none⟩) Vk).trans ZRz;have hc6:=HCK.out.le;have hfk:ZR xs k<=18:=by
       obtain⟨_,_,hsi,_⟩:=Jy.out.run;have:=ZjI xs (fun x hx=>(hsi.ok x hx).le) k;omega
      clear htm hTo hcc hval hPl hgc Vk;go_wp2_with fail;refine(ZbL _).mono ?_;rintro e w' ⟨rfl,rfl⟩;go_wp2_with (at_builtin;go_must (refine ZXg _ rfl _ _ 252 rfl W.heap.size 268 i0 (.agg #[.string ⟨#[]⟩,.pointer none,.int .i64 0]) 3 32 underlying252 hi hz0 hz1 hz2 rfl ZPl (.slice ua k uc) k (Vu xs 0) rfl (ZtW.alloc _) ⟨w3.heap.size,0,none⟩ 1 1 [.string ⟨nm.toArray⟩,.pointer (some ⟨T,0,none⟩),.int .i64 ((ZR xs k:Nat):Int)] rfl rfl (ZAU _ _ _ _ _) ZPA ZPq U (by have:=ZjW.size;simp;omega) ?_);intro v' w6 hown' hgrow _;have hb6:=XM ZjW ZjW.size ZtW hgrow;have ht6:=HT6.out _ hb6);go_roundg (ps.length-(k+1)+1);case measure=>omega
      case rel=>
       have hcs:=ZwC xs ⟨nm,T,Ze⟩ 0;rw[hxl,ZX5]at hcs;have hfa:=ZCw xs ⟨nm,T,Ze⟩;rw[hxl]at hfa;exact⟨k+1,xs++ [⟨nm,T,Ze⟩],U,rfl,ZPp,by exact Zm (by rw[hfa];simp),by rw[hcs];exact hown',hb6,Yq⟩
    ·have hl0:=fun nq=>hrun _ (hMA nq);have hl1:(Instr.lookup 72 (.map (some M)) (.string ⟨p1.toArray⟩) true).run prog wA= .ok (.tuple #[.pointer none,.bool false]) wA:=hl0 0;have HR:Hid (R.2=false):=Jy.out.none hlt (by rw[HPK.out];exact hf);clear hrun hf;go_quiet (fail);go_wp2_with fail;refine(ZcI _).mono ?_;rintro e w' ⟨b',rfl,h0,h1,hB3⟩;go_wp2;exact⟨rfl,.inl ⟨HR.out,b',rfl,h0,h1,(ZW Zfo nq).trans (hB3.mono (ZW Zfo nq).size)⟩⟩
   ·obtain rfl:k=ps.length:=by omega
    have UR:Hid (U0 wr u5 xs):=Zvs (by rw[hxl];exact hown);clear hown;go_wp2_with fail;go_ret;obtain⟨d1,d2,d3,d4⟩:=hin.out.done;exact .inr ⟨d1,_,xs,rfl,hB,UR.out,d2,d3,d4,hin.out.tb⟩
 ·have HF:=(show Hid _ from ZKT (db:=db) he hl);have hll:¬(ps.length:Int)<=3:=by omega
  have hl2:(3:Int)<(ps.length:Int):=U
  generalize XJ db tf=R at *;have XE:=(show Hid _ from hC.low);clear hpl hD hC hcells he;go_enter func121,ntmps121;go_wp2_with fail;refine(ZcI _).mono ?_;rintro e w' ⟨b',rfl,h0,h1,hB3⟩;go_wp2;exact⟨rfl,.inl ⟨HF.out,b',rfl,h0,h1,XE.out.trans (hB3.mono XE.out.size)⟩⟩
end Go.Proofs.YthmlacabmlghbaaGreatDoor
