import Derived.Test.YthmlacabmlghbaaGreatDoorBgJa05
set_option maxRecDepth 100000
set_option maxHeartbeats 8000000
set_option linter.unusedSimpArgs false
set_option linter.unusedVariables false
namespace Go.Proofs.YthmlacabmlghbaaGreatDoor
section
open Go.RowKit
open NT
def XZ(M N:Nat)(W:World):Tr->List Value->Prop
 | .nil, []=>True
 | .cons h t,v::vs=>Zr M N W h v/\XZ M N W t vs
 |_,_=>False
theorem Zwj{M N:Nat}{W:World}{g:Nat}:∀{t:Tr} {o:Nat},YM M N W t (some ⟨g,0,none⟩) o->∃vs:List Value,vs.length=t.len/\XZ M N W t vs/\∀i (h:i<vs.length),W.cell? ⟨g,o+i,none⟩=some vs[i]
 | .nil,o,_=>⟨[],rfl,trivial,fun i h=>ZPs⟩
 | .cons x t,o,h=>by
  rw[YM]at h;obtain⟨⟨g',v,e,_,_,hc,hp⟩,hr⟩:=h;cases e;obtain⟨vs,hl,hps,hcs⟩:=Zwj hr;refine⟨v::vs,by simp[Tr.len,hl],⟨hp,hps⟩,fun i hi=>?_⟩;cases i with
  |zero=>exact hc
  |succ i=>have:=hcs i (by simpa using hi);rw[show o+(i+1)=o+1+i from U];exact this
 | .node f k i fr g' w h',o,h=>by simp[YM]at h
theorem ZvY{M N:Nat}{W:World}{g:Nat}(hM:g≠M)(hN:g≠N):∀{t:Tr} {vs:List Value} {o:Nat},XZ M N W t vs->(∀i (h:i<vs.length),W.cell? ⟨g,o+i,none⟩=some vs[i])->YM M N W t (some ⟨g,0,none⟩) o/\t.len=vs.length
 | .nil, [],o,_,_=>⟨by simp[YM],rfl⟩
 | .cons x t,v::vs,o,h,hc=>by
  obtain⟨h1,h2⟩:=ZvY (t:=t) (vs:=vs) (o:=o+1) hM hN h.2 (fun i hi=>by have:=hc (i+1) (by simpa using hi);rw[show o+1+i=o+(i+1) from U];exact this);rw[YM];exact⟨⟨⟨g,v,rfl,hM,hN,hc 0 ZPm,h.1⟩,h1⟩,by simp[Tr.len,h2]⟩
 | .nil,_::_,_,h,_=>ZPK
 | .cons _ _, [],_,h,_=>ZPK
 | .node _ _ _ _ _ _ _, [],_,h,_=>ZPK
 | .node _ _ _ _ _ _ _,_::_,_,h,_=>ZPK
theorem ZvZ{M N:Nat}{W:World}{x:Tr}{v:Value}(hx:Zr M N W x v):∀{t:Tr} {vs:List Value},XZ M N W t vs->XZ M N W (t.snoc x) (vs++ [v])
 | .nil, [],_=>⟨hx,trivial⟩
 | .cons h t,u::us,hp=>⟨hp.1,ZvZ hx hp.2⟩
 | .nil,_::_,h=>ZPK
 | .cons _ _, [],h=>ZPK
 | .node _ _ _ _ _ _ _, [],h=>ZPK
 | .node _ _ _ _ _ _ _,_::_,h=>ZPK
theorem XZ.keep{M N:Nat}{W W':World}(hk:Zb M W W'):∀{t:Tr} {vs:List Value},XZ M N W t vs->XZ M N W' t vs
 | .nil, [],_=>trivial
 | .cons h t,u::us,hp=>⟨hp.1.keep hk,XZ.keep hk hp.2⟩
 | .nil,_::_,h=>ZPK
 | .cons _ _, [],h=>ZPK
 | .node _ _ _ _ _ _ _, [],h=>ZPK
 | .node _ _ _ _ _ _ _,_::_,h=>ZPK
theorem ZJo{M N:Nat}{W:World}{t:Tr}{v:Value}(h:Zr M N W t v):v.oneCell'=true:=by
 cases t with
 |nil=>simp only[Zr]at h;subst h;rfl
 |cons x t=>simp[Zr]at h
 |node f k i fr g w hh=>rw[X7]at h;obtain⟨b,_,_,_,_,_,_,rfl,_⟩:=h;rfl
theorem ZvX{M N:Nat}{W:World}:∀{t:Tr} {vs:List Value},XZ M N W t vs->∀u∈vs,u.oneCell'=true
 | .nil, [],_,u,hu=>by cases hu
 | .cons h t,v::vs,hp,u,hu=>by
  rcases ZW3.1 hu with rfl|hu
  ·exact ZJo hp.1
  ·exact ZvX hp.2 u hu
 | .nil,_::_,h,_,_=>ZPK
 | .cons _ _, [],h,_,_=>ZPK
 | .node _ _ _ _ _ _ _, [],h,_,_=>ZPK
 | .node _ _ _ _ _ _ _,_::_,h,_,_=>ZPK
theorem Tryz.Zuj:(Tryz.prog.info? 28).map (fun i=>(i.zero,i.size,i.bytes))=some (some (.pointer none),1,8):=by kernel_rfl
theorem Zpm(y:Tr):∀t:Tr,(t.snoc y).len=t.len+1
 | .nil=>rfl
 | .cons h t=>by show(t.snoc y).len+1=_;rw[Zpm y t];rfl
 | .node _ _ _ _ _ _ _=>rfl
def isRow:NT->Bool|items=>true|sources=>true|Zu=>true|_=>false
theorem ZGX{k:NT}{a:List RW}{x:Tr}(h:D k a x):isRow k=true->x.kids.len<=a.length:=by
 have one:∀{k':NT} {a:List RW} {y:Tr},D k' a y->1<=a.length:=fun h=>by
  have:=EB h.g;rw[Ne,List.map_eq_nil_iff]at this;exact List.length_pos_iff.2 this
 induction h<;>intro hk<;>first
  |(exact absurd hk ZPl)
  |(rename_i h1 _;exact one h1)
  |(rename_i h1 h2 ih1 ih2;have h3:=one h2;have h4:=ih1 rfl;simp only[nd,Tr.kids,Zpm,ZW9,List.length_cons]at *;omega)
structure RowK (one same:NT):Prop where
 inv:∀l,G same l↔G one l\/∃a u b,l=a++u::b/\u=T.comma/\G same a/\G one b
 d1:∀a x,D one a x->D same a (nd {kind:= [114,111,119]} (l1 x))
 d2:∀a u b x y,tok u=T.comma->D same a x->D one b y->D same (a++u::b) (nd {kind:= [114,111,119]} (x.kids.snoc y))
 shape:∀a x,D same a x->∃h t,x=nd {kind:= [114,111,119]} (.cons h t)
 rk:rk one<rk same
 isr:isRow same=true
theorem Zpl(t y:Tr):∃h r,t.snoc y= .cons h r:=by cases t<;>exact⟨_,_,rfl⟩
theorem ZKH:RowK NT.item items:=⟨ZFb,fun _ _ h=>.Ke h,fun _ _ _ _ _ h1 h2 h3=>.VV h1 h2 h3,fun a x h=>by
 cases h
 ·exact ZTI
 ·rename_i x y _ _ _;obtain⟨h,r,e⟩:=Zpl x.kids y;exact⟨h,r,by rw[e]⟩,ZPl,rfl⟩
theorem ZKI:RowK source sources:=⟨ZFd,fun _ _ h=>.Ei h,fun _ _ _ _ _ h1 h2 h3=>.UI h1 h2 h3,fun a x h=>by
 cases h
 ·exact ZTI
 ·rename_i x y _ _ _;obtain⟨h,r,e⟩:=Zpl x.kids y;exact⟨h,r,by rw[e]⟩,ZPl,rfl⟩
theorem ZKG:RowK column Zu:=⟨ZE5,fun _ _ h=>.KU h,fun _ _ _ _ _ h1 h2 h3=>.Ud h1 h2 h3,fun a x h=>by
 cases h
 ·exact ZTI
 ·rename_i x y _ _ _;obtain⟨h,r,e⟩:=Zpl x.kids y;exact⟨h,r,by rw[e]⟩,ZPl,rfl⟩
theorem Zmy(C M N:Nat)(ws:List RW)(m:Nat)(hI:Is C M N ws m)(one same:NT)(hR:RowK one same)(i j:Nat)(W:World)(h:Cut C M N ws W)(hi:i<j)(hj:j<=ws.length)(hm:(j-i)*20+rk one<m):
  Calls Tryz.prog 101 #[.pointer (some ⟨C,0,none⟩),.int .i64 (num one),.int .i64 (num same),.int .i64 i,.int .i64 j] W (Post C M N ws W (¬G same (st (ws.map tok) i j)) (D same (sw ws i j))):=by
 have hlen:=h.len;have HL:Hid (j<=(ws.map tok).length):=by show j<=_;simpa using hj
 go_enter Tryz.func101,Tryz.ntmps101;go_wp2_with fail;refine(hI one i j _ h U U U (by simpa using hm)).mono ?_;rintro e w1 ⟨v1,rfl,Zf,hK1,hF1⟩;rw[Int.toNat_natCast]at hF1;rcases hF1 with⟨rfl,hno⟩|⟨b,t,rfl,hb,hp,hd⟩
 ·have Y4:Hid (¬G one (st (ws.map tok) i j)):=hno;clear hno;go_wp2_with fail;go_loopg [12] (j-i) (fun gk pv wr=>∃p:Nat,i+1<=p/\p<=j/\gk=j-p+1/\pv= .int .i64 p/\Cut C M N ws wr/\Zb M W wr/\Zfe same one (fun u=>u=T.comma) (ws.map tok) i j p);case atStart=>exact⟨i+1,U,U,U,rfl,Zf,hK1,Y4.out,fun q h1 h2=>U⟩
  case round=>
   obtain⟨p,hp1,hp2,rfl,rfl,hC,hK,hno⟩:=hrel;have HNT:Hid (Zfe same one (fun u=>u=T.comma) (ws.map tok) i j p):=hno;clear hno;by_cases hlt:p<j
   ·have Yq:Hid (Zbg same one (fun u=>u=T.comma) (ws.map tok) i j p->Zfe same one (fun u=>u=T.comma) (ws.map tok) i j (p+1)):=fun hn=>⟨HNT.out.1,fun q h1 h2=>by
     by_cases e:q=p
     ·subst e;exact hn
     ·exact HNT.out.2 q h1 U⟩
    go_wp2_with fail;refine(KV C M N ws (p:Int) _ _ hC U U).mono ?_;rintro e w' ⟨rfl,rfl⟩;cases hc:Xt ws (p:Int) [44]with
    |false=>
     have HN:Hid (Zbg same one (fun u=>u=T.comma) (ws.map tok) i j p):=fun u hu hj=>by
      subst hj;rw[(JZ h.ok ([44],T.comma) ZPl ZPl p).2 hu]at hc;cases hc
     clear hc;go_wp2_with fail;go_roundg (j-(p+1)+1);case measure=>omega
     case rel=>exact ZT9
    |true=>
     have HY:=(JZ h.ok ([44],T.comma) ZPl ZPl p).1 hc;clear hc;go_wp2_with fail;refine(hI same i p _ hC U U U (by have:=ZiB same;simp;omega)).mono ?_;rintro e w3 ⟨v3,rfl,ZA,hK3,ZH⟩;rw[Int.toNat_natCast]at ZH;go_wp2_with fail;refine(hI one (p+1) j _ ZA U U U (by have:=ZiB one;simp;omega)).mono ?_;rintro e w4 ⟨v4,rfl,ZB,hK4,Yx⟩;rw[Int.toNat_natCast]at Yx;have hKW:=(hK.trans hK3).trans hK4;rcases ZH with⟨rfl,ZK⟩|⟨b3,t3,rfl,hb3,hp3,hd3⟩
     ·have UT:Hid (Zbg same one (fun u=>u=T.comma) (ws.map tok) i j p):=fun u _ _ h _=>ZK h;clear ZK;go_wp2_with fail;go_roundg (j-(p+1)+1);case measure=>omega
      case rel=>exact ZT7
     ·rcases Yx with⟨rfl,YH⟩|⟨b4,t4,rfl,hb4,XR,hd4⟩
      ·have JJ:Hid (Zbg same one (fun u=>u=T.comma) (ws.map tok) i j p):=fun u _ _ _=>YH;clear YH;go_wp2_with fail;go_roundg (j-(p+1)+1);case measure=>omega
       case rel=>exact ZT6
      ·have Ka:=hp3.keep hK4;have hkl:=ZGX hd3 hR.isr;have hsl:(sw ws i p).length<=400:=by unfold sw;rw[ZXS,ZXo];omega
       obtain⟨x0,t0,ex⟩:=hR.shape _ _ hd3;subst ex;have hpn:=Ka;unfold nd at hpn;rw[X7]at hpn;obtain⟨b,vk,vi,vf,vg,vw,vh,eb,hbM,hbN,Zn,⟨ak,ck,ek,hrow⟩,_⟩:=hpn;cases eb;subst ek;obtain⟨gk,eg⟩:∃gk,ak=some ⟨gk,0,none⟩:=by
        rw[YM]at hrow;obtain⟨⟨g,v,e,_⟩,_⟩:=hrow;exact⟨g,e⟩
       subst eg;obtain⟨vs,hvl,hps,hcs⟩:=Zwj hrow;have hkl':(Tr.cons x0 t0).len<=400:=by simp only[nd,Tr.kids]at hkl;omega
       have c10:w4.cell? ⟨b3,10,none⟩=some (.slice (some ⟨gk,0,none⟩) (Tr.cons x0 t0).len ck):=by simp[World.cell?,Zn,YF]
       obtain⟨i0,hi0,hz0,hz1,hz2⟩:=ZXd Tryz.Zuj;have HVS:Hid (∀u∈vs,u.oneCell'=true):=ZvX hps;have HCS:Hid (∀q u,vs[q]? =some u->w4.cell? ((⟨gk,0,none⟩:Addr).add q)=some u):=fun q u e=>by
        obtain⟨hq,e2⟩:=ZXq.1 e;have:=hcs q hq;rw[ZXE];simpa[e2]using this
       have HPS:Hid (XZ M N w4 (.cons x0 t0) vs):=hps;have hM:=ZB.ZN;have hN:=ZB.Zw;generalize hLn:(Tr.cons x0 t0).len=L at *;clear hps hcs hrow Zn;go_wp2_with (at_builtin;first
        |(refine ZXg _ rfl _ _ 114 rfl w4.heap.size 28 i0 (.pointer none) 1 8 Tryz.underlying114 hi0 hz0 hz1 hz2 rfl ZPl _ _ _ rfl (ZXp _ _ _ _) ⟨gk,0,none⟩ L ck vs rfl (by rw[hvl,Nat.mul_one]) HCS.out HVS.out ZPq U (ZWS _) ?_;intro va wA ZbF ZDM _;have Qm:Below w4.heap.size w4 wA:=(ZWT _ _).grown ZDM (ZWS _) (fun k e=>ZPF))
        |(refine ZXg _ rfl _ _ 114 rfl w4.heap.size 28 i0 (.pointer none) 1 8 Tryz.underlying114 hi0 hz0 hz1 hz2 rfl ZPl _ _ _ rfl (ZbF.alloc _) ⟨wA.heap.size,0,none⟩ 1 1 [.pointer (some ⟨b4,0,none⟩)] rfl rfl (ZXm _ _ _) ZPA ZPq U (by have:=Qm.size;simp;omega) ?_;intro vb wB Zez ZDN _;obtain⟨gb,cb,ZN8,ebv⟩:∃gb cb,w4.heap.size<=gb/\vb= .slice (some ⟨gb,0,none⟩) (0+L+1) cb:=(by rcases Zez.2 with⟨_,h0⟩|⟨gb,cb,cur,e,hgb,_⟩;(exact absurd h0 U);exact⟨gb,cb,hgb,e⟩);subst ebv))
       have hBB:Below w4.heap.size w4 wB:=(Qm.alloc Qm.size _).grown ZDN (by have:=Qm.size;simp;omega) (fun k e=>(ZbF.lt k e).1);go_ret;have hCB:=ZB.below hBB;have hKB:Zb M w4 wB:=Zb.of_below hBB;rw[List.nil_append]at Zez;have hPB:XZ M N wB ((Tr.cons x0 t0).snoc t4) (vs++ [.pointer (some ⟨b4,0,none⟩)]):=ZvZ (XR.keep hKB) (HPS.out.keep hKB);have hSB:Z8 M N wB ((Tr.cons x0 t0).snoc t4) (.slice (some ⟨gb,0,none⟩) (L+1) cb):=by
        obtain⟨r1,r2⟩:=ZvY (o:=0) (g:=gb) U U hPB (fun q hq=>by
         have:=Zez.cells (g:=gb) rfl q _ (ZW1 hq);rw[ZXE]at this;exact this)
        refine⟨_,cb,?_,r1⟩;rw[Zpm,hLn]
       refine⟨_,rfl,hCB.alloc _,(hKW.trans hKB).trans (Zb.alloc M _ _),.inr ⟨_,_,rfl,?_,ZkL (f:={kind:= [114,111,119]}) hCB.ZN hCB.Zw hSB,?_⟩⟩
       ·have:=hCB.Zw;omega
       ·obtain⟨hpl,htp⟩:=ZQ HY;have e:=hR.d2 _ ws[p] _ _ _ htp hd3 hd4;exact ZWu
   ·go_wp2_with fail;go_ret;exact⟨_,rfl,hC,hK,.inl ⟨rfl,Zvh HL.out hR.inv (by rw[show j=p from U];have:=HNT.out;rw[show j=p from U]at this;exact this)⟩⟩
 ·go_wp2_with fail;go_ret;refine⟨_,rfl,(Zf.alloc _).alloc _,(hK1.trans (Zb.alloc M _ _)).trans (Zb.alloc M _ _),.inr ⟨_,_,rfl,?_,Vo Zf.ZN Zf.Zw {kind:= [114,111,119]} hp,hR.d1 _ _ hd⟩⟩;exact ZVc
end
theorem ZKN(s r:Za)(h:(32:UInt8)∉s):(s++32::r).takeWhile (fun c=>c != 32)=s:=by
 induction s with
 |nil=>rfl
 |cons c s ih=>
  have hc:c≠32:=fun e=>h ZQI;rw[List.cons_append,ZXs,ZWR ZPE,ih (fun e=>h (ZXe _ e))]
theorem ZKB:((List.range 124).all fun i=>(QN.drop i).head? != some 32||(YE.map Prod.fst).contains ((QN.drop (i+1)).takeWhile fun c=>c != 32))=true:=by decide +kernel
theorem ZKC:((YE.map Prod.fst).all Va)=true:=by decide +kernel
theorem ZKD(s:Za)(h:(32:UInt8)∉s):Va s=true↔s∈YE.map Prod.fst:=by
 constructor
 ·intro h1;unfold Va ZaA at h1;obtain⟨i,hi,he⟩:=ZYh.1 h1;rw[ZYj]at hi;have hl:QN.length=125:=rfl;rw[hl]at hi;simp only[List.length_cons,ZW9,List.length_nil]at hi;have he2:(QN.drop i).take (s.length+2)=32::(s++ [32]):=by
   have:=eq_of_beq he;exact ZWN
  have hd:QN.drop i=32::(s++ [32])++(QN.drop i).drop (s.length+2):=by rw[<-he2,List.take_append_drop]
  have hd1:QN.drop (i+1)=s++32::(QN.drop i).drop (s.length+2):=by
   have:QN.drop (i+1)=(QN.drop i).drop 1:=ZRl
   rw[this];conv=>lhs;rw[hd]
   simp
  have hc:=ZXQ.1 ZKB i (by rw[ZYj];omega);rw[hd1,ZKN _ _ h,hd]at hc;simpa using hc
 ·intro h1;exact ZXQ.1 ZKC s h1
def QQ:Za:= [40,41,44,46,42,43,45,47,37,61,60,62]
def two(s:Za):Bool:=s.take 2== [60,62]||s.take 2== [60,61]||s.take 2== [62,61]
def Qs:RW×Nat:=(⟨[], [],0⟩,0)
def Zag(s:Za):Nat:=Zk (Ya++Zi) s
def dLen(s:Za):Nat:=Zk Zi s
def Z9(s:Za):RW×Nat:=
 if 0<dLen s then
  (if(YN (s.take (dLen s)) false).2 then(⟨Yh, [],(YN (s.take (dLen s)) false).1⟩,dLen s)else Qs)
 else if 0<Zag s then(⟨if Va (s.take (Zag s))then YC else Yz,s.take (Zag s),0⟩,Zag s)
 else if s.head? =some 39 then(⟨Yd,(Yn s).1,0⟩,(Yn s).2)
 else if two s then(⟨ZT,s.take 2,0⟩,2)
 else if ZaA (s.take 1) QQ then(⟨ZT,s.take 1,0⟩,1)
 else Qs
def blank(c:UInt8):Bool:=c==32||c==9||c==10
def JW(s:Za):Nat:=(s.takeWhile fun c=>c != 10).length
def YK(s:Za):Nat->Nat->Except Nat (List RW)
 |0,_=>.ok []
 |f+1,i=>
  match s.drop i with
  | []=>.ok []
  |c::r=>
   if blank c then YK s f (i+1)
   else if(c::r).take 2= [45,45]then YK s f (i+JW (c::r))
   else if(Z9 (c::r)).2=0 then .error i
   else(YK s f (i+(Z9 (c::r)).2)).map fun l=>(Z9 (c::r)).1::l
def XB(s:Za):Except Nat (List RW):=if 400<s.length then .error 400 else YK s (s.length+1) 0
theorem ZwW(p:UInt8->Bool)(s:Za):(s.takeWhile p).length<=s.length:=(ZYq p).length_le
theorem ZoO(c:UInt8)(r:Za):(Z9 (c::r)).2<=(c::r).length:=by
 unfold Z9 Qs;split
 ·split
  ·exact Eu _ _
  ·exact ZTh
 ·split
  ·exact Eu _ _
  ·split
   ·exact Zg4 c r
   ·split
    ·rename_i h;unfold two at h;cases r with
     |nil=>exact absurd h ZPm
     |cons d r=>simp
    ·split
     ·simp
     ·exact ZTh
theorem Zf5(set:Za):∀s:Za,∀x∈s.take (Zk set s),set.contains x=true:=by
 intro s;unfold Zk;induction s with
 |nil=>intro x hx;simp at hx
 |cons c s ih=>
  intro x hx;rw[ZXs]at hx;split at hx
  ·rename_i h;rw[List.length_cons,List.take_succ_cons]at hx;rcases ZW3.1 hx with rfl|hx
   ·exact h
   ·exact ih x hx
  ·simp at hx
theorem ZJB(s:Za)(hne:s≠ [])(h:(Z9 s).2≠0):Yi (Z9 s).1:=by
 unfold Z9 at h ⊢;split
 ·rename_i h1;rw[ZWR h1]at h;split
  ·exact .inr (.inr (.inr (.inl rfl)))
  ·rename_i h2;rw[ZWQ h2]at h;exact absurd rfl h
 ·rename_i h1;rw[ZWQ h1]at h;split
  ·by_cases hk:Va (s.take (Zag s))=true
   ·refine .inl ⟨by show(if Va (s.take (Zag s))=true then YC else Yz)=YC;rw[ZWR hk],?_⟩;refine(ZKD _ (fun hx=>?_)).1 hk;exact absurd (Zf5 _ s _ hx) ZPl
   ·refine .inr (.inr (.inl ?_));show(if Va (s.take (Zag s))=true then YC else Yz)=Yz;rw[ZWQ hk]
  ·rename_i h2;rw[ZWQ h2]at h;split
   ·exact .inr (.inr (.inr (.inr rfl)))
   ·rename_i h3;rw[ZWQ h3]at h;split
    ·rename_i h4;refine .inr (.inl ⟨rfl,?_⟩);unfold two at h4;simp only[ZYu,ZXT]at h4;show s.take 2∈_;rcases h4 with(e|e)|e<;>rw[e]<;>decide
    ·rename_i h4;rw[ZWQ h4]at h;split
     ·rename_i h5;refine .inr (.inl ⟨rfl,?_⟩);show s.take 1∈_;cases s with
      |nil=>exact ZTr
      |cons c r=>
       have hc:QQ.contains c=true:=by
        simp only[List.take_succ_cons,List.take_zero]at h5;rwa [Zdg]at h5
       have:∀x∈QQ, [x]∈Y0.map Prod.fst:=ZPl
       exact this c ZPE
     ·rename_i h5;rw[ZWQ h5]at h;exact absurd rfl h
theorem ZJF(s:Za)(f:Nat):∀(i:Nat) (l:List RW),YK s f i= .ok l->(∀w∈l,Yi w)/\l.length+i<=max i s.length:=by
 induction f with
 |zero=>intro i l h;unfold YK at h;cases h;exact⟨fun w hw=>(by cases hw),ZPo⟩
 |succ f ih=>
  intro i l h;unfold YK at h;split at h
  ·cases h;exact⟨fun w hw=>(by cases hw),ZPo⟩
  ·rename_i c r e;have hl:=congrArg List.length e;rw[ZXo]at hl;simp only[List.length_cons]at hl;split at h
   ·obtain⟨h1,h2⟩:=ih _ _ h;exact⟨h1,U⟩
   ·split at h
    ·obtain⟨h1,h2⟩:=ih _ _ h;have:=ZwW (fun c=>c != 10) (c::r);unfold JW at h2;simp only[List.length_cons]at this;exact⟨h1,U⟩
    ·split at h
     ·cases h
     ·rename_i h0;cases hr:YK s f (i+(Z9 (c::r)).2)with
      |error e=>rw[hr]at h;cases h
      |ok l'=>
       rw[hr]at h;cases h;obtain⟨h1,h2⟩:=ih _ _ hr;have hle:=ZoO c r;simp only[List.length_cons]at hle ⊢;refine⟨fun w hw=>?_,U⟩;rcases ZW3.1 hw with rfl|hw
       ·exact ZJB _ ZPm h0
       ·exact h1 w hw
theorem ZfZ{s:Za}{l:List RW}(h:XB s= .ok l):(∀w∈l,Yi w)/\l.length<=s.length/\s.length<=400:=by
 unfold XB at h;split at h
 ·cases h
 ·obtain⟨h1,h2⟩:=ZJF s _ _ _ h;exact⟨h1,U,U⟩
theorem ZoP(s:Za)(f:Nat):∀(g i:Nat),s.length-i<f->s.length-i<g->YK s f i=YK s g i:=by
 induction f with
 |zero=>intro g i h;omega
 |succ f ih=>
  intro g i h1 h2;cases g with
  |zero=>omega
  |succ g=>
   unfold YK;split
   ·rfl
   ·rename_i c r e;have hl:=congrArg List.length e;rw[ZXo]at hl;simp only[List.length_cons]at hl;split
    ·exact ih g _ U U
    ·rename_i hb;split
     ·have:1<=JW (c::r):=by
       unfold JW;rw[ZXs,ZWR]
       ·simp
       ·unfold blank at hb;simp at hb ⊢;exact hb.2
      exact ih g _ U U
     ·split
      ·rfl
      ·rename_i h0;rw[ih g _ U U]
theorem Zu5{s:Za}{j:Nat}(hj:j<=s.length)(he:∀(hq:j<s.length),s[j]=10):∀(n i:Nat),j=i+n->(∀q,i<=q->q<j->∀(hq:q<s.length),s[q]≠10)->JW (s.drop i)=j-i:=by
 intro n;unfold JW;induction n with
 |zero=>
  intro i e _;obtain rfl:j=i:=U
  by_cases hl:j<s.length
  ·rw[ZXl hl,ZXs,ZWQ (by rw[he hl];decide)];simp
  ·rw[ZXH U];simp
 |succ n ih=>
  intro i e h;have hl:i<s.length:=U
  have hne:=h i (ZWS _) U hl;rw[ZXl hl,ZXs,ZWR (by simpa using hne),List.length_cons,ih (i+1) U (fun q h1 h2 hq=>h q U h2 hq)];omega
theorem Zwo{s:Za}{i:Nat}(h:s.length<=i):YK s (s.length+1) i= .ok []:=by
 unfold YK;rw[ZXH h]
theorem Zk3{s:Za}{i:Nat}(h:i<s.length):YK s (s.length+1) i=if blank s[i]then YK s (s.length+1) (i+1)else if(s.drop i).take 2= [45,45]then YK s (s.length+1) (i+JW (s.drop i))else if(Z9 (s.drop i)).2=0 then .error i else(YK s (s.length+1) (i+(Z9 (s.drop i)).2)).map fun l=>(Z9 (s.drop i)).1::l:=by
 conv=>lhs;unfold YK
 rw[ZXl h];simp only;split
 ·exact ZoP s _ _ _ U U
 ·rename_i hb;split
  ·have:1<=JW (s[i]::s.drop (i+1)):=by
    unfold JW;rw[ZXs,ZWR]
    ·simp
    ·unfold blank at hb;simp at hb ⊢;exact hb.2
   exact ZoP s _ _ _ U U
  ·split
   ·rfl
   ·rename_i h0;rw[ZoP s s.length (s.length+1) _ U U]
end Go.Proofs.YthmlacabmlghbaaGreatDoor
