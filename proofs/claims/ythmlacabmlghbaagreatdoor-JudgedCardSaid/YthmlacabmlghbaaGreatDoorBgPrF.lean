import Derived.Test.YthmlacabmlghbaaGreatDoorBgJa03
set_option maxRecDepth 100000
set_option maxHeartbeats 8000000
set_option linter.unusedSimpArgs false
set_option linter.unusedVariables false
namespace Go.Proofs.YthmlacabmlghbaaGreatDoor
open T NT
structure WOk (w:RW):Prop where
 text:w.text.length<=400
 lo: -9223372036854775808<=w.num
 hi:w.num<=9223372036854775807
theorem ZBS(k:Nat):∀n,n<10^(k+1)->(Jc n).length<=k+1:=by
 induction k with
 |zero=>intro n h;rw[Jc,ZWR ZPv];simp
 |succ k ih=>
  intro n h;by_cases h1:n<10
  ·rw[Jc,ZWR h1];simp
  ·rw[Jc,ZWQ h1,ZW9];have:=ih (n/10) ZRT;simp;omega
theorem ZmL{n:Int}(h1: -9223372036854775808<=n)(h2:n<=9223372036854775807):(dec n).length<=21:=by
 have:=ZBS 19 n.natAbs ZRm;unfold dec;split<;>simp<;>omega
theorem Zv1:∀a:Za,(ZfY a).length<=2*a.length
 | []=>by simp[ZfY]
 |x::a=>by
  have:=Zv1 a;unfold ZfY;split<;>simp<;>omega
theorem ZJw(s:Za):(quote s).length<=2*s.length+2:=by
 have:=Zv1 s;unfold quote;simp;omega
theorem Zq8(s n:Za):(asP s n).length<=s.length+n.length+4:=by
 unfold asP;split<;>(try simp)<;>omega
theorem ZH7(b:Bool):(notP b).length<=4:=by cases b<;>decide
theorem ZoI{f:Fl}(hf:Ze2 f)(hs:f.kind≠ [115,101,108,101,99,116])(ks is fs gs:List Za)(w h:Option Za):(prN f ks is fs gs w h).length<=900+(ks.getD 0 []).length+(ks.getD 1 []).length:=by
 have h1:=ZmL hf.lo hf.hi;have h2:=ZJw f.text;have h3:=Zq8 (ks.getD 0 []) f.Zx;have h4:=Zq8 f.text f.Zx;have h5:=ZH7 f.not_;have t1:=hf.kind;have t2:=hf.sign;have t3:=hf.text;have t4:=hf.Zd;have t5:=hf.Zx;unfold prN;generalize ks.getD 0 []=x0 at *;generalize ks.getD 1 []=x1 at *;by_cases c0:f.kind= [110,117,109]
 ·rw[ZWR c0];omega
 rw[ZWQ c0];by_cases c1:f.kind= [116,101,120,116]
 ·rw[ZWR c1];omega
 rw[ZWQ c1];by_cases c2:f.kind= [110,117,108,108]
 ·rw[ZWR c2];exact ZWI
 rw[ZWQ c2];by_cases c3:f.kind= [99,111,108,117,109,110]
 ·rw[ZWR c3];by_cases d:f.Zd= []
  ·rw[ZWR d];omega
  ·exact ZWx
 rw[ZWQ c3];by_cases c4:f.kind= [110,101,103]
 ·rw[ZWR c4];exact ZWI
 rw[ZWQ c4];by_cases c5:f.kind∈Yf
 ·rw[ZWR c5];by_cases d:f.star=true
  ·rw[ZWR d];exact ZWI
  ·exact ZWx
 rw[ZWQ c5];by_cases c6:f.kind= [110,111,116]
 ·rw[ZWR c6];exact ZWI
 rw[ZWQ c6];by_cases c7:f.kind= [101,120,105,115,116,115]
 ·rw[ZWR c7];exact ZWI
 rw[ZWQ c7];by_cases c8:f.kind= [105,115,110,117,108,108]
 ·rw[ZWR c8];exact ZWI
 rw[ZWQ c8];by_cases c9:f.kind= [105,110]
 ·rw[ZWR c9];exact ZWI
 rw[ZWQ c9];by_cases c10:f.kind= [97,110,121]\/f.kind= [97,108,108]
 ·rw[ZWR c10];exact ZWI
 rw[ZWQ c10];by_cases c11:f.kind= [99,111,109,112,97,114,101]
 ·rw[ZWR c11];exact ZWI
 rw[ZWQ c11];by_cases c12:f.kind= [105,116,101,109]
 ·rw[ZWR c12];omega
 rw[ZWQ c12];by_cases c13:f.kind= [115,111,117,114,99,101]
 ·rw[ZWR c13];omega
 rw[ZWQ c13];by_cases c14:f.kind= [115,101,108,101,99,116]
 ·exact absurd c14 hs
 rw[ZWQ c14];by_cases c15:f.kind∈UK/\f.all=true
 ·rw[ZWR c15];exact ZWI
 rw[ZWQ c15];exact ZWI
theorem ZkW(f:Fl)(k:Tr):pr (nd f k)=prN f (Xj k) [] [] [] none none:=by
 unfold nd;rw[pr];simp[Xj,Tr.isNode]
theorem ZvT(x:Tr):Xj (l1 x)= [pr x]:=by simp[l1,Xj]
theorem ZJl(x y:Tr):Xj (l2 x y)= [pr x,pr y]:=by simp[l2,Xj]
theorem ZjN{f:Fl}{k:Tr}(hk:Yp k)(hf:Ze2 f)(ha:arity f<=k.len)(hl:k.len<=400)(hp:(pr (nd f k)).length<=400000):Good (nd f k):=by
 unfold nd at hp ⊢;rw[Good];exact⟨⟨ha,hf,hp,by simp[Xj,commas],by simp[Xj,commas],by simp[Xj,commas],hl,ZQs,ZQs,ZQs⟩,hk,by simp[Yp],by simp[Yp],by simp[Yp],by simp[Tr.isNode],by simp[Tr.isNode],.inl rfl,.inl rfl⟩
theorem ZjM{x:Tr}(h:Good x):Yp (l1 x):=by unfold l1;rw[Yp,Yp];exact⟨h,trivial⟩
theorem ZCO{x y:Tr}(h:Good x)(h2:Good y):Yp (l2 x y):=by unfold l2;rw[Yp,Yp,Yp];exact⟨h,h2,trivial⟩
def GB(n:Nat)(t:Tr):Prop:=Good t/\(pr t).length+50<=1000*n
theorem Zdn{f:Fl}{n:Nat}(hn:1<=n:=by simp)(hf:Ze2 f:=by(constructor<;>first|exact ZW8 _|exact(hW _ ZPm).text|exact(hW _ ZPm).lo|exact(hW _ ZPm).hi|(simp[Yh,Yd];done)))(hs:f.kind≠ [115,101,108,101,99,116]:=by simp[Yh,Yd])(ha:arity f=0:=by simp[arity,Yf,Yh,Yd]):GB n (nd f .nil):=by
 have hl:=ZoI hf hs (Xj .nil) [] [] [] none none;rw[<-ZkW]at hl;simp only[Xj,List.getD_nil,List.length_nil]at hl;exact⟨ZjN (by simp[Yp]) hf (by rw[ha];exact ZW8 _) ZQs U,U⟩
theorem Zec{f:Fl}{x:Tr}{n m:Nat}(hx:GB n x)(hs:f.kind≠ [115,101,108,101,99,116]:=by simp)(ha:arity f<=1:=by simp[arity,Yf])(hn:n+1<=m:=by simp only[ZW9,List.length_cons,List.length_nil];omega)(hm:m<=400:=by assumption)(hf:Ze2 f:=by(constructor<;>first|exact ZW8 _|exact(hW _ ZPm).text|exact(hW _ ZPm).lo|exact(hW _ ZPm).hi|(simp[Yh,Yd];done))):GB m (nd f (l1 x)):=by
 have hl:=ZoI hf hs (Xj (l1 x)) [] [] [] none none;rw[<-ZkW,ZvT]at hl;have h2:=hx.2;simp at hl;exact⟨ZjN (ZjM hx.1) hf (by simpa[l1,Tr.len]using ha) (by simp[l1,Tr.len]) U,U⟩
theorem ZzF(f:Fl):arity f<=2:=by
 unfold arity;repeat' split
 all_goals omega
theorem Zbw{f:Fl}{x y:Tr}{n n' m:Nat}(hx:GB n x)(hy:GB n' y)(hs:f.kind≠ [115,101,108,101,99,116]:=by simp)(hn:n+n'+1<=m:=by simp only[ZW9,List.length_cons,List.length_nil];omega)(hm:m<=400:=by assumption)(hf:Ze2 f:=by(constructor<;>first|exact ZW8 _|exact(hW _ ZPm).text|exact(hW _ ZPm).lo|exact(hW _ ZPm).hi|(simp[Yh,Yd];done))):GB m (nd f (l2 x y)):=by
 have hl:=ZoI hf hs (Xj (l2 x y)) [] [] [] none none;rw[<-ZkW,ZJl]at hl;have h2:=hx.2;have h3:=hy.2;simp at hl;exact⟨ZjN (ZCO hx.1 hy.1) hf (by simpa[l2,Tr.len]using ZzF f) (by simp[l2,Tr.len]) U,U⟩
theorem GB.mono{n m:Nat}{t:Tr}(h:GB n t)(hm:n<=m):GB m t:=⟨h.1,by have:=h.2;omega⟩
def LB(n:Nat)(t:Tr):Prop:=Yp t/\(commas (Xj t)).length+48<=1000*n/\t.len<=n/\Xj t≠ []
def OB(n:Nat)(t:Tr):Prop:=(t= .nil)\/(t.isNode=true/\GB n t)
def DB(k:NT)(n:Nat)(t:Tr):Prop:=match k with
 |items=>∃x,t=nd {kind:= [114,111,119]} x/\LB n x
 |sources=>∃x,t=nd {kind:= [114,111,119]} x/\LB n x
 |Zu=>∃x,t=nd {kind:= [114,111,119]} x/\LB n x
 |tail=>∃f g w h nf ng nw nh,t=ZV f g w h/\LB nf f/\(g= .nil\/LB ng g)/\OB nw w/\OB nh h/\nf+ng+nw+nh<=n
 |after=>∃g w h ng nw nh,t=ZV .nil g w h/\(g= .nil\/LB ng g)/\OB nw w/\OB nh h/\ng+nw+nh<=n
 |Z6=>∃g h ng nh,t=ZV .nil g .nil h/\LB ng g/\OB nh h/\ng+nh<=n
 |_=>GB n t/\t.isNode=true
theorem Zot{s:Za}{t:T}:∀{l:List (Za×T)},l.lookup s=some t->(s,t)∈l
 | [],h=>ZPs
 |(a,b)::l,h=>by
  rw[List.lookup_cons]at h;split at h
  ·rename_i e;cases h;have:s=a:=by simpa using e
   rw[this];exact ZXn
  ·exact ZXe _ (Zot h)
theorem ZcY{w:RW}{t:T}(h:tok w=t)(h1:t≠name)(h2:t≠lit):(w.text,t)∈YE++Y0:=by
 unfold tok at h;split at h
 ·unfold Je at h;cases e:YE.lookup w.text with
  |none=>rw[e]at h;exact absurd h.symm h2
  |some t'=>rw[e]at h;simp at h;subst h;exact ZYA _ (Zot e)
 ·split at h
  ·unfold Vt at h;cases e:Y0.lookup w.text with
   |none=>rw[e]at h;exact absurd h.symm h2
   |some t'=>rw[e]at h;simp at h;subst h;exact List.mem_append_right _ (Zot e)
  ·split at h
   ·exact absurd h.symm h1
   ·exact absurd h.symm h2
theorem ZKX:∀p∈YE++Y0,p.2≠Yk->p.1≠ [115,101,108,101,99,116]:=by decide
theorem Zy5:∀p∈YE++Y0,isAgg p.2=true->p.1∈Yf:=by decide
theorem ZbX{w:RW}(h:tok w≠Yk/\tok w≠name/\tok w≠lit):w.text≠ [115,101,108,101,99,116]:=ZKX _ (ZcY rfl h.2.1 h.2.2) h.1
theorem Zk4{t:T}(h:isSet t=true):t≠Yk/\t≠name/\t≠lit:=by cases t<;>first|(exact absurd h ZPl)|decide
theorem ZyW{t:T}(h:isAdd t=true):t≠Yk/\t≠name/\t≠lit:=by cases t<;>first|(exact absurd h ZPl)|decide
theorem ZHV{t:T}(h:isMul t=true):t≠Yk/\t≠name/\t≠lit:=by cases t<;>first|(exact absurd h ZPl)|decide
theorem ZnP{t:T}(h:XI t=true):t≠Yk/\t≠name/\t≠lit:=by cases t<;>first|(exact absurd h ZPl)|decide
theorem Zmd{t:T}(h:isAgg t=true):t≠Yk/\t≠name/\t≠lit:=by cases t<;>first|(exact absurd h ZPl)|decide
theorem Zy6{w:RW}(h:isAgg (tok w)=true):w.text∈Yf:=Zy5 _ (ZcY rfl (Zmd h).2.1 (Zmd h).2.2) h
theorem ZzD{f:Fl}(h:f.kind∈Yf):arity f<=1:=by
 unfold Yf at h;simp only[ZW3,ZXV,ZXK]at h;unfold arity;rcases h with h|h|h|h<;>rw[h]<;>simp[Yf]<;>split<;>omega
theorem Zop{n:Nat}{x:Tr}(h:GB n x)(hn:1<=n):LB n (l1 x):=by
 refine⟨ZjM h.1,?_,by simp[l1,Tr.len];exact hn,by simp[l1,Xj]⟩;have:=h.2;simp[l1,Xj,commas];omega
theorem Zss{y:Tr}(hy:Good y):∀t:Tr,Yp t->Yp (t.snoc y)
 | .nil,_=>ZjM hy
 | .cons a t,h=>by
  rw[Yp]at h;show Yp (.cons a (t.snoc y));rw[Yp];exact⟨h.1,Zss hy t h.2⟩
 | .node _ _ _ _ _ _ _,h=>by rw[Yp]at h;exact h.elim
theorem ZoK(y:Tr):∀t:Tr,Yp t->Xj (t.snoc y)=Xj t++ [pr y]
 | .nil,_=>by simp[Tr.snoc,Xj]
 | .cons a t,h=>by
  rw[Yp]at h;show Xj (.cons a (t.snoc y))=_;simp[Xj,ZoK y t h.2]
 | .node _ _ _ _ _ _ _,h=>by rw[Yp]at h;exact h.elim
theorem Zwy(y:Tr):∀t:Tr,(t.snoc y).len<=t.len+1
 | .nil=>by simp[Tr.snoc,Tr.len]
 | .cons a t=>by
  have:=Zwy y t;show(Tr.cons a (t.snoc y)).len<=_;simp[Tr.len];exact this
 | .node _ _ _ _ _ _ _=>by simp[Tr.snoc,Tr.len]
theorem ZrW:∀(l:List Za) (x:Za),(commas (l++ [x])).length<=(commas l).length+2+x.length
 | [],x=>by simp[commas]
 | [a],x=>by simp[commas];omega
 |a::b::l,x=>by
  have ih:=ZrW (b::l) x;have e:commas (a::b::l)=a++ [44,32]++commas (b::l):=by rw[commas];simp
  have e2:commas (a::b::l++ [x])=a++ [44,32]++commas (b::l++ [x]):=by
   rw[List.cons_append,List.cons_append,commas];simp
  rw[e,e2];simp at ih ⊢;omega
theorem Zoq{n n' m:Nat}{x y:Tr}(hx:LB n x)(hy:GB n' y)(hm:n+n'+1<=m):LB m (x.snoc y):=by
 obtain⟨h1,h2,h3,h4⟩:=hx;refine⟨Zss hy.1 x h1,?_,by have:=Zwy y x;omega,by rw[ZoK y x h1];simp⟩;rw[ZoK y x h1];have:=ZrW (Xj x) (pr y);have:=hy.2;omega
theorem Zvk{n:Nat}{t:Tr}(h:OB n t):(t.isNode=true->Good t)/\(t= .nil\/t.isNode=true)/\(t.isNode=true->(pr t).length+50<=1000*n):=by
 rcases h with rfl|⟨h1,h2⟩
 ·exact⟨fun h=>ZPs,.inl rfl,fun h=>ZPs⟩
 ·exact⟨fun _=>h2.1,.inr h1,fun _=>h2.2⟩
theorem Zu2{n:Nat}{t:Tr}(h:t= .nil\/LB n t):Yp t/\(commas (Xj t)).length<=1000*n/\t.len<=n:=by
 rcases h with rfl|h
 ·simp[Yp,Xj,commas,Tr.len]
 ·exact⟨h.1,by have:=h.2.1;omega,h.2.2.1⟩
theorem ZjO{st di:Bool}{it f g w h:Tr}{ni nf ng nw nh m:Nat}(hi:it= .nil\/LB ni it)(hf:LB nf f)(hg:g= .nil\/LB ng g)(hw:OB nw w)(hh:OB nh h)(hm:ni+nf+ng+nw+nh+2<=m)(h4:m<=400):GB m (XV st di it (ZV f g w h))/\(XV st di it (ZV f g w h)).isNode=true:=by
 refine⟨?_,rfl⟩;obtain⟨i1,i2,i3⟩:=Zu2 hi;obtain⟨f1,f2,f3,f4⟩:=hf;obtain⟨g1,g2,g3⟩:=Zu2 hg;obtain⟨w1,w2,w3⟩:=Zvk hw;obtain⟨h1,h2,h3⟩:=Zvk hh;have hl:(pr (XV st di it (ZV f g w h))).length+50<=1000*m:=by
  unfold XV ZV;rw[pr];unfold prN;simp only[Tr.Jo,Tr.YB,Tr.Q6,Tr.Qn];rw[ZWQ ZPl,ZWQ ZPl,ZWQ ZPl,ZWQ ZPl,ZWQ ZPl,ZWQ ZPl,ZWQ ZPl,ZWQ ZPl,ZWQ ZPl,ZWQ ZPl,ZWQ ZPl,ZWQ ZPl,ZWQ ZPl,ZWQ ZPl,ZWR ZRn];unfold Zws;have a3:(if Xj g= []then([]:Za)else[32,103,114,111,117,112,32,98,121,32]++commas (Xj g)).length<=1000*ng+10:=by
   split<;>simp<;>omega
  have a4:(if di=true then([100,105,115,116,105,110,99,116,32]:Za)else[]).length<=9:=by split<;>simp
  have a5:(if st=true then([42]:Za)else[]).length<=1:=by split<;>simp
  rcases ZYk w.isNode with hx|hx<;>rcases ZYk h.isNode with hy|hy
  ·have:=h3 hy;exact ZVf
  ·exact ZVf
  ·have:=h3 hy;exact ZWM
  ·exact ZWM
 refine⟨?_,hl⟩;unfold XV ZV at hl ⊢;rw[Good];refine⟨⟨by simp[arity],⟨ZPm,ZPm,ZPm,ZPm,ZPm,ZPm,ZPm⟩,ZQf,ZQf,ZQf,ZQf,ZQs,ZQf,ZQf,ZQf⟩,by simp[Yp],i1,f1,g1,w1,h1,w2,h2⟩
theorem ZNa{a:List RW}{l:List RW}(hW:∀w∈l,WOk w)(h:∀w∈a,w∈l):∀w∈a,WOk w:=fun w hw=>hW w (h w hw)
theorem Ym{A B C:Prop}(f:A->B->C)(a:A:=by exact ZNa hW (by intro w hw;simp[hw]))(b:B:=by simp only[ZW9,List.length_cons,List.length_nil]at hL;omega):C:=f a b
theorem D.db{k:NT}{l:List RW}{t:Tr}(h:D k l t):(∀w∈l,WOk w)->l.length<=400->DB k l.length t:=by
 induction h with
 |Kt _ ih=>
  exact ZVj
 |Uy _ ih=>
  exact ZVj
 |Ux _ ih=>
  exact ZVj
 |UC _ ih=>
  exact ZVj
 |Uj _ ih=>
  exact ZVj
 |UA _ ih=>
  exact ZVj
 |Ve _ ih=>
  exact ZVj
 |U4 _ _ _ ih=>
  exact ZVq
 |VG _ _ _ ih=>
  exact ZVq
 |Vg _ _ _ ih=>
  exact ZVq
 |Ku hu _ _ ih1 ih2=>
  exact ZVl
 |Kv hu _ _ _ ih1 ih2=>
  exact ZVl
 |Uz hu _ _ ih1 ih2=>
  exact ZVm
 |Uw hu _ _ ih1 ih2=>
  exact ZVm
 |Ui hu _ _ ih1 ih2=>
  intro hW hL;have h1:=Ym ih1;have h2:=Ym ih2;exact⟨Zbw h1.1 h2.1 (ZbX (ZyW hu)),rfl⟩
 |UB hu _ _ ih1 ih2=>
  intro hW hL;have h1:=Ym ih1;have h2:=Ym ih2;exact⟨Zbw h1.1 h2.1 (ZbX (ZHV hu)),rfl⟩
 |VC _ _ _ _ _ ih1 ih2=>
  exact ZVn
 |VD _ _ _ _ _ _ ih1 ih2=>
  exact ZVn
 |QX _ hh _ _ _ _ ih1 ih2=>
  intro hW hL;have h1:=Ym ih1;have h2:=Ym ih2;exact⟨Zbw h1.1 h2.1 (ZbX (ZnP hh)),rfl⟩
 |J9 _ _ _ ih1 ih2=>
  exact ZVn
 |UD _ _ ih=>
  exact ZVo
 |VB _ _ _ _ ih=>
  exact ZVo
 |VF _ _ _ ih=>
  exact ZVo
 |VE _ _ _ _ ih=>
  exact ZVo
 |Vf _ _ ih=>
  exact ZVo
 |Kh _ _ _ ih=>
  exact ZVo
 |QO hu _ _ _ ih=>
  intro hW hL;have h1:=Ym ih;exact⟨Zec h1.1 (ZbX (Zmd hu)) (ZzD (Zy6 hu)),rfl⟩
 |src _=>
  exact ZVk
 |Ej _ _ _=>
  exact ZVk
 |JF _=>
  exact ZVk
 |Uh _ _ _=>
  exact ZVk
 |Zea _ _=>
  exact ZVk
 |Zeb _ _=>
  exact ZVk
 |Un _=>
  exact ZVk
 |Uo _ _ _ _=>
  exact ZVk
 |item _ ih=>
  intro hW hL;have h1:=ih hW hL;refine⟨?_,rfl⟩;obtain⟨g1,g2⟩:=h1.1;rename_i x _;have e:pr (nd {kind:= [105,116,101,109]} (l1 x))=pr x:=by
   rw[ZkW,ZvT];simp[prN,Yf,asP]
  exact⟨ZjN (ZjM g1) (by(constructor<;>first|exact ZW8 _|exact(hW _ ZPm).text|exact(hW _ ZPm).lo|exact(hW _ ZPm).hi|(simp[Yh,Yd];done))) (by simp[arity,Yf,l1,Tr.len]) (by simp[l1,Tr.len]) (by rw[e];omega),by rw[e];exact g2⟩
 |Ke hd ih=>
  exact ZVp
 |Ei hd ih=>
  exact ZVp
 |KU hd ih=>
  exact ZVp
 |VV _ _ _ ih1 ih2=>
  exact ZVt
 |UI _ _ _ ih1 ih2=>
  exact ZVt
 |Ud _ _ _ ih1 ih2=>
  exact ZVt
 |UM _ ih=>
  intro hW hL;obtain⟨x,rfl,h1⟩:=ih hW hL;exact⟨_,_,_,_,_,0,0,0,rfl,h1,.inl rfl,.inl rfl,.inl rfl,U⟩
 |V5 _ _ _ ih1 ih2=>
  intro hW hL;obtain⟨x,rfl,h1⟩:=Ym ih1;obtain⟨g,w,hh,ng,nw,nh,rfl,h2,h3,h4,h5⟩:=Ym ih2;exact⟨_,_,_,_,_,ng,nw,nh,rfl,h1,h2,h3,h4,ZPN⟩
 |UL _ _ _ _ ih1 ih2=>
  intro hW hL;obtain⟨x,rfl,h1⟩:=Ym ih1;obtain⟨g,hh,ng,nh,rfl,h2,h3,h5⟩:=Ym ih2;exact⟨_,_,_,_,_,ng,0,nh,rfl,h1,.inr h2,.inl rfl,h3,ZPN⟩
 |U1 _ ih=>
  intro hW hL;have h1:=ih hW hL;exact⟨_,_,_,0,_,0,rfl,.inl rfl,.inr ⟨h1.2,h1.1⟩,.inl rfl,U⟩
 |Ub _ _ _ _ ih1 ih2=>
  intro hW hL;have h1:=Ym ih1;obtain⟨g,hh,ng,nh,rfl,h2,h3,h5⟩:=Ym ih2;exact⟨_,_,_,ng,_,nh,rfl,.inr h2,.inr ⟨h1.2,h1.1⟩,h3,ZPN⟩
 |Ur _ ih=>
  intro hW hL;obtain⟨x,rfl,h1⟩:=ih hW hL;exact⟨_,_,_,0,rfl,h1,.inl rfl,U⟩
 |Us _ _ _ ih1 ih2=>
  intro hW hL;obtain⟨x,rfl,h1⟩:=Ym ih1;have h2:=Ym ih2;exact⟨_,_,_,_,rfl,h1,.inr ⟨h2.2,h2.1⟩,ZPN⟩
 |Ue _ _ _ _ ih=>
  exact ZVr
 |Uf _ _ _ _ _ ih=>
  exact ZVr
 |VI _ _ _ _ ih1 ih2=>
  exact ZVs
 |VJ _ _ _ _ _ ih1 ih2=>
  exact ZVs
end Go.Proofs.YthmlacabmlghbaaGreatDoor
