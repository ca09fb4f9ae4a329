import Derived.Test.YthmlacabmlghbaaGreatDoorBgJa03
set_option maxRecDepth 100000
set_option maxHeartbeats 8000000
set_option linter.unusedSimpArgs false
set_option linter.unusedVariables false
namespace Go.Proofs.YthmlacabmlghbaaGreatDoor
open T NT
inductive PT|P (k:NT)|R (k:NT) (x:Tr)|ask (x:Tr)|round (k:NT)|alias
open PT
def XO(t:T):List RW->Option (RW×List RW)
 |u::r=>if tok u=t then some (u,r)else none
 | []=>none
def Jf(t:T):List RW->Bool×List RW
 |u::r=>if tok u=t then(true,r)else(false,u::r)
 | []=>(false, [])
def Zaj(x:Tr):Tr:=nd {kind:= [114,111,119]} x
def opT(u:RW)(x y:Tr):Tr:=nd {kind:=u.text} (l2 x y)
def Zh:Nat->PT->List RW->Option (Tr×List RW)
 |0,_,_=>none
 |n+1,P query,l=>(Zh n (P core) l).bind fun p=>Zh n (R query p.1) p.2
 |n+1,R query x,l=>match l with
  |u::r=>if isSet (tok u)then
    (Zh n (P core) (Jf Xl r).2).bind fun p=>Zh n (R query (nd {kind:=u.text,all:=(Jf Xl r).1} (l2 x p.1))) p.2
   else some (x,u::r)
  | []=>some (x, [])
 |n+1,P core,l=>match l with
  |u::r=>if tok u=lp then Zh n (round query) (u::r)
   else if tok u=Yk then
    (match (Jf ZU r).2 with
     |s::r2=>if tok s=star then(XO YA r2).bind fun e=>(Zh n (P tail) e.2).bind fun p=>some (XV true (Jf ZU r).1 .nil p.1,p.2)
      else(Zh n (P items) (s::r2)).bind fun q=>(XO YA q.2).bind fun e=>(Zh n (P tail) e.2).bind fun p=>some (XV false (Jf ZU r).1 q.1.kids p.1,p.2)
     | []=>none)
   else none
  | []=>none
 |n+1,round k,l=>(XO lp l).bind fun e=>(Zh n (P k) e.2).bind fun p=>(XO rp p.2).bind fun e2=>some (p.1,e2.2)
 |n+1,P tail,l=>(Zh n (P sources) l).bind fun p=>match p.2 with
  |u::r=>if tok u=Y2 then(Zh n (P after) r).bind fun q=>some (ZV p.1.kids q.1.YB q.1.Q6 q.1.Qn,q.2)
   else if tok u=group then(XO Y7 r).bind fun e=>(Zh n (P Z6) e.2).bind fun q=>some (ZV p.1.kids q.1.YB q.1.Q6 q.1.Qn,q.2)
   else some (ZV p.1.kids .nil .nil .nil,u::r)
  | []=>some (ZV p.1.kids .nil .nil .nil, [])
 |n+1,P after,l=>(Zh n (P cnd) l).bind fun p=>match p.2 with
  |u::r=>if tok u=group then(XO Y7 r).bind fun e=>(Zh n (P Z6) e.2).bind fun q=>some (ZV q.1.Jo q.1.YB p.1 q.1.Qn,q.2)
   else some (ZV .nil .nil p.1 .nil,u::r)
  | []=>some (ZV .nil .nil p.1 .nil, [])
 |n+1,P Z6,l=>(Zh n (P Zu) l).bind fun p=>match p.2 with
  |u::r=>if tok u=having then(Zh n (P cnd) r).bind fun q=>some (ZV .nil p.1.kids .nil q.1,q.2)
   else some (ZV .nil p.1.kids .nil .nil,u::r)
  | []=>some (ZV .nil p.1.kids .nil .nil, [])
 |n+1,P items,l=>(Zh n (P NT.item) l).bind fun p=>Zh n (R items (Zaj (l1 p.1))) p.2
 |n+1,R items x,l=>match l with
  |u::r=>if tok u=comma then(Zh n (P NT.item) r).bind fun p=>Zh n (R items (Zaj (x.kids.snoc p.1))) p.2 else some (x,u::r)
  | []=>some (x, [])
 |n+1,P NT.item,l=>(Zh n (P expr) l).bind fun p=>(Zh n PT.alias p.2).bind fun q=>some (nd {kind:= [105,116,101,109],Zx:=(match q.1 with| .node f _ _ _ _ _ _=>f.Zx|_=> [])} (l1 p.1),q.2)
 |_+1,PT.alias,l=>match l with
  |u::r=>if tok u=T.Zx then(XO name r).bind fun e=>some (nd {Zx:=e.1.text} .nil,e.2)else some (nd {} .nil,u::r)
  | []=>some (nd {} .nil, [])
 |n+1,P sources,l=>(Zh n (P source) l).bind fun p=>Zh n (R sources (Zaj (l1 p.1))) p.2
 |n+1,R sources x,l=>match l with
  |u::r=>if tok u=comma then(Zh n (P source) r).bind fun p=>Zh n (R sources (Zaj (x.kids.snoc p.1))) p.2 else some (x,u::r)
  | []=>some (x, [])
 |n+1,P source,l=>(XO name l).bind fun e=>(Zh n PT.alias e.2).bind fun q=>some (nd {kind:= [115,111,117,114,99,101],text:=e.1.text,Zx:=(match q.1 with| .node f _ _ _ _ _ _=>f.Zx|_=> [])} .nil,q.2)
 |n+1,P Zu,l=>(Zh n (P column) l).bind fun p=>Zh n (R Zu (Zaj (l1 p.1))) p.2
 |n+1,R Zu x,l=>match l with
  |u::r=>if tok u=comma then(Zh n (P column) r).bind fun p=>Zh n (R Zu (Zaj (x.kids.snoc p.1))) p.2 else some (x,u::r)
  | []=>some (x, [])
 |_+1,P column,l=>(XO name l).bind fun e=>match e.2 with
  |u::r=>if tok u=dot then(XO name r).bind fun e2=>some (nd {kind:= [99,111,108,117,109,110],Zd:=e.1.text,text:=e2.1.text} .nil,e2.2)
   else some (nd {kind:= [99,111,108,117,109,110],text:=e.1.text} .nil,u::r)
  | []=>some (nd {kind:= [99,111,108,117,109,110],text:=e.1.text} .nil, [])
 |n+1,P cnd,l=>(Zh n (P ZF) l).bind fun p=>Zh n (R cnd p.1) p.2
 |n+1,R cnd x,l=>match l with
  |u::r=>if tok u=Qr then(Zh n (P ZF) r).bind fun p=>Zh n (R cnd (opT u x p.1)) p.2 else some (x,u::r)
  | []=>some (x, [])
 |n+1,P ZF,l=>(Zh n (P neg) l).bind fun p=>Zh n (R ZF p.1) p.2
 |n+1,R ZF x,l=>match l with
  |u::r=>if tok u=Qa then(Zh n (P neg) r).bind fun p=>Zh n (R ZF (opT u x p.1)) p.2 else some (x,u::r)
  | []=>some (x, [])
 |n+1,P neg,l=>match l with
  |u::r=>if tok u=T.not_ then(Zh n (P neg) r).bind fun p=>some (nd {kind:= [110,111,116]} (l1 p.1),p.2)else Zh n (P basic) (u::r)
  | []=>none
 |n+1,P basic,l=>match l with
  |u::r=>if tok u=Xu then(Zh n (round query) r).bind fun p=>some (nd {kind:= [101,120,105,115,116,115]} (l1 p.1),p.2)
   else if YX 0 ((u::r).map tok)then Zh n (round cnd) (u::r)else(Zh n (P expr) (u::r)).bind fun p=>Zh n (PT.ask p.1) p.2
  | []=>none
 |n+1,PT.ask x,l=>match l with
  |u::r=>if tok u=Qe then(XO null (Jf T.not_ r).2).bind fun e=>some (nd {kind:= [105,115,110,117,108,108],not_:=(Jf T.not_ r).1} (l1 x),e.2)
   else if tok u=cmp then
    (match r with
     |v::r'=>if XI (tok v)then(Zh n (round query) r').bind fun p=>some (nd {kind:=v.text,sign:=u.text} (l2 x p.1),p.2)
      else(Zh n (P expr) (v::r')).bind fun p=>some (nd {kind:= [99,111,109,112,97,114,101],sign:=u.text} (l2 x p.1),p.2)
     | []=>none)
   else(XO Yt (Jf T.not_ (u::r)).2).bind fun e=>(Zh n (round query) e.2).bind fun p=>some (nd {kind:= [105,110],not_:=(Jf T.not_ (u::r)).1} (l2 x p.1),p.2)
  | []=>none
 |n+1,P expr,l=>(Zh n (P term) l).bind fun p=>Zh n (R expr p.1) p.2
 |n+1,R expr x,l=>match l with
  |u::r=>if isAdd (tok u)then(Zh n (P term) r).bind fun p=>Zh n (R expr (opT u x p.1)) p.2 else some (x,u::r)
  | []=>some (x, [])
 |n+1,P term,l=>(Zh n (P factor) l).bind fun p=>Zh n (R term p.1) p.2
 |n+1,R term x,l=>match l with
  |u::r=>if isMul (tok u)then(Zh n (P factor) r).bind fun p=>Zh n (R term (opT u x p.1)) p.2 else some (x,u::r)
  | []=>some (x, [])
 |n+1,P factor,l=>match l with
  |u::r=>if tok u=minus then(Zh n (P factor) r).bind fun p=>some (nd {kind:= [110,101,103]} (l1 p.1),p.2)
   else if tok u=null then some (nd {kind:= [110,117,108,108]} .nil,r)
   else if tok u=lit then(if u.sort=Yh then some (nd {kind:=Yh,num:=u.num} .nil,r)else some (nd {kind:=Yd,text:=u.text} .nil,r))
   else if tok u=lp then Zh n (round expr) (u::r)
   else if isAgg (tok u)then(XO lp r).bind fun e=>
    (match e.2 with
     |s::r2=>if tok u=count/\tok s=star then(XO rp r2).bind fun e2=>some (nd {kind:= [99,111,117,110,116],star:=true} .nil,e2.2)
      else(Zh n (P expr) (s::r2)).bind fun p=>(XO rp p.2).bind fun e2=>some (nd {kind:=u.text} (l1 p.1),e2.2)
     | []=>none)
   else Zh n (P column) (u::r)
  | []=>none
 |_+1,R _ _,_=>none
def JL(pk:PT)(l:List RW)(q:Tr×List RW):Prop:=∃N,∀n,N<=n->Zh n pk l=some q
def Zc4(k:NT)(t:Tr)(r':List RW)(q:Tr×List RW):Prop:=if chains k then JL (R k t) r' q else q=(t,r')
theorem EL{pk:PT}{l:List RW}{q:Tr×List RW}(h:∀n,Zh (n+1) pk l=some q):JL pk l q:=
 ⟨1,fun n hn=>by obtain⟨m,rfl⟩:∃m,n=m+1:=⟨n-1,U⟩;exact h m⟩
theorem Zim{pk k:PT}{l l':List RW}{q:Tr×List RW}(h:∀n,Zh (n+1) pk l=Zh n k l')(h1:JL k l' q):JL pk l q:=by
 exact ZVH
theorem Y5{pk k1:PT}{l l':List RW}{p q:Tr×List RW}(g:Nat->Tr×List RW->Option (Tr×List RW))(h:∀n,Zh (n+1) pk l=(Zh n k1 l').bind (g n))(h1:JL k1 l' p)(h2:∃N,∀n,N<=n->g n p=some q):JL pk l q:=by
 obtain⟨N1,hN1⟩:=h1;obtain⟨N2,hN2⟩:=h2;refine⟨N1+N2+1,fun n hn=>?_⟩;obtain⟨m,rfl⟩:∃m,n=m+1:=⟨n-1,U⟩;rw[h m,hN1 m U];exact hN2 m U
theorem ZcP{pk k1:PT}{l l':List RW}{p:Tr×List RW}(f:Tr×List RW->Tr×List RW)(h:∀n,Zh (n+1) pk l=(Zh n k1 l').bind fun p=>some (f p))(h1:JL k1 l' p):JL pk l (f p):=
 Y5 (fun _ p=>some (f p)) h h1 ⟨0,fun _ _=>rfl⟩
theorem Uk{t:T}{u:RW}(h:tok u=t)(r:List RW):XO t (u::r)=some (u,r):=by simp[XO,h]
theorem ZeM{k:NT}{o c:RW}{a r:List RW}{x:Tr}(ho:tok o=lp)(hc:tok c=rp)(h:JL (P k) (a++c::r) (x,c::r)):JL (round k) (o::(a++ [c])++r) (x,r):=by
 refine Y5 (k1:=P k) (l':=a++c::r) (fun _ p=>(XO rp p.2).bind fun e2=>some (p.1,e2.2)) (fun n=>?_) h ⟨0,fun n _=>?_⟩
 ·rw[Zh,List.cons_append,Uk ho,ZW7];rfl
 ·simp[Uk hc]
def Zc3(k:NT)(r:List RW):Prop:=∀u r',r=u::r'->ext k (tok u)=false
theorem Zhe{k:NT}{u:RW}{r:List RW}(h:ext k (tok u)=false):Zc3 k (u::r):=by
 intro v r' e;cases e;exact h
theorem Ql{k:NT}{u:RW}{t:T}{r:List RW}(hu:tok u=t)(h:ext k t=false):Zc3 k (u::r):=Zhe (by rw[hu];exact h)
theorem Zc3.mono{k k':NT}{r:List RW}(h:Zc3 k r)(he:∀t,ext k' t=true->ext k t=true):Zc3 k' r:=by
 intro u r' e;have:=h u r' e;cases hx:ext k' (tok u)with
 |false=>rfl
 |true=>rw[he _ hx]at this;cases this
theorem ZJy{k:NT}{x:Tr}{r:List RW}(hc:chains k=true)(h:Zc3 k r):JL (R k x) r (x,r):=by
 cases r with
 |nil=>cases k<;>first|exact absurd hc ZPl|exact EL (fun n=>by simp[Zh])
 |cons u r=>
  have hu:=h u r rfl;generalize ht:tok u=t at hu;cases k<;>first|exact absurd hc ZPl|(cases t<;>first|exact absurd hu ZPl|exact EL (fun n=>by simp[Zh,ht,isSet,isAdd,isMul]))
def Zqz(k:NT)(a:List RW)(t:Tr):Prop:=∀q r',Zc3 (base k) r'->Zc4 k t r' q->JL (P k) (a++r') q
theorem Z5{k:NT}{a r:List RW}{t:Tr}(h:Zqz k a t)(hf:Zc3 k r):JL (P k) (a++r) (t,r):=by
 refine h _ r ?_ ?_
 ·refine hf.mono ?_;cases k<;>(intro t;cases t<;>decide)
 ·unfold Zc4;cases hc:chains k with
  |true=>simp only[ZXR];exact ZJy hc hf
  |false=>simp
theorem Xd{k:NT}{t:Tr}{r':List RW}{q:Tr×List RW}(h:Zc4 k t r' q)(hc:chains k=false):q=(t,r'):=by
 unfold Zc4 at h;exact ZWw
theorem VN{k:NT}{t:Tr}{r':List RW}{q:Tr×List RW}(h:Zc4 k t r' q)(hc:chains k=true):JL (R k t) r' q:=by
 unfold Zc4 at h;exact ZWw
theorem Zcj{k:NT}{t:Tr}{r':List RW}{q:Tr×List RW}(hc:chains k=true)(h:JL (R k t) r' q):Zc4 k t r' q:=by
 unfold Zc4;rw[hc];simpa using h
def ZeT(n:Nat)(p:Tr×List RW):Option (Tr×List RW):=match p.2 with
 |u::r=>if tok u=Y2 then(Zh n (P after) r).bind fun q=>some (ZV p.1.kids q.1.YB q.1.Q6 q.1.Qn,q.2)
  else if tok u=group then(XO Y7 r).bind fun e=>(Zh n (P Z6) e.2).bind fun q=>some (ZV p.1.kids q.1.YB q.1.Q6 q.1.Qn,q.2)
  else some (ZV p.1.kids .nil .nil .nil,u::r)
 | []=>some (ZV p.1.kids .nil .nil .nil, [])
theorem ZoB(n:Nat)(l:List RW):Zh (n+1) (P tail) l=(Zh n (P sources) l).bind (ZeT n):=by rw[Zh];rfl
def ZgR(n:Nat)(p:Tr×List RW):Option (Tr×List RW):=match p.2 with
 |u::r=>if tok u=group then(XO Y7 r).bind fun e=>(Zh n (P Z6) e.2).bind fun q=>some (ZV q.1.Jo q.1.YB p.1 q.1.Qn,q.2)
  else some (ZV .nil .nil p.1 .nil,u::r)
 | []=>some (ZV .nil .nil p.1 .nil, [])
theorem ZvK(n:Nat)(l:List RW):Zh (n+1) (P after) l=(Zh n (P cnd) l).bind (ZgR n):=by rw[Zh];rfl
def Zhh(n:Nat)(p:Tr×List RW):Option (Tr×List RW):=match p.2 with
 |u::r=>if tok u=having then(Zh n (P cnd) r).bind fun q=>some (ZV .nil p.1.kids .nil q.1,q.2)
  else some (ZV .nil p.1.kids .nil .nil,u::r)
 | []=>some (ZV .nil p.1.kids .nil .nil, [])
theorem ZvL(n:Nat)(l:List RW):Zh (n+1) (P Z6) l=(Zh n (P Zu) l).bind (Zhh n):=by rw[Zh];rfl
def Zmg(t:Tr):Za:=match t with| .node f _ _ _ _ _ _=>f.Zx|_=> []
def Zic(n:Nat)(p:Tr×List RW):Option (Tr×List RW):=(Zh n PT.alias p.2).bind fun q=>some (nd {kind:= [105,116,101,109],Zx:=Zmg q.1} (l1 p.1),q.2)
theorem ZvM(n:Nat)(l:List RW):Zh (n+1) (P NT.item) l=(Zh n (P expr) l).bind (Zic n):=by rw[Zh];rfl
theorem Zew{k:NT}{b:List RW}{t:Tr}(h:D k b t):∃v b',b=v::b'/\first k (tok v)=true:=by
 obtain⟨t,r,e,hf⟩:=VM h.g;cases b with
 |nil=>cases e
 |cons v b'=>
  rw[ZWZ]at e;exact⟨v,b',rfl,by rw[(ZXk e).1];exact hf⟩
theorem Zse{t:T}(h:isSet t=true):ext core t=false:=by cases t<;>first|exact absurd h ZPl|rfl
theorem ZCl{t:T}(h:isAdd t=true):ext term t=false:=by cases t<;>first|exact absurd h ZPl|rfl
theorem ZCm{t:T}(h:isMul t=true):ext factor t=false:=by cases t<;>first|exact absurd h ZPl|rfl
theorem ZLa{t:T}{v:RW}{r:List RW}(h:tok v≠t):Jf t (v::r)=(false,v::r):=by simp[Jf,h]
theorem ZLb{t:T}{v:RW}{r:List RW}(h:tok v=t):Jf t (v::r)=(true,r):=by simp[Jf,h]
theorem ZqE{r:List RW}(h:∀u r',r=u::r'->tok u≠T.Zx):JL PT.alias r (nd {} .nil,r):=by
 cases r with
 |nil=>exact EL (fun n=>by simp[Zh])
 |cons u r=>have:=h u r rfl;exact EL (fun n=>by simp[Zh,this])
theorem ZqD{u v:RW}{r:List RW}(hu:tok u=T.Zx)(hv:tok v=name):JL PT.alias (u::v::r) (nd {Zx:=v.text} .nil,r):=EL (fun n=>by simp[Zh,hu,Uk hv])
theorem Zfk{a:List RW}{x:Tr}(h:D expr a x)(n:Nat)(s:List RW):Zh (n+1) (P basic) (a++s)=(Zh n (P expr) (a++s)).bind fun p=>Zh n (PT.ask p.1) p.2:=by
 have ho:YX 0 ((a++s).map tok)=false:=by rw[ZWY];exact Zvg h.g rfl _
 obtain⟨v,b,rfl,hf⟩:=Zew h;rw[List.cons_append]at ho ⊢;rw[Zh];have he:tok v≠Xu:=fun e=>by rw[e]at hf;exact absurd hf ZPl
 rw[ZWQ he,ZWQ (by rw[ho];simp)]
theorem Zv6{k:NT}{a:List RW}{t:Tr}(h:D k a t):Zqz k a t:=by
 induction h with
 |Kt _ ih=>
  intro q r' hf hg;exact Y5 (fun n p=>Zh n (R query p.1) p.2) (fun n=>ZQa) (Z5 ih hf) (VN hg rfl)
 |Uy _ ih=>
  intro q r' hf hg;exact Y5 (fun n p=>Zh n (R cnd p.1) p.2) (fun n=>ZQa) (Z5 ih hf) (VN hg rfl)
 |Ux _ ih=>
  intro q r' hf hg;exact Y5 (fun n p=>Zh n (R ZF p.1) p.2) (fun n=>ZQa) (Z5 ih hf) (VN hg rfl)
 |Uj _ ih=>
  intro q r' hf hg;exact Y5 (fun n p=>Zh n (R expr p.1) p.2) (fun n=>ZQa) (Z5 ih hf) (VN hg rfl)
 |UA _ ih=>
  intro q r' hf hg;exact Y5 (fun n p=>Zh n (R term p.1) p.2) (fun n=>ZQa) (Z5 ih hf) (VN hg rfl)
 |Ke _ ih=>
  intro q r' hf hg;exact Y5 (fun n p=>Zh n (R items (Zaj (l1 p.1))) p.2) (fun n=>ZQa) (Z5 ih hf) (VN hg rfl)
 |Ei _ ih=>
  intro q r' hf hg;exact Y5 (fun n p=>Zh n (R sources (Zaj (l1 p.1))) p.2) (fun n=>ZQa) (Z5 ih hf) (VN hg rfl)
 |KU _ ih=>
  intro q r' hf hg;exact Y5 (fun n p=>Zh n (R Zu (Zaj (l1 p.1))) p.2) (fun n=>ZQa) (Z5 ih hf) (VN hg rfl)
 |Ku hu _ hb ih1 ih2=>
  intro q r' hf hg;rename_i a b u x y _;obtain⟨v,b',rfl,hv⟩:=Zew hb;rw[ZW7];have hs:Jf Xl (v::b'++r')=(false,v::b'++r'):=ZLa (fun e=>by rw[e]at hv;exact absurd hv ZPl);refine ih1 q _ (Zhe (Zse hu)) (Zcj rfl (Y5 (k1:=P core) (l':=v::b'++r') (fun n p=>Zh n (R query (nd {kind:=u.text} (l2 x p.1))) p.2) (fun n=>?_) (Z5 ih2 hf) (VN hg rfl)));rw[List.cons_append,Zh,hu,ZWR rfl,hs]
 |Kv hu hv _ hb ih1 ih2=>
  intro q r' hf hg;rename_i a b u v x y _;rw[ZW7];refine ih1 q _ (Zhe (Zse hu)) (Zcj rfl (Y5 (k1:=P core) (l':=b++r') (fun n p=>Zh n (R query (nd {kind:=u.text,all:=true} (l2 x p.1))) p.2) (fun n=>?_) (Z5 ih2 hf) (VN hg rfl)));rw[List.cons_append,List.cons_append,Zh,hu,ZWR rfl,ZLb hv]
 |VV hu _ _ ih1 ih2=>
  intro q r' hf hg;rename_i a b u x y _ _;rw[ZW7];exact ih1 q _ (Ql hu rfl) (Zcj rfl (Y5 (k1:=P NT.item) (l':=b++r') (fun n p=>Zh n (R items (Zaj (x.kids.snoc p.1))) p.2) (fun n=>ZQb) (Z5 ih2 hf) (VN hg rfl)))
 |UI hu _ _ ih1 ih2=>
  intro q r' hf hg;rename_i a b u x y _ _;rw[ZW7];exact ih1 q _ (Ql hu rfl) (Zcj rfl (Y5 (k1:=P source) (l':=b++r') (fun n p=>Zh n (R sources (Zaj (x.kids.snoc p.1))) p.2) (fun n=>ZQb) (Z5 ih2 hf) (VN hg rfl)))
 |Ud hu _ _ ih1 ih2=>
  intro q r' hf hg;rename_i a b u x y _ _;rw[ZW7];exact ih1 q _ (Ql hu rfl) (Zcj rfl (Y5 (k1:=P column) (l':=b++r') (fun n p=>Zh n (R Zu (Zaj (x.kids.snoc p.1))) p.2) (fun n=>ZQb) (Z5 ih2 hf) (VN hg rfl)))
 |Uz hu _ _ ih1 ih2=>
  intro q r' hf hg;rename_i a b u x y _ _;rw[ZW7];exact ih1 q _ (Ql hu rfl) (Zcj rfl (Y5 (k1:=P ZF) (l':=b++r') (fun n p=>Zh n (R cnd (opT u x p.1)) p.2) (fun n=>ZQb) (Z5 ih2 hf) (VN hg rfl)))
 |Uw hu _ _ ih1 ih2=>
  intro q r' hf hg;rename_i a b u x y _ _;rw[ZW7];exact ih1 q _ (Ql hu rfl) (Zcj rfl (Y5 (k1:=P neg) (l':=b++r') (fun n p=>Zh n (R ZF (opT u x p.1)) p.2) (fun n=>ZQb) (Z5 ih2 hf) (VN hg rfl)))
 |Ui hu _ _ ih1 ih2=>
  intro q r' hf hg;rename_i a b u x y _ _;rw[ZW7];exact ih1 q _ (Zhe (ZCl hu)) (Zcj rfl (Y5 (k1:=P term) (l':=b++r') (fun n p=>Zh n (R expr (opT u x p.1)) p.2) (fun n=>ZSu) (Z5 ih2 hf) (VN hg rfl)))
 |UB hu _ _ ih1 ih2=>
  intro q r' hf hg;rename_i a b u x y _ _;rw[ZW7];exact ih1 q _ (Zhe (ZCm hu)) (Zcj rfl (Y5 (k1:=P factor) (l':=b++r') (fun n p=>Zh n (R term (opT u x p.1)) p.2) (fun n=>ZSu) (Z5 ih2 hf) (VN hg rfl)))
 |U4 ho hc _ ih=>
  intro q r' hf hg;obtain rfl:=Xd hg rfl;exact Zim (k:=round query) (fun n=>by rw[List.cons_append,Zh,ZWR ho]) (ZeM ho hc (Z5 ih (Ql hc rfl)))
 |Ue hs hr hf1 _ ih=>
  intro q r' hf hg;obtain rfl:=Xd hg rfl;exact ZcP (fun p=>(XV true false .nil p.1,p.2)) (fun n=>by simp[Zh,hs,hr,Jf,XO,hf1]) (Z5 ih (hf.mono ZPz))
 |Uf hs hd hr hf1 _ ih=>
  intro q r' hf hg;obtain rfl:=Xd hg rfl;exact ZcP (fun p=>(XV true true .nil p.1,p.2)) (fun n=>by simp[Zh,hs,hd,hr,Jf,XO,hf1]) (Z5 ih (hf.mono ZPz))
 |VI hs hf1 hl _ ih1 ih2=>
  intro q r' hf hg;obtain rfl:=Xd hg rfl;rename_i s l f t x y _;obtain⟨v,b',rfl,hv⟩:=Zew hl;have h1:JL (P items) (v::b'++f::(t++r')) (y,f::(t++r')):=Z5 ih1 (Ql hf1 rfl);obtain⟨N,hN⟩:=Z5 ih2 (r:=r') (hf.mono ZPz);refine Y5 (k1:=P items) (l':=v::b'++f::(t++r')) (fun n q=>(XO YA q.2).bind fun e=>(Zh n (P tail) e.2).bind fun p=>some (XV false false q.1.kids p.1,p.2)) (fun n=>?_) h1 ⟨N,fun n hn=>by simp[Uk hf1,hN n hn]⟩;have n1:tok v≠ZU:=fun e=>by rw[e]at hv;exact absurd hv ZPl
  have n2:tok v≠star:=fun e=>by rw[e]at hv;exact absurd hv ZPl
  simp[Zh,hs,Jf,n1,n2]
 |VJ hs hd hf1 hl _ ih1 ih2=>
  intro q r' hf hg;obtain rfl:=Xd hg rfl;rename_i s d l f t x y _;obtain⟨v,b',rfl,hv⟩:=Zew hl;have h1:JL (P items) (v::b'++f::(t++r')) (y,f::(t++r')):=Z5 ih1 (Ql hf1 rfl);obtain⟨N,hN⟩:=Z5 ih2 (r:=r') (hf.mono ZPz);refine Y5 (k1:=P items) (l':=v::b'++f::(t++r')) (fun n q=>(XO YA q.2).bind fun e=>(Zh n (P tail) e.2).bind fun p=>some (XV false true q.1.kids p.1,p.2)) (fun n=>?_) h1 ⟨N,fun n hn=>by simp[Uk hf1,hN n hn]⟩;have n2:tok v≠star:=fun e=>by rw[e]at hv;exact absurd hv ZPl
  simp[Zh,hs,hd,Jf,n2]
 |UM _ ih=>
  intro q r' hf hg;obtain rfl:=Xd hg rfl;refine Y5 ZeT (fun n=>ZoB n _) (Z5 ih (hf.mono ZPz)) ⟨0,fun n _=>?_⟩;cases r' with
  |nil=>rfl
  |cons u r=>
   have:=hf u r rfl;have n1:tok u≠Y2:=fun e=>by rw[e]at this;exact absurd this ZPl
   have n2:tok u≠group:=fun e=>by rw[e]at this;exact absurd this ZPl
   simp[ZeT,n1,n2]
 |V5 hu _ _ ih1 ih2=>
  intro q r' hf hg;obtain rfl:=Xd hg rfl;rename_i a b u x y _ _;rw[ZW7];obtain⟨N,hN⟩:=Z5 ih2 (r:=r') (hf.mono ZPz);exact Y5 (p:=(x,u::(b++r'))) ZeT (fun n=>ZoB n _) (Z5 ih1 (Ql hu rfl)) ⟨N,fun n hn=>by simp[ZeT,hu,hN n hn]⟩
 |UL hu hv _ _ ih1 ih2=>
  intro q r' hf hg;obtain rfl:=Xd hg rfl;rename_i a b u v x y _ _;rw[ZW7];obtain⟨N,hN⟩:=Z5 ih2 (r:=r') (hf.mono ZPz);exact Y5 (p:=(x,u::v::(b++r'))) ZeT (fun n=>ZoB n _) (Z5 ih1 (Ql hu rfl)) ⟨N,fun n hn=>by simp[ZeT,hu,Uk hv,hN n hn]⟩
 |U1 _ ih=>
  intro q r' hf hg;obtain rfl:=Xd hg rfl;refine Y5 ZgR (fun n=>ZvK n _) (Z5 ih (hf.mono ZPz)) ⟨0,fun n _=>?_⟩;cases r' with
  |nil=>rfl
  |cons u r=>
   have:=hf u r rfl;have n2:tok u≠group:=fun e=>by rw[e]at this;exact absurd this ZPl
   simp[ZgR,n2]
 |Ub hu hv _ _ ih1 ih2=>
  intro q r' hf hg;obtain rfl:=Xd hg rfl;rename_i a b u v x y _ _;rw[ZW7];obtain⟨N,hN⟩:=Z5 ih2 (r:=r') (hf.mono ZPz);exact Y5 (p:=(x,u::v::(b++r'))) ZgR (fun n=>ZvK n _) (Z5 ih1 (Ql hu rfl)) ⟨N,fun n hn=>by simp[ZgR,hu,Uk hv,hN n hn]⟩
 |Ur _ ih=>
  intro q r' hf hg;obtain rfl:=Xd hg rfl;refine Y5 Zhh (fun n=>ZvL n _) (Z5 ih (hf.mono ZPz)) ⟨0,fun n _=>?_⟩;cases r' with
  |nil=>rfl
  |cons u r=>
   have:=hf u r rfl;have n2:tok u≠having:=fun e=>by rw[e]at this;exact absurd this ZPl
   simp[Zhh,n2]
 |Us hu _ _ ih1 ih2=>
  intro q r' hf hg;obtain rfl:=Xd hg rfl;rename_i a b u x y _ _;rw[ZW7];obtain⟨N,hN⟩:=Z5 ih2 (r:=r') (hf.mono ZPz);exact Y5 (p:=(x,u::(b++r'))) Zhh (fun n=>ZvL n _) (Z5 ih1 (Ql hu rfl)) ⟨N,fun n hn=>by simp[Zhh,hu,hN n hn]⟩
 |item _ ih=>
  intro q r' hf hg;obtain rfl:=Xd hg rfl;obtain⟨N,hN⟩:=ZqE (r:=r') (fun u r e=>ZSv);exact Y5 Zic (fun n=>ZvM n _) (Z5 ih (hf.mono ZPz)) ⟨N,fun n hn=>by simp[Zic,hN n hn,Zmg,nd]⟩
 |Kh hu hv _ ih=>
  intro q r' hf hg;obtain rfl:=Xd hg rfl;rename_i a u v x _;rw[ZW7];obtain⟨N,hN⟩:=ZqD (r:=r') hu hv;exact Y5 (p:=(x,u::v::r')) Zic (fun n=>ZvM n _) (Z5 ih (Ql hu rfl)) ⟨N,fun n hn=>by simp[Zic,hN n hn,Zmg,nd]⟩
 |src hu=>
  intro q r' hf hg;obtain rfl:=Xd hg rfl;obtain⟨N,hN⟩:=ZqE (r:=r') (fun u r e=>ZSv);refine⟨N+1,fun n hn=>?_⟩;obtain⟨m,rfl⟩:∃m,n=m+1:=⟨n-1,U⟩;rw[List.cons_append,List.nil_append,Zh,Uk hu];simp[hN m U,nd]
 |Ej hu hv hw=>
  intro q r' hf hg;obtain rfl:=Xd hg rfl;obtain⟨N,hN⟩:=ZqD (r:=r') hv hw;refine⟨N+1,fun n hn=>?_⟩;obtain⟨m,rfl⟩:∃m,n=m+1:=⟨n-1,U⟩;rw[List.cons_append,List.cons_append,List.cons_append,List.nil_append,Zh,Uk hu];simp[hN m U,nd]
 |JF hu=>
  intro q r' hf hg;obtain rfl:=Xd hg rfl;refine EL (fun n=>?_);rw[List.cons_append,List.nil_append,Zh,Uk hu];cases r' with
  |nil=>rfl
  |cons v r=>
   have:=hf v r rfl;have n2:tok v≠dot:=fun e=>by rw[e]at this;exact absurd this ZPl
   simp[n2]
 |Uh hu hv hw=>
  intro q r' hf hg;obtain rfl:=Xd hg rfl;refine EL (fun n=>?_);simp[Zh,Uk hu,hv,Uk hw]
 |UD hu _ ih=>
  intro q r' hf hg;obtain rfl:=Xd hg rfl;exact ZcP (fun p=>(nd {kind:= [110,111,116]} (l1 p.1),p.2)) (fun n=>ZQb) (Z5 ih hf)
 |UC hb ih=>
  intro q r' hf hg;obtain rfl:=Xd hg rfl;have hn:=Zmi hb.g;obtain⟨v,b',rfl,hv⟩:=Zew hb;refine Zim (k:=P basic) (fun n=>?_) (Z5 ih (hf.mono ZPz));have n1:tok v≠T.not_:=fun e=>hn (b'.map tok) (by rw[ZWZ,e]);rw[List.cons_append,Zh,ZWQ n1]
 |VB hu ho hc _ ih=>
  intro q r' hf hg;obtain rfl:=Xd hg rfl;exact ZcP (fun p=>(nd {kind:= [101,120,105,115,116,115]} (l1 p.1),p.2)) (fun n=>ZQb) (ZeM ho hc (Z5 ih (Ql hc rfl)))
 |VG ho hc h ih=>
  intro q r' hf hg;obtain rfl:=Xd hg rfl;rename_i a o c x;refine Zim (k:=round cnd) (fun n=>?_) (ZeM ho hc (Z5 ih (Ql hc rfl)));have hop:YX 0 ((o::(a++ [c])++r').map tok)=true:=by
   rw[List.cons_append,ZWZ,ho,QH 0 lp _ ZPl rfl,ZW7,ZWY];exact Zxo h.g rfl _ _ ZPl
  rw[List.cons_append]at hop ⊢;rw[Zh,ZWQ (by rw[ho];decide),ZWR hop]
 |VF hu hv h ih1=>
  intro q r' hf hg;obtain rfl:=Xd hg rfl;rw[ZW7];exact Y5 (fun n p=>Zh n (PT.ask p.1) p.2) (fun n=>Zfk h n _) (Z5 ih1 (Ql hu rfl)) (EL (fun n=>by simp[Zh,hu,Jf,hv,XO]))
 |VE hu hn hv h ih1=>
  intro q r' hf hg;obtain rfl:=Xd hg rfl;rw[ZW7];exact Y5 (fun n p=>Zh n (PT.ask p.1) p.2) (fun n=>Zfk h n _) (Z5 ih1 (Ql hu rfl)) (EL (fun n=>by simp[Zh,hu,hn,Jf,hv,XO]))
 |VC hu ho hc h _ ih1 ih2=>
  intro q r' hf hg;obtain rfl:=Xd hg rfl;rename_i a qq u o c x y _;rw[ZW7];exact Y5 (fun n p=>Zh n (PT.ask p.1) p.2) (fun n=>Zfk h n _) (Z5 ih1 (Ql hu rfl)) (ZcP (k1:=round query) (l':=o::(qq++ [c])++r') (fun p=>(nd {kind:= [105,110]} (l2 x p.1),p.2)) (fun n=>by simp[Zh,hu,Jf,XO]) (ZeM ho hc (Z5 ih2 (Ql hc rfl))))
 |VD hn hu ho hc h _ ih1 ih2=>
  intro q r' hf hg;obtain rfl:=Xd hg rfl;rename_i a qq n0 u o c x y _;rw[ZW7];exact Y5 (fun n p=>Zh n (PT.ask p.1) p.2) (fun n=>Zfk h n _) (Z5 ih1 (Ql hn rfl)) (ZcP (k1:=round query) (l':=o::(qq++ [c])++r') (fun p=>(nd {kind:= [105,110],not_:=true} (l2 x p.1),p.2)) (fun n=>by simp[Zh,hn,hu,Jf,XO]) (ZeM ho hc (Z5 ih2 (Ql hc rfl))))
 |QX hu hh ho hc h _ ih1 ih2=>
  intro q r' hf hg;obtain rfl:=Xd hg rfl;rename_i a qq u v o c x y _;rw[ZW7];exact Y5 (fun n p=>Zh n (PT.ask p.1) p.2) (fun n=>Zfk h n _) (Z5 ih1 (Ql hu rfl)) (ZcP (k1:=round query) (l':=o::(qq++ [c])++r') (fun p=>(nd {kind:=v.text,sign:=u.text} (l2 x p.1),p.2)) (fun n=>by simp[Zh,hu,hh]) (ZeM ho hc (Z5 ih2 (Ql hc rfl))))
 |J9 hu h hb ih1 ih2=>
  intro q r' hf hg;obtain rfl:=Xd hg rfl;rename_i a b u x y;obtain⟨v,b',rfl,hv⟩:=Zew hb;have nh:XI (tok v)=false:=by generalize tok v=t at hv;cases t<;>first|rfl|exact absurd hv ZPl
  rw[ZW7];exact Y5 (fun n p=>Zh n (PT.ask p.1) p.2) (fun n=>Zfk h n _) (Z5 ih1 (Ql hu rfl)) (ZcP (k1:=P expr) (l':=v::b'++r') (fun p=>(nd {kind:= [99,111,109,112,97,114,101],sign:=u.text} (l2 x p.1),p.2)) (fun n=>by simp[Zh,hu,nh]) (Z5 ih2 (hf.mono ZPz)))
 |Vf hu _ ih=>
  intro q r' hf hg;obtain rfl:=Xd hg rfl;exact ZcP (fun p=>(nd {kind:= [110,101,103]} (l1 p.1),p.2)) (fun n=>ZQb) (Z5 ih hf)
 |Zea hu hs=>
  intro q r' hf hg;obtain rfl:=Xd hg rfl;exact EL (fun n=>by simp[Zh,hu,hs])
 |Zeb hu hs=>
  intro q r' hf hg;obtain rfl:=Xd hg rfl;exact EL (fun n=>by simp[Zh,hu,hs,Yh,Yd])
 |Un hu=>
  intro q r' hf hg;obtain rfl:=Xd hg rfl;exact EL (fun n=>by simp[Zh,hu])
 |Uo hu ho hs hc=>
  intro q r' hf hg;obtain rfl:=Xd hg rfl;exact EL (fun n=>by simp[Zh,hu,isAgg,Uk ho,hs,Uk hc])
 |QO hu ho hc he ih=>
  intro q r' hf hg;obtain rfl:=Xd hg rfl;rename_i a u o c x;obtain⟨v,b',rfl,hv⟩:=Zew he;have n2:tok v≠star:=fun e=>by rw[e]at hv;exact absurd hv ZPl
  refine Y5 (k1:=P expr) (l':=v::b'++c::r') (p:=(x,c::r')) (fun _ p=>(XO rp p.2).bind fun e2=>some (nd {kind:=u.text} (l1 p.1),e2.2)) (fun n=>?_) (Z5 ih (Ql hc rfl)) ⟨0,fun n _=>by simp[Uk hc]⟩;have hu2:=hu;generalize ht:tok u=t at hu2;cases t<;>first|exact absurd hu2 ZPl|simp[Zh,ht,isAgg,Uk ho,n2]
 |Vg ho hc _ ih=>
  intro q r' hf hg;obtain rfl:=Xd hg rfl;exact Zim (k:=round expr) (fun n=>by simp[Zh,ho]) (ZeM ho hc (Z5 ih (Ql hc rfl)))
 |Ve hc ih=>
  intro q r' hf hg;obtain rfl:=Xd hg rfl;refine Zim (k:=P column) (fun n=>?_) (Z5 ih hf);cases hc<;>simp[Zh,isAgg, *]
theorem D.one{l:List RW}{t t':Tr}(h:D query l t)(h':D query l t'):t=t':=by
 obtain⟨N,hN⟩:=Z5 (Zv6 h) (r:= []) (fun u r' e=>ZPF);obtain⟨N',hN'⟩:=Z5 (Zv6 h') (r:= []) (fun u r' e=>ZPF);have h1:=hN (N+N') U;rw[hN' (N+N') U]at h1;exact((Prod.mk.inj (ZXc h1)).1).symm
end Go.Proofs.YthmlacabmlghbaaGreatDoor
