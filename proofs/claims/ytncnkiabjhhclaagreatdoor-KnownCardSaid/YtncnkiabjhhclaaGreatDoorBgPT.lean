import Derived.Test.YtncnkiabjhhclaaGreatDoorBgJa02
set_option maxRecDepth 100000
set_option maxHeartbeats 8000000
set_option linter.all false
namespace Go.Proofs.YtncnkiabjhhclaaGreatDoor
variable{l':List RW}
open T NT
inductive PT|P (k:NT)|R (k:NT) (x:Tr)|ask (x:Tr)|round (k:NT)|alias
open PT
def DZ(t:T):List RW->Option (RW×List RW)
 |u::r=>if wI u=t then some (u,r)else none
 | []=>none
def GN(t:T):List RW->Bool×List RW
 |u::r=>if wI u=t then(true,r)else(false,u::r)
 | []=>(false, [])
def PH(x:Tr):Tr:=nd {kind:= [114,111,119]} x
def XK(u:RW)(x y:Tr):Tr:=nd {kind:=u.text} (l2 x y)
def wM:Nat->PT->List RW->Option (Tr×List RW)
 |0,_,_=>none
 |n+1,P query,l=>(wM n (P core) l).bind λp=>wM n (R query p.1) p.2
 |n+1,R query x,l=>match l with
  |u::r=>if isSet (wI u)then
    (wM n (P core) (GN Ak r).2).bind λp=>wM n (R query (nd {kind:=u.text,all:=(GN Ak r).1} (l2 x p.1))) p.2
   else some (x,u::r)
  | []=>some (x, [])
 |n+1,P core,l=>match l with
  |u::r=>if wI u=lp then wM n (round query) (u::r)
   else if wI u=yO then
    (match (GN BB r).2 with
     |s::r2=>if wI s=star then(DZ BN r2).bind λe=>(wM n (P tail) e.2).bind λp=>some (Ma true (GN BB r).1 .nil p.1,p.2)
      else(wM n (P items) (s::r2)).bind λq=>(DZ BN q.2).bind λe=>(wM n (P tail) e.2).bind λp=>some (Ma false (GN BB r).1 q.1.kids p.1,p.2)
     | []=>none)
   else none
  | []=>none
 |n+1,round k,l=>(DZ lp l).bind λe=>(wM n (P k) e.2).bind λp=>(DZ rp p.2).bind λe2=>some (p.1,e2.2)
 |n+1,P tail,l=>(wM n (P sources) l).bind λp=>match p.2 with
  |u::r=>if wI u=Ee then(wM n (P after) r).bind λq=>some (Dn p.1.kids q.1.xB q.1.Tv q.1.D8,q.2)
   else if wI u=group then(DZ FT r).bind λe=>(wM n (P Dj) e.2).bind λq=>some (Dn p.1.kids q.1.xB q.1.Tv q.1.D8,q.2)
   else some (Dn p.1.kids .nil .nil .nil,u::r)
  | []=>some (Dn p.1.kids .nil .nil .nil, [])
 |n+1,P after,l=>(wM n (P xR) l).bind λp=>match p.2 with
  |u::r=>if wI u=group then(DZ FT r).bind λe=>(wM n (P Dj) e.2).bind λq=>some (Dn q.1.Y6 q.1.xB p.1 q.1.D8,q.2)
   else some (Dn .nil .nil p.1 .nil,u::r)
  | []=>some (Dn .nil .nil p.1 .nil, [])
 |n+1,P Dj,l=>(wM n (P yw) l).bind λp=>match p.2 with
  |u::r=>if wI u=Fj then(wM n (P xR) r).bind λq=>some (Dn .nil p.1.kids .nil q.1,q.2)
   else some (Dn .nil p.1.kids .nil .nil,u::r)
  | []=>some (Dn .nil p.1.kids .nil .nil, [])
 |n+1,P items,l=>(wM n (P NT.item) l).bind λp=>wM n (R items (PH (l1 p.1))) p.2
 |n+1,R items x,l=>match l with
  |u::r=>if wI u=CB then(wM n (P NT.item) r).bind λp=>wM n (R items (PH (x.kids.snoc p.1))) p.2 else some (x,u::r)
  | []=>some (x, [])
 |n+1,P NT.item,l=>(wM n (P expr) l).bind λp=>(wM n PT.alias p.2).bind λq=>some (nd {kind:= [105,116,101,109],xZ:=(match q.1 with| .node f _ _ _ _ _ _=>f.xZ|_=> [])} (l1 p.1),q.2)
 |_+1,PT.alias,l=>match l with
  |u::r=>if wI u=T.xZ then(DZ name r).bind λe=>some (nd {xZ:=e.1.text} .nil,e.2)else some (nd {} .nil,u::r)
  | []=>some (nd {} .nil, [])
 |n+1,P sources,l=>(wM n (P source) l).bind λp=>wM n (R sources (PH (l1 p.1))) p.2
 |n+1,R sources x,l=>match l with
  |u::r=>if wI u=CB then(wM n (P source) r).bind λp=>wM n (R sources (PH (x.kids.snoc p.1))) p.2 else some (x,u::r)
  | []=>some (x, [])
 |n+1,P source,l=>(DZ name l).bind λe=>(wM n PT.alias e.2).bind λq=>some (nd {kind:= [115,111,117,114,99,101],text:=e.1.text,xZ:=(match q.1 with| .node f _ _ _ _ _ _=>f.xZ|_=> [])} .nil,q.2)
 |n+1,P yw,l=>(wM n (P column) l).bind λp=>wM n (R yw (PH (l1 p.1))) p.2
 |n+1,R yw x,l=>match l with
  |u::r=>if wI u=CB then(wM n (P column) r).bind λp=>wM n (R yw (PH (x.kids.snoc p.1))) p.2 else some (x,u::r)
  | []=>some (x, [])
 |_+1,P column,l=>(DZ name l).bind λe=>match e.2 with
  |u::r=>if wI u=dot then(DZ name r).bind λe2=>some (nd {kind:= [99,111,108,117,109,110],wW:=e.1.text,text:=e2.1.text} .nil,e2.2)
   else some (nd {kind:= [99,111,108,117,109,110],text:=e.1.text} .nil,u::r)
  | []=>some (nd {kind:= [99,111,108,117,109,110],text:=e.1.text} .nil, [])
 |n+1,P xR,l=>(wM n (P yM) l).bind λp=>wM n (R xR p.1) p.2
 |n+1,R xR x,l=>match l with
  |u::r=>if wI u=JN then(wM n (P yM) r).bind λp=>wM n (R xR (XK u x p.1)) p.2 else some (x,u::r)
  | []=>some (x, [])
 |n+1,P yM,l=>(wM n (P neg) l).bind λp=>wM n (R yM p.1) p.2
 |n+1,R yM x,l=>match l with
  |u::r=>if wI u=FO then(wM n (P neg) r).bind λp=>wM n (R yM (XK u x p.1)) p.2 else some (x,u::r)
  | []=>some (x, [])
 |n+1,P neg,l=>match l with
  |u::r=>if wI u=T.xJ then(wM n (P neg) r).bind λp=>some (nd {kind:= [110,111,116]} (l1 p.1),p.2)else wM n (P basic) (u::r)
  | []=>none
 |n+1,P basic,l=>match l with
  |u::r=>if wI u=zK then(wM n (round query) r).bind λp=>some (nd {kind:= [101,120,105,115,116,115]} (l1 p.1),p.2)
   else if BJ 0 ((u::r).map wI)then wM n (round xR) (u::r)else(wM n (P expr) (u::r)).bind λp=>wM n (PT.ask p.1) p.2
  | []=>none
 |n+1,PT.ask x,l=>match l with
  |u::r=>if wI u=JM then(DZ null (GN T.xJ r).2).bind λe=>some (nd {kind:= [105,115,110,117,108,108],xJ:=(GN T.xJ r).1} (l1 x),e.2)
   else if wI u=cmp then
    (match r with
     |v::r'=>if U8 (wI v)then(wM n (round query) r').bind λp=>some (nd {kind:=v.text,sign:=u.text} (l2 x p.1),p.2)
      else(wM n (P expr) (v::r')).bind λp=>some (nd {kind:= [99,111,109,112,97,114,101],sign:=u.text} (l2 x p.1),p.2)
     | []=>none)
   else(DZ zU (GN T.xJ (u::r)).2).bind λe=>(wM n (round query) e.2).bind λp=>some (nd {kind:= [105,110],xJ:=(GN T.xJ (u::r)).1} (l2 x p.1),p.2)
  | []=>none
 |n+1,P expr,l=>(wM n (P term) l).bind λp=>wM n (R expr p.1) p.2
 |n+1,R expr x,l=>match l with
  |u::r=>if isAdd (wI u)then(wM n (P term) r).bind λp=>wM n (R expr (XK u x p.1)) p.2 else some (x,u::r)
  | []=>some (x, [])
 |n+1,P term,l=>(wM n (P yh) l).bind λp=>wM n (R term p.1) p.2
 |n+1,R term x,l=>match l with
  |u::r=>if isMul (wI u)then(wM n (P yh) r).bind λp=>wM n (R term (XK u x p.1)) p.2 else some (x,u::r)
  | []=>some (x, [])
 |n+1,P yh,l=>match l with
  |u::r=>if wI u=minus then(wM n (P yh) r).bind λp=>some (nd {kind:= [110,101,103]} (l1 p.1),p.2)
   else if wI u=null then some (nd {kind:= [110,117,108,108]} .nil,r)
   else if wI u=lit then(if u.sort=Bu then some (nd {kind:=Bu,num:=u.num} .nil,r)else some (nd {kind:=BH,text:=u.text} .nil,r))
   else if wI u=lp then wM n (round expr) (u::r)
   else if isAgg (wI u)then(DZ lp r).bind λe=>
    (match e.2 with
     |s::r2=>if wI u=count/\wI s=star then(DZ rp r2).bind λe2=>some (nd {kind:= [99,111,117,110,116],star:=true} .nil,e2.2)
      else(wM n (P expr) (s::r2)).bind λp=>(DZ rp p.2).bind λe2=>some (nd {kind:=u.text} (l1 p.1),e2.2)
     | []=>none)
   else wM n (P column) (u::r)
  | []=>none
 |_+1,R _ _,_=>none
def I4(pk:PT)(l:List RW)(q:Tr×List RW):Prop:=∃N,∀n,N<=n->wM n pk l=some q
def VS(k:NT)(t:Tr)(r':List RW)(q:Tr×List RW):Prop:=if OO k then I4 (R k t) r' q else q=(t,r')
def Oj{pk}{l:List RW}{q:Tr×List RW}(h:∀n,wM (n+1) pk l=some q):I4 pk l q:=
 ⟨1,λn hn=>by obtain⟨m,rfl⟩:∃m,n=m+1:=⟨n-1,Z⟩;exact h m⟩
def Zgg{pk k}{l:List RW}{q}(h:∀n,wM (n+1) pk l=wM n k l')(h1:I4 k l' q):I4 pk l q:=by
 exact lU
def BU{pk k1}{l:List RW}{p}{q:Tr×List RW}(g:Nat->Tr×List RW->Option (Tr×List RW))(h:∀n,wM (n+1) pk l=(wM n k1 l').bind (g n))(h1:I4 k1 l' p)(h2:∃N,∀n,N<=n->g n p=some q):I4 pk l q:=by
 obtain⟨N1,UE⟩:=h1;obtain⟨N2,JD⟩:=h2;refine⟨N1+N2+1,λn hn=>?_⟩;obtain⟨m,rfl⟩:∃m,n=m+1:=⟨n-1,Z⟩;rw[h m,UE m Z];exact JD m Z
def Vm{pk k1}{l:List RW}{p:Tr×List RW}(f:Tr×List RW->Tr×List RW)(h:∀n,wM (n+1) pk l=(wM n k1 l').bind λp=>some (f p))(h1:I4 k1 l' p):I4 pk l (f p):=
 BU (λ_ p=>some (f p)) h h1 ⟨0,λ_ _=>rfl⟩
def KI{t:T}{u:RW}(h:wI u=t)(r):DZ t (u::r)=some (u,r):=by simp[DZ,h]
def Zav{k:NT}{o c:RW}{a r:List RW}{x:Tr}(ho:wI o=lp)(hc:wI c=rp)(h:I4 (P k) (a++c::r) (x,c::r)):I4 (round k) (o::(a++ [c])++r) (x,r):=by
 refine BU (k1:=P k) (l':=a++c::r) (λ_ p=>(DZ rp p.2).bind λe2=>some (p.1,e2.2)) (λn=>?_) h ⟨0,λn _=>?_⟩
 ·rw[wM,List.cons_append,KI ho,oI];rfl
 ·simp[KI hc]
def VQ(k:NT)(r:List RW):Prop:=∀u r',r=u::r'->ext k (wI u)=false
def Zey{k}{u}{r:List RW}(h:ext k (wI u)=false):VQ k (u::r):=by
 intro v r' e;cases e;exact h
def EF{k}{u:RW}{t:T}{r:List RW}(hu:wI u=t)(h:ext k t=false):VQ k (u::r):=Zey (by rw[hu];exact h)
def VQ.mono{k k'}{r}(h:VQ k r)(he:∀t,ext k' t=true->ext k t=true):VQ k' r:=by
 intro u r' e;have:=h u r' e;cases hx:ext k' (wI u)with
 |false=>rfl
 |true=>rw[he _ hx]at this;cases this
def ZRH{k:NT}{x:Tr}{r}(hc:OO k=true)(h:VQ k r):I4 (R k x) r (x,r):=by
 cases r with
 |nil=>cases k<;>first|exact absurd hc O|exact Oj (λn=>by simp[wM])
 |cons u r=>
  have hu:=h u r rfl;generalize ht:wI u=t at hu;cases k<;>first|exact absurd hc O|(cases t<;>first|exact absurd hu O|exact Oj (λn=>by simp[wM,ht,isSet,isAdd,isMul]))
def Zr0(k:NT)(a:List RW)(t:Tr):Prop:=∀q r',VQ (base k) r'->VS k t r' q->I4 (P k) (a++r') q
def zq{k}{a r}{t}(h:Zr0 k a t)(hf:VQ k r):I4 (P k) (a++r) (t,r):=by
 refine h _ r ?_ ?_
 ·refine hf.mono ?_;cases k<;>(intro t;cases t<;>decide)
 ·unfold VS;cases hc:OO k with
  |true=>simp only[pX];exact ZRH hc hf
  |false=>simp
def Cf{k}{t}{r'}{q}(h:VS k t r' q)(hc:OO k=false):q=(t,r'):=by
 unfold VS at h;exact nz
def J9{k}{t}{r'}{q}(h:VS k t r' q)(hc:OO k=true):I4 (R k t) r' q:=by
 unfold VS at h;exact nz
def Uq{k:NT}{t:Tr}{r'}{q}(hc:OO k=true)(h:I4 (R k t) r' q):VS k t r' q:=by
 unfold VS;rw[hc];simpa using h
def ZaN(n:Nat)(p:Tr×List RW):Option (Tr×List RW):=match p.2 with
 |u::r=>if wI u=Ee then(wM n (P after) r).bind λq=>some (Dn p.1.kids q.1.xB q.1.Tv q.1.D8,q.2)
  else if wI u=group then(DZ FT r).bind λe=>(wM n (P Dj) e.2).bind λq=>some (Dn p.1.kids q.1.xB q.1.Tv q.1.D8,q.2)
  else some (Dn p.1.kids .nil .nil .nil,u::r)
 | []=>some (Dn p.1.kids .nil .nil .nil, [])
def ZpK(n)(l):wM (n+1) (P tail) l=(wM n (P sources) l).bind (ZaN n):=by rw[wM];rfl
def Zd9(n:Nat)(p:Tr×List RW):Option (Tr×List RW):=match p.2 with
 |u::r=>if wI u=group then(DZ FT r).bind λe=>(wM n (P Dj) e.2).bind λq=>some (Dn q.1.Y6 q.1.xB p.1 q.1.D8,q.2)
  else some (Dn .nil .nil p.1 .nil,u::r)
 | []=>some (Dn .nil .nil p.1 .nil, [])
def Zzu(n)(l):wM (n+1) (P after) l=(wM n (P xR) l).bind (Zd9 n):=by rw[wM];rfl
def ZeC(n:Nat)(p:Tr×List RW):Option (Tr×List RW):=match p.2 with
 |u::r=>if wI u=Fj then(wM n (P xR) r).bind λq=>some (Dn .nil p.1.kids .nil q.1,q.2)
  else some (Dn .nil p.1.kids .nil .nil,u::r)
 | []=>some (Dn .nil p.1.kids .nil .nil, [])
def Zzv(n)(l):wM (n+1) (P Dj) l=(wM n (P yw) l).bind (ZeC n):=by rw[wM];rfl
def Zl0(t:Tr):vS:=match t with| .node f _ _ _ _ _ _=>f.xZ|_=> []
def Zf9(n:Nat)(p:Tr×List RW):Option (Tr×List RW):=(wM n PT.alias p.2).bind λq=>some (nd {kind:= [105,116,101,109],xZ:=Zl0 q.1} (l1 p.1),q.2)
def Zzw(n)(l):wM (n+1) (P NT.item) l=(wM n (P expr) l).bind (Zf9 n):=by rw[wM];rfl
def ZM{k}{b}{t}(h:D k b t):∃v b',b=v::b'/\first k (wI v)=true:=by
 obtain⟨t,r,e,hf⟩:=Sl h.g;cases b with
 |nil=>cases e
 |cons v b'=>
  rw[oq]at e;exact⟨v,b',rfl,by rw[(rE e).1];exact hf⟩
def Zup{t:T}(h:isSet t=true):ext core t=false:=by cases t<;>first|exact absurd h O|rfl
def ZHK{t:T}(h:isAdd t=true):ext term t=false:=by cases t<;>first|exact absurd h O|rfl
def ZHL{t:T}(h:isMul t=true):ext yh t=false:=by cases t<;>first|exact absurd h O|rfl
def ZSF{t:T}{v:RW}{r:List RW}(h:wI v≠t):GN t (v::r)=(false,v::r):=by simp[GN,h]
def ZSG{t:T}{v:RW}{r:List RW}(h:wI v=t):GN t (v::r)=(true,r):=by simp[GN,h]
def Zsf{r:List RW}(h:∀u r',r=u::r'->wI u≠T.xZ):I4 PT.alias r (nd {} .nil,r):=by
 cases r with
 |nil=>exact Oj (λn=>by simp[wM])
 |cons u r=>have:=h u r rfl;exact Oj (λn=>by simp[wM,this])
def Zse{u v:RW}{r:List RW}(hu:wI u=T.xZ)(hv:wI v=name):I4 PT.alias (u::v::r) (nd {xZ:=v.text} .nil,r):=Oj (λn=>by simp[wM,hu,KI hv])
def Zby{a}{x}(h:D expr a x)(n)(s):wM (n+1) (P basic) (a++s)=(wM n (P expr) (a++s)).bind λp=>wM n (PT.ask p.1) p.2:=by
 have ho:BJ 0 ((a++s).map wI)=false:=by rw[oo];exact ZyU h.g rfl _
 obtain⟨v,b,rfl,hf⟩:=ZM h;rw[List.cons_append]at ho ⊢;rw[wM];have he:wI v≠zK:=λe=>by rw[e]at hf;exact absurd hf O
 rw[nU he,nU (by rw[ho];simp)]
def ZRV{k}{a}{t}(h:D k a t):Zr0 k a t:=by
 induction h with
 |XQ _ ih=>
  intro q r' hf hg;exact BU (λn p=>wM n (R query p.1) p.2) (λn=>aY) (zq ih hf) (J9 hg rfl)
 |Vb _ ih=>
  intro q r' hf hg;exact BU (λn p=>wM n (R xR p.1) p.2) (λn=>aY) (zq ih hf) (J9 hg rfl)
 |Va _ ih=>
  intro q r' hf hg;exact BU (λn p=>wM n (R yM p.1) p.2) (λn=>aY) (zq ih hf) (J9 hg rfl)
 |Sb _ ih=>
  intro q r' hf hg;exact BU (λn p=>wM n (R expr p.1) p.2) (λn=>aY) (zq ih hf) (J9 hg rfl)
 |Ta _ ih=>
  intro q r' hf hg;exact BU (λn p=>wM n (R term p.1) p.2) (λn=>aY) (zq ih hf) (J9 hg rfl)
 |Xx _ ih=>
  intro q r' hf hg;exact BU (λn p=>wM n (R items (PH (l1 p.1))) p.2) (λn=>aY) (zq ih hf) (J9 hg rfl)
 |XY _ ih=>
  intro q r' hf hg;exact BU (λn p=>wM n (R sources (PH (l1 p.1))) p.2) (λn=>aY) (zq ih hf) (J9 hg rfl)
 |Wx _ ih=>
  intro q r' hf hg;exact BU (λn p=>wM n (R yw (PH (l1 p.1))) p.2) (λn=>aY) (zq ih hf) (J9 hg rfl)
 |XR hu _ hb xO yf=>
  intro q r' hf hg;rename_i a b u x y _;obtain⟨v,b',rfl,hv⟩:=ZM hb;rw[oI];have hs:GN Ak (v::b'++r')=(false,v::b'++r'):=ZSF (λe=>by rw[e]at hv;exact absurd hv O);refine xO q _ (Zey (Zup hu)) (Uq rfl (BU (k1:=P core) (l':=v::b'++r') (λn p=>wM n (R query (nd {kind:=u.text} (l2 x p.1))) p.2) (λn=>?_) (zq yf hf) (J9 hg rfl)));rw[List.cons_append,wM,hu,nY rfl,hs]
 |XT hu hv _ hb xO yf=>
  intro q r' hf hg;rename_i a b u v x y _;rw[oI];refine xO q _ (Zey (Zup hu)) (Uq rfl (BU (k1:=P core) (l':=b++r') (λn p=>wM n (R query (nd {kind:=u.text,all:=true} (l2 x p.1))) p.2) (λn=>?_) (zq yf hf) (J9 hg rfl)));rw[List.cons_append,List.cons_append,wM,hu,nY rfl,ZSG hv]
 |Xw hu _ _ xO yf=>
  intro q r' hf hg;rename_i a b u x y _ _;rw[oI];exact xO q _ (EF hu rfl) (Uq rfl (BU (k1:=P NT.item) (l':=b++r') (λn p=>wM n (R items (PH (x.kids.snoc p.1))) p.2) (λn=>aZ) (zq yf hf) (J9 hg rfl)))
 |XX hu _ _ xO yf=>
  intro q r' hf hg;rename_i a b u x y _ _;rw[oI];exact xO q _ (EF hu rfl) (Uq rfl (BU (k1:=P source) (l':=b++r') (λn p=>wM n (R sources (PH (x.kids.snoc p.1))) p.2) (λn=>aZ) (zq yf hf) (J9 hg rfl)))
 |Ww hu _ _ xO yf=>
  intro q r' hf hg;rename_i a b u x y _ _;rw[oI];exact xO q _ (EF hu rfl) (Uq rfl (BU (k1:=P column) (l':=b++r') (λn p=>wM n (R yw (PH (x.kids.snoc p.1))) p.2) (λn=>aZ) (zq yf hf) (J9 hg rfl)))
 |Vd hu _ _ xO yf=>
  intro q r' hf hg;rename_i a b u x y _ _;rw[oI];exact xO q _ (EF hu rfl) (Uq rfl (BU (k1:=P yM) (l':=b++r') (λn p=>wM n (R xR (XK u x p.1)) p.2) (λn=>aZ) (zq yf hf) (J9 hg rfl)))
 |U9 hu _ _ xO yf=>
  intro q r' hf hg;rename_i a b u x y _ _;rw[oI];exact xO q _ (EF hu rfl) (Uq rfl (BU (k1:=P neg) (l':=b++r') (λn p=>wM n (R yM (XK u x p.1)) p.2) (λn=>aZ) (zq yf hf) (J9 hg rfl)))
 |Sa hu _ _ xO yf=>
  intro q r' hf hg;rename_i a b u x y _ _;rw[oI];exact xO q _ (Zey (ZHK hu)) (Uq rfl (BU (k1:=P term) (l':=b++r') (λn p=>wM n (R expr (XK u x p.1)) p.2) (λn=>gP) (zq yf hf) (J9 hg rfl)))
 |Tc hu _ _ xO yf=>
  intro q r' hf hg;rename_i a b u x y _ _;rw[oI];exact xO q _ (Zey (ZHL hu)) (Uq rfl (BU (k1:=P yh) (l':=b++r') (λn p=>wM n (R term (XK u x p.1)) p.2) (λn=>gP) (zq yf hf) (J9 hg rfl)))
 |Wy ho hc _ ih=>
  intro q r' hf hg;obtain rfl:=Cf hg rfl;exact Zgg (k:=round query) (λn=>by rw[List.cons_append,wM,nY ho]) (Zav ho hc (zq ih (EF hc rfl)))
 |WB hs hr Ci _ ih=>
  intro q r' hf hg;obtain rfl:=Cf hg rfl;exact Vm (λp=>(Ma true false .nil p.1,p.2)) (λn=>by simp[wM,hs,hr,GN,DZ,Ci]) (zq ih (hf.mono az))
 |WC hs hd hr Ci _ ih=>
  intro q r' hf hg;obtain rfl:=Cf hg rfl;exact Vm (λp=>(Ma true true .nil p.1,p.2)) (λn=>by simp[wM,hs,hd,hr,GN,DZ,Ci]) (zq ih (hf.mono az))
 |Wz hs Ci hl _ xO yf=>
  intro q r' hf hg;obtain rfl:=Cf hg rfl;rename_i s l f t x y _;obtain⟨v,b',rfl,hv⟩:=ZM hl;have h1:I4 (P items) (v::b'++f::(t++r')) (y,f::(t++r')):=zq xO (EF Ci rfl);obtain⟨N,hN⟩:=zq yf (r:=r') (hf.mono az);refine BU (k1:=P items) (l':=v::b'++f::(t++r')) (λn q=>(DZ BN q.2).bind λe=>(wM n (P tail) e.2).bind λp=>some (Ma false false q.1.kids p.1,p.2)) (λn=>?_) h1 ⟨N,λn hn=>by simp[KI Ci,hN n hn]⟩;have n1:wI v≠BB:=λe=>by rw[e]at hv;exact absurd hv O
  have n2:wI v≠star:=λe=>by rw[e]at hv;exact absurd hv O
  simp[wM,hs,GN,n1,n2]
 |WA hs hd Ci hl _ xO yf=>
  intro q r' hf hg;obtain rfl:=Cf hg rfl;rename_i s d l f t x y _;obtain⟨v,b',rfl,hv⟩:=ZM hl;have h1:I4 (P items) (v::b'++f::(t++r')) (y,f::(t++r')):=zq xO (EF Ci rfl);obtain⟨N,hN⟩:=zq yf (r:=r') (hf.mono az);refine BU (k1:=P items) (l':=v::b'++f::(t++r')) (λn q=>(DZ BN q.2).bind λe=>(wM n (P tail) e.2).bind λp=>some (Ma false true q.1.kids p.1,p.2)) (λn=>?_) h1 ⟨N,λn hn=>by simp[KI Ci,hN n hn]⟩;have n2:wI v≠star:=λe=>by rw[e]at hv;exact absurd hv O
  simp[wM,hs,hd,GN,n2]
 |X8 _ ih=>
  intro q r' hf hg;obtain rfl:=Cf hg rfl;refine BU ZaN (λn=>ZpK n _) (zq ih (hf.mono az)) ⟨0,λn _=>?_⟩;cases r' with
  |nil=>rfl
  |cons u r=>
   have:=hf u r rfl;have n1:wI u≠Ee:=λe=>by rw[e]at this;exact absurd this O
   have n2:wI u≠group:=λe=>by rw[e]at this;exact absurd this O
   simp[ZaN,n1,n2]
 |VG hu _ _ xO yf=>
  intro q r' hf hg;obtain rfl:=Cf hg rfl;rename_i a b u x y _ _;rw[oI];obtain⟨N,hN⟩:=zq yf (r:=r') (hf.mono az);exact BU (p:=(x,u::(b++r'))) ZaN (λn=>ZpK n _) (zq xO (EF hu rfl)) ⟨N,λn hn=>by simp[ZaN,hu,hN n hn]⟩
 |X7 hu hv _ _ xO yf=>
  intro q r' hf hg;obtain rfl:=Cf hg rfl;rename_i a b u v x y _ _;rw[oI];obtain⟨N,hN⟩:=zq yf (r:=r') (hf.mono az);exact BU (p:=(x,u::v::(b++r'))) ZaN (λn=>ZpK n _) (zq xO (EF hu rfl)) ⟨N,λn hn=>by simp[ZaN,hu,KI hv,hN n hn]⟩
 |Wo _ ih=>
  intro q r' hf hg;obtain rfl:=Cf hg rfl;refine BU Zd9 (λn=>Zzu n _) (zq ih (hf.mono az)) ⟨0,λn _=>?_⟩;cases r' with
  |nil=>rfl
  |cons u r=>
   have:=hf u r rfl;have n2:wI u≠group:=λe=>by rw[e]at this;exact absurd this O
   simp[Zd9,n2]
 |Wq hu hv _ _ xO yf=>
  intro q r' hf hg;obtain rfl:=Cf hg rfl;rename_i a b u v x y _ _;rw[oI];obtain⟨N,hN⟩:=zq yf (r:=r') (hf.mono az);exact BU (p:=(x,u::v::(b++r'))) Zd9 (λn=>Zzu n _) (zq xO (EF hu rfl)) ⟨N,λn hn=>by simp[Zd9,hu,KI hv,hN n hn]⟩
 |WN _ ih=>
  intro q r' hf hg;obtain rfl:=Cf hg rfl;refine BU ZeC (λn=>Zzv n _) (zq ih (hf.mono az)) ⟨0,λn _=>?_⟩;cases r' with
  |nil=>rfl
  |cons u r=>
   have:=hf u r rfl;have n2:wI u≠Fj:=λe=>by rw[e]at this;exact absurd this O
   simp[ZeC,n2]
 |WO hu _ _ xO yf=>
  intro q r' hf hg;obtain rfl:=Cf hg rfl;rename_i a b u x y _ _;rw[oI];obtain⟨N,hN⟩:=zq yf (r:=r') (hf.mono az);exact BU (p:=(x,u::(b++r'))) ZeC (λn=>Zzv n _) (zq xO (EF hu rfl)) ⟨N,λn hn=>by simp[ZeC,hu,hN n hn]⟩
 |item _ ih=>
  intro q r' hf hg;obtain rfl:=Cf hg rfl;obtain⟨N,hN⟩:=Zsf (r:=r') (λu r e=>gQ);exact BU Zf9 (λn=>Zzw n _) (zq ih (hf.mono az)) ⟨N,λn hn=>by simp[Zf9,hN n hn,Zl0,nd]⟩
 |XA hu hv _ ih=>
  intro q r' hf hg;obtain rfl:=Cf hg rfl;rename_i a u v x _;rw[oI];obtain⟨N,hN⟩:=Zse (r:=r') hu hv;exact BU (p:=(x,u::v::r')) Zf9 (λn=>Zzw n _) (zq ih (EF hu rfl)) ⟨N,λn hn=>by simp[Zf9,hN n hn,Zl0,nd]⟩
 |src hu=>
  intro q r' hf hg;obtain rfl:=Cf hg rfl;obtain⟨N,hN⟩:=Zsf (r:=r') (λu r e=>gQ);refine⟨N+1,λn hn=>?_⟩;obtain⟨m,rfl⟩:∃m,n=m+1:=⟨n-1,Z⟩;rw[List.cons_append,List.nil_append,wM,KI hu];simp[hN m Z,nd]
 |X5 hu hv hw=>
  intro q r' hf hg;obtain rfl:=Cf hg rfl;obtain⟨N,hN⟩:=Zse (r:=r') hv hw;refine⟨N+1,λn hn=>?_⟩;obtain⟨m,rfl⟩:∃m,n=m+1:=⟨n-1,Z⟩;rw[List.cons_append,List.cons_append,List.cons_append,List.nil_append,wM,KI hu];simp[hN m Z,nd]
 |zO hu=>
  intro q r' hf hg;obtain rfl:=Cf hg rfl;refine Oj (λn=>?_);rw[List.cons_append,List.nil_append,wM,KI hu];cases r' with
  |nil=>rfl
  |cons v r=>
   have:=hf v r rfl;have n2:wI v≠dot:=λe=>by rw[e]at this;exact absurd this O
   simp[n2]
 |R9 hu hv hw=>
  intro q r' hf hg;obtain rfl:=Cf hg rfl;refine Oj (λn=>?_);simp[wM,KI hu,hv,KI hw]
 |Vh hu _ ih=>
  intro q r' hf hg;obtain rfl:=Cf hg rfl;exact Vm (λp=>(nd {kind:= [110,111,116]} (l1 p.1),p.2)) (λn=>aZ) (zq ih hf)
 |Vg hb ih=>
  intro q r' hf hg;obtain rfl:=Cf hg rfl;have hn:=ZsX hb.g;obtain⟨v,b',rfl,hv⟩:=ZM hb;refine Zgg (k:=P basic) (λn=>?_) (zq ih (hf.mono az));have n1:wI v≠T.xJ:=λe=>hn (b'.map wI) (by rw[oq,e]);rw[List.cons_append,wM,nU n1]
 |RX hu ho hc _ ih=>
  intro q r' hf hg;obtain rfl:=Cf hg rfl;exact Vm (λp=>(nd {kind:= [101,120,105,115,116,115]} (l1 p.1),p.2)) (λn=>aZ) (Zav ho hc (zq ih (EF hc rfl)))
 |R5 ho hc h ih=>
  intro q r' hf hg;obtain rfl:=Cf hg rfl;rename_i a o c x;refine Zgg (k:=round xR) (λn=>?_) (Zav ho hc (zq ih (EF hc rfl)));have Pg:BJ 0 ((o::(a++ [c])++r').map wI)=true:=by
   rw[List.cons_append,oq,ho,FB 0 lp _ O rfl,oI,oo];exact ZBl h.g rfl _ _ O
  rw[List.cons_append]at Pg ⊢;rw[wM,nU (by rw[ho];decide),nY Pg]
 |R4 hu hv h xO=>
  intro q r' hf hg;obtain rfl:=Cf hg rfl;rw[oI];exact BU (λn p=>wM n (PT.ask p.1) p.2) (λn=>Zby h n _) (zq xO (EF hu rfl)) (Oj (λn=>by simp[wM,hu,GN,hv,DZ]))
 |R3 hu hn hv h xO=>
  intro q r' hf hg;obtain rfl:=Cf hg rfl;rw[oI];exact BU (λn p=>wM n (PT.ask p.1) p.2) (λn=>Zby h n _) (zq xO (EF hu rfl)) (Oj (λn=>by simp[wM,hu,hn,GN,hv,DZ]))
 |RY hu ho hc h _ xO yf=>
  intro q r' hf hg;obtain rfl:=Cf hg rfl;rename_i a qq u o c x y _;rw[oI];exact BU (λn p=>wM n (PT.ask p.1) p.2) (λn=>Zby h n _) (zq xO (EF hu rfl)) (Vm (k1:=round query) (l':=o::(qq++ [c])++r') (λp=>(nd {kind:= [105,110]} (l2 x p.1),p.2)) (λn=>by simp[wM,hu,GN,DZ]) (Zav ho hc (zq yf (EF hc rfl))))
 |RZ hn hu ho hc h _ xO yf=>
  intro q r' hf hg;obtain rfl:=Cf hg rfl;rename_i a qq n0 u o c x y _;rw[oI];exact BU (λn p=>wM n (PT.ask p.1) p.2) (λn=>Zby h n _) (zq xO (EF hn rfl)) (Vm (k1:=round query) (l':=o::(qq++ [c])++r') (λp=>(nd {kind:= [105,110],xJ:=true} (l2 x p.1),p.2)) (λn=>by simp[wM,hn,hu,GN,DZ]) (Zav ho hc (zq yf (EF hc rfl))))
 |Qf hu hh ho hc h _ xO yf=>
  intro q r' hf hg;obtain rfl:=Cf hg rfl;rename_i a qq u v o c x y _;rw[oI];exact BU (λn p=>wM n (PT.ask p.1) p.2) (λn=>Zby h n _) (zq xO (EF hu rfl)) (Vm (k1:=round query) (l':=o::(qq++ [c])++r') (λp=>(nd {kind:=v.text,sign:=u.text} (l2 x p.1),p.2)) (λn=>by simp[wM,hu,hh]) (Zav ho hc (zq yf (EF hc rfl))))
 |RV hu h hb xO yf=>
  intro q r' hf hg;obtain rfl:=Cf hg rfl;rename_i a b u x y;obtain⟨v,b',rfl,hv⟩:=ZM hb;have nh:U8 (wI v)=false:=by generalize wI v=t at hv;cases t<;>first|rfl|exact absurd hv O
  rw[oI];exact BU (λn p=>wM n (PT.ask p.1) p.2) (λn=>Zby h n _) (zq xO (EF hu rfl)) (Vm (k1:=P expr) (l':=v::b'++r') (λp=>(nd {kind:= [99,111,109,112,97,114,101],sign:=u.text} (l2 x p.1),p.2)) (λn=>by simp[wM,hu,nh]) (zq yf (hf.mono az)))
 |Sd hu _ ih=>
  intro q r' hf hg;obtain rfl:=Cf hg rfl;exact Vm (λp=>(nd {kind:= [110,101,103]} (l1 p.1),p.2)) (λn=>aZ) (zq ih hf)
 |ZmE hu hs=>
  intro q r' hf hg;obtain rfl:=Cf hg rfl;exact Oj (λn=>by simp[wM,hu,hs])
 |ZmF hu hs=>
  intro q r' hf hg;obtain rfl:=Cf hg rfl;exact Oj (λn=>by simp[wM,hu,hs,Bu,BH])
 |Si hu=>
  intro q r' hf hg;obtain rfl:=Cf hg rfl;exact Oj (λn=>by simp[wM,hu])
 |Sk hu ho hs hc=>
  intro q r' hf hg;obtain rfl:=Cf hg rfl;exact Oj (λn=>by simp[wM,hu,isAgg,KI ho,hs,KI hc])
 |Qi hu ho hc he ih=>
  intro q r' hf hg;obtain rfl:=Cf hg rfl;rename_i a u o c x;obtain⟨v,b',rfl,hv⟩:=ZM he;have n2:wI v≠star:=λe=>by rw[e]at hv;exact absurd hv O
  refine BU (k1:=P expr) (l':=v::b'++c::r') (p:=(x,c::r')) (λ_ p=>(DZ rp p.2).bind λe2=>some (nd {kind:=u.text} (l1 p.1),e2.2)) (λn=>?_) (zq ih (EF hc rfl)) ⟨0,λn _=>by simp[KI hc]⟩;have hu2:=hu;generalize ht:wI u=t at hu2;cases t<;>first|exact absurd hu2 O|simp[wM,ht,isAgg,KI ho,n2]
 |Sj ho hc _ ih=>
  intro q r' hf hg;obtain rfl:=Cf hg rfl;exact Zgg (k:=round expr) (λn=>by simp[wM,ho]) (Zav ho hc (zq ih (EF hc rfl)))
 |Sc hc ih=>
  intro q r' hf hg;obtain rfl:=Cf hg rfl;refine Zgg (k:=P column) (λn=>?_) (zq ih hf);cases hc<;>simp[wM,isAgg, *]
end Go.Proofs.YtncnkiabjhhclaaGreatDoor
