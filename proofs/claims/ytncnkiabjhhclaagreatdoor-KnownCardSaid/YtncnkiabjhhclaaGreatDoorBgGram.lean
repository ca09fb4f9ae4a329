import Derived.Test.YtncnkiabjhhclaaGreatDoorBgAb
set_option maxRecDepth 100000
set_option maxHeartbeats 8000000
set_option linter.all false
namespace Go.Proofs.YtncnkiabjhhclaaGreatDoor
inductive T
 |yO|BB|BN|Ee|group|FT|Fj|xZ|union|inter|exc|Ak|Zed|FO|JN|xJ|zK|zU|JM|null|count|agg
 |lp|rp|CB|dot|star|plus|minus|ZAh|pct|cmp|name|lit
 deriving DecidableEq
inductive NT
 |query|core|tail|after|Dj|items|item|sources|source|yw|column|xR|yM|neg|basic|expr|term|yh
 deriving DecidableEq
open T NT
def isSet(t:T):Bool:=t==union||t==inter||t==exc
def isAdd(t:T):Bool:=t==plus||t==minus
def isMul(t:T):Bool:=t==star||t==ZAh||t==pct
def isAgg(t:T):Bool:=t==count||t==agg
def U8(t:T):Bool:=t==Zed||t==Ak
inductive G:NT->List T->Prop
 |XQ {a}:G core a->G query a
 |XR {a b u}:isSet u=true->G query a->G core b->G query (a++u::b)
 |XT {a b u}:isSet u=true->G query a->G core b->G query (a++u::Ak::b)
 |Wy {a}:G query a->G core (lp::(a++ [rp]))
 |WB {t}:G tail t->G core (yO::star::BN::t)
 |WC {t}:G tail t->G core (yO::BB::star::BN::t)
 |Wz {l t}:G items l->G tail t->G core (yO::(l++BN::t))
 |WA {l t}:G items l->G tail t->G core (yO::BB::(l++BN::t))
 |X8 {a}:G sources a->G tail a
 |VG {a b}:G sources a->G after b->G tail (a++Ee::b)
 |X7 {a b}:G sources a->G Dj b->G tail (a++group::FT::b)
 |Wo {a}:G xR a->G after a
 |Wq {a b}:G xR a->G Dj b->G after (a++group::FT::b)
 |WN {a}:G yw a->G Dj a
 |WO {a b}:G yw a->G xR b->G Dj (a++Fj::b)
 |Xx {a}:G item a->G items a
 |Xw {a b}:G items a->G item b->G items (a++CB::b)
 |item {a}:G expr a->G item a
 |XA {a}:G expr a->G item (a++ [xZ,name])
 |XY {a}:G source a->G sources a
 |XX {a b}:G sources a->G source b->G sources (a++CB::b)
 |src:G source [name]
 |X5:G source [name,xZ,name]
 |Wx {a}:G column a->G yw a
 |Ww {a b}:G yw a->G column b->G yw (a++CB::b)
 |zO:G column [name]
 |R9:G column [name,dot,name]
 |Vb {a}:G yM a->G xR a
 |Vd {a b}:G xR a->G yM b->G xR (a++JN::b)
 |Va {a}:G neg a->G yM a
 |U9 {a b}:G yM a->G neg b->G yM (a++FO::b)
 |Vh {a}:G neg a->G neg (xJ::a)
 |Vg {a}:G basic a->G neg a
 |RX {a}:G query a->G basic (zK::lp::(a++ [rp]))
 |R5 {a}:G xR a->G basic (lp::(a++ [rp]))
 |R4 {a}:G expr a->G basic (a++ [JM,null])
 |R3 {a}:G expr a->G basic (a++ [JM,xJ,null])
 |RY {a q}:G expr a->G query q->G basic (a++zU::lp::(q++ [rp]))
 |RZ {a q}:G expr a->G query q->G basic (a++xJ::zU::lp::(q++ [rp]))
 |Qf {a q h}:U8 h=true->G expr a->G query q->G basic (a++cmp::h::lp::(q++ [rp]))
 |RV {a b}:G expr a->G expr b->G basic (a++cmp::b)
 |Sb {a}:G term a->G expr a
 |Sa {a b u}:isAdd u=true->G expr a->G term b->G expr (a++u::b)
 |Ta {a}:G yh a->G term a
 |Tc {a b u}:isMul u=true->G term a->G yh b->G term (a++u::b)
 |Sd {a}:G yh a->G yh (minus::a)
 |Y4:G yh [lit]
 |Si:G yh [null]
 |Sk:G yh [count,lp,star,rp]
 |Qi {a u}:isAgg u=true->G expr a->G yh (u::lp::(a++ [rp]))
 |Sj {a}:G expr a->G yh (lp::(a++ [rp]))
 |Sc {a}:G column a->G yh a
def xU(t:T):List T->Option (List T)
 |u::r=>if u=t then some r else none
 | []=>none
def skip(t:T):List T->List T
 |u::r=>if u=t then r else u::r
 | []=> []
def Zqm(t)(l):l=t::skip t l\/(skip t l=l/\∀r,l≠t::r):=by
 cases l with
 |nil=>exact .inr ⟨rfl,λr h=>aS⟩
 |cons u r=>
  by_cases e:u=t
  ·left;simp[skip,e]
  ·right;refine⟨by simp[skip,e],λr' h=>?_⟩;exact e (rE h).1
def opened:T->Int
 |lp=>1
 |rp=> -1
 |_=>0
def marks(t:T):Bool:=t==cmp||t==JM||t==zU||t==zK
def BJ:Int->List T->Bool
 |_, []=>false
 |o,t::r=>if o+opened t<=0 then false else if marks t then true else BJ (o+opened t) r
inductive PK|P (k:NT)|R (k:NT)|ask|round (k:NT)|alias
open PK
def parse:Nat->PK->List T->Option (List T)
 |0,_,_=>none
 |n+1,P query,l=>(parse n (P core) l).bind (parse n (R query))
 |n+1,R query,l=>match l with
  |u::r=>if isSet u then(parse n (P core) (skip Ak r)).bind (parse n (R query))else some l
  | []=>some []
 |n+1,P core,l=>match l with
  |lp::_=>parse n (round query) l
  |yO::r=>(match skip BB r with
    |star::r'=>some r'
    |r'=>parse n (P items) r').bind λr1=>(xU BN r1).bind (parse n (P tail))
  |_=>none
 |n+1,round k,l=>(xU lp l).bind λr=>(parse n (P k) r).bind (xU rp)
 |n+1,P tail,l=>(parse n (P sources) l).bind λr=>match r with
  |Ee::r'=>parse n (P after) r'
  |group::r'=>(xU FT r').bind (parse n (P Dj))
  |r=>some r
 |n+1,P after,l=>(parse n (P xR) l).bind λr=>match r with
  |group::r'=>(xU FT r').bind (parse n (P Dj))
  |r=>some r
 |n+1,P Dj,l=>(parse n (P yw) l).bind λr=>match r with
  |Fj::r'=>parse n (P xR) r'
  |r=>some r
 |n+1,P items,l=>(parse n (P NT.item) l).bind (parse n (R items))
 |n+1,R items,l=>match l with
  |CB::r=>(parse n (P NT.item) r).bind (parse n (R items))
  |r=>some r
 |n+1,P NT.item,l=>(parse n (P expr) l).bind (parse n PK.alias)
 |_+1,PK.alias,l=>match l with
  |xZ::r=>xU name r
  |r=>some r
 |n+1,P sources,l=>(parse n (P source) l).bind (parse n (R sources))
 |n+1,R sources,l=>match l with
  |CB::r=>(parse n (P source) r).bind (parse n (R sources))
  |r=>some r
 |n+1,P source,l=>(xU name l).bind (parse n PK.alias)
 |n+1,P yw,l=>(parse n (P column) l).bind (parse n (R yw))
 |n+1,R yw,l=>match l with
  |CB::r=>(parse n (P column) r).bind (parse n (R yw))
  |r=>some r
 |_+1,P column,l=>(xU name l).bind λr=>match r with
  |dot::r'=>xU name r'
  |r=>some r
 |n+1,P xR,l=>(parse n (P yM) l).bind (parse n (R xR))
 |n+1,R xR,l=>match l with
  |JN::r=>(parse n (P yM) r).bind (parse n (R xR))
  |r=>some r
 |n+1,P yM,l=>(parse n (P neg) l).bind (parse n (R yM))
 |n+1,R yM,l=>match l with
  |FO::r=>(parse n (P neg) r).bind (parse n (R yM))
  |r=>some r
 |n+1,P neg,l=>match l with
  |xJ::r=>parse n (P neg) r
  |r=>parse n (P basic) r
 |n+1,P basic,l=>match l with
  |zK::r=>parse n (round query) r
  |l=>if BJ 0 l then parse n (round xR) l else(parse n (P expr) l).bind (parse n ask)
 |n+1,ask,l=>match l with
  |JM::xJ::r=>xU null r
  |JM::r=>xU null r
  |cmp::r=>(match r with
   |Zed::r'=>parse n (round query) r'
   |Ak::r'=>parse n (round query) r'
   |r=>parse n (P expr) r)
  |xJ::r=>(xU zU r).bind (parse n (round query))
  |r=>(xU zU r).bind (parse n (round query))
 |n+1,P expr,l=>(parse n (P term) l).bind (parse n (R expr))
 |n+1,R expr,l=>match l with
  |u::r=>if isAdd u then(parse n (P term) r).bind (parse n (R expr))else some l
  | []=>some []
 |n+1,P term,l=>(parse n (P yh) l).bind (parse n (R term))
 |n+1,R term,l=>match l with
  |u::r=>if isMul u then(parse n (P yh) r).bind (parse n (R term))else some l
  | []=>some []
 |n+1,P yh,l=>match l with
  |minus::r=>parse n (P yh) r
  |null::r=>some r
  |lit::r=>some r
  |lp::_=>parse n (round expr) l
  |count::r=>(xU lp r).bind λr'=>(match r' with|star::r2=>some r2|r2=>parse n (P expr) r2).bind (xU rp)
  |agg::r=>parse n (round expr) r
  |r=>parse n (P column) r
 |_+1,R _,_=>none
def ZlT:PK->List T->Prop
 |P k,a=>G k a
 |R k,a=>∀b,G k b->G k (b++a)
 |ask,a=>∀e,G expr e->G basic (e++a)
 |round k,a=>∃b,a=lp::(b++ [rp])/\G k b
 |PK.alias,a=>a= []\/a= [xZ,name]
def J8{t}{l r:List T}(h:xU t l=some r):l=t::r:=by
 cases l with
 |nil=>cases h
 |cons u l=>
  by_cases e:u=t
  ·simp[xU,e]at h;rw[e,h]
  ·simp[xU,e]at h
def Zh5(t)(r):xU t (t::r)=some r:=by simp[xU]
def bind_some{α β:Type}{o:Option α}{f:α->Option β}{r:β}(h:o.bind f=some r):∃x,o=some x/\f x=some r:=by
 cases o with
 |none=>cases h
 |some x=>exact⟨x,rfl,h⟩
def ZAO(n):∀pk l r,parse n pk l=some r->∃a,l=a++r/\ZlT pk a:=by
 induction n with
 |zero=>intro pk l r h;cases h
 |succ n ih=>
  intro pk l r h;have chain:∀(k1 k2:PK) (l r:List T),(parse n k1 l).bind (parse n k2)=some r->∃a b,l=a++(b++r)/\ZlT k1 a/\ZlT k2 b:=by
   intro k1 k2 l r h;obtain⟨x,h1,h2⟩:=bind_some h;obtain⟨a,rfl,ha⟩:=ih _ _ _ h1;obtain⟨b,rfl,hb⟩:=ih _ _ _ h2;exact⟨a,b,rfl,ha,hb⟩
  cases pk with
  |P k=>
   cases k with
   |query=>
    simp only[parse]at h;obtain⟨a,b,rfl,ha,hb⟩:=chain _ _ _ _ h;exact⟨a++b,ae,hb a (.XQ ha)⟩
   |core=>
    simp only[parse]at h;split at h
    ·obtain⟨a,e,b,rfl,hb⟩:=ih _ _ _ h;exact⟨_,e,.Wy hb⟩
    ·rename_i l0 r0;obtain⟨x,h1,h2⟩:=bind_some h;obtain⟨y,h3,h4⟩:=bind_some h2;obtain⟨t,rfl,ht⟩:=ih _ _ _ h4;have ex:=J8 h3;subst ex;have key:∃a,skip BB r0=a++BN::(t++r)/\(a= [star]\/G items a):=by
      split at h1
      ·rename_i r' e;cases h1;exact⟨[star],e,.inl rfl⟩
      ·rename_i e;obtain⟨a,e1,ha⟩:=ih _ _ _ h1;exact⟨a,e1,.inr ha⟩
     obtain⟨a,ea,ha⟩:=key;rcases Zqm BB r0 with e|⟨e,_⟩
     ·rw[e,ea];rcases ha with rfl|ha
      ·exact⟨yO::BB::star::BN::t,ae,.WC ht⟩
      ·exact⟨yO::BB::(a++BN::t),ae,.WA ha ht⟩
     ·rw[e]at ea;rw[ea];rcases ha with rfl|ha
      ·exact⟨yO::star::BN::t,ae,.WB ht⟩
      ·exact⟨yO::(a++BN::t),ae,.Wz ha ht⟩
    ·cases h
   |tail=>
    simp only[parse]at h;obtain⟨x,h1,h2⟩:=bind_some h;obtain⟨a,rfl,ha⟩:=ih _ _ _ h1;split at h2
    ·obtain⟨b,rfl,hb⟩:=ih _ _ _ h2;exact⟨a++Ee::b,ae,.VG ha hb⟩
    ·obtain⟨y,h3,h4⟩:=bind_some h2;obtain⟨b,rfl,hb⟩:=ih _ _ _ h4;rw[J8 h3];exact⟨a++group::FT::b,ae,.X7 ha hb⟩
    ·cases h2;exact⟨a,rfl,.X8 ha⟩
   |after=>
    simp only[parse]at h;obtain⟨x,h1,h2⟩:=bind_some h;obtain⟨a,rfl,ha⟩:=ih _ _ _ h1;split at h2
    ·obtain⟨y,h3,h4⟩:=bind_some h2;obtain⟨b,rfl,hb⟩:=ih _ _ _ h4;rw[J8 h3];exact⟨a++group::FT::b,ae,.Wq ha hb⟩
    ·cases h2;exact⟨a,rfl,.Wo ha⟩
   |Dj=>
    simp only[parse]at h;obtain⟨x,h1,h2⟩:=bind_some h;obtain⟨a,rfl,ha⟩:=ih _ _ _ h1;split at h2
    ·obtain⟨b,rfl,hb⟩:=ih _ _ _ h2;exact⟨a++Fj::b,ae,.WO ha hb⟩
    ·cases h2;exact⟨a,rfl,.WN ha⟩
   |items=>
    simp only[parse]at h;obtain⟨a,b,rfl,ha,hb⟩:=chain _ _ _ _ h;exact⟨a++b,ae,hb a (.Xx ha)⟩
   |item=>
    simp only[parse]at h;obtain⟨a,b,rfl,ha,hb⟩:=chain _ _ _ _ h;rcases hb with rfl|rfl
    ·exact⟨a,ae,.item ha⟩
    ·exact⟨a++ [xZ,name],ae,.XA ha⟩
   |sources=>
    simp only[parse]at h;obtain⟨a,b,rfl,ha,hb⟩:=chain _ _ _ _ h;exact⟨a++b,ae,hb a (.XY ha)⟩
   |source=>
    simp only[parse]at h;obtain⟨x,h1,h2⟩:=bind_some h;obtain⟨b,rfl,hb⟩:=ih _ _ _ h2;rw[J8 h1];rcases hb with rfl|rfl
    ·exact⟨[name],ae,.src⟩
    ·exact⟨[name,xZ,name],ae,.X5⟩
   |yw=>
    simp only[parse]at h;obtain⟨a,b,rfl,ha,hb⟩:=chain _ _ _ _ h;exact⟨a++b,ae,hb a (.Wx ha)⟩
   |column=>
    simp only[parse]at h;obtain⟨x,h1,h2⟩:=bind_some h;rw[J8 h1];split at h2
    ·rw[J8 h2];exact⟨[name,dot,name],ae,.R9⟩
    ·cases h2;exact⟨[name],ae,.zO⟩
   |xR=>
    simp only[parse]at h;obtain⟨a,b,rfl,ha,hb⟩:=chain _ _ _ _ h;exact⟨a++b,ae,hb a (.Vb ha)⟩
   |yM=>
    simp only[parse]at h;obtain⟨a,b,rfl,ha,hb⟩:=chain _ _ _ _ h;exact⟨a++b,ae,hb a (.Va ha)⟩
   |neg=>
    simp only[parse]at h;split at h
    ·obtain⟨a,rfl,ha⟩:=ih _ _ _ h;exact⟨xJ::a,ae,.Vh ha⟩
    ·obtain⟨a,rfl,ha⟩:=ih _ _ _ h;exact⟨a,rfl,.Vg ha⟩
   |basic=>
    simp only[parse]at h;split at h
    ·obtain⟨a,rfl,b,rfl,hb⟩:=ih _ _ _ h;exact⟨zK::lp::(b++ [rp]),ae,.RX hb⟩
    ·split at h
     ·obtain⟨a,e,b,rfl,hb⟩:=ih _ _ _ h;exact⟨_,e,.R5 hb⟩
     ·obtain⟨a,b,rfl,ha,hb⟩:=chain _ _ _ _ h;exact⟨a++b,ae,hb a ha⟩
   |expr=>
    simp only[parse]at h;obtain⟨a,b,rfl,ha,hb⟩:=chain _ _ _ _ h;exact⟨a++b,ae,hb a (.Sb ha)⟩
   |term=>
    simp only[parse]at h;obtain⟨a,b,rfl,ha,hb⟩:=chain _ _ _ _ h;exact⟨a++b,ae,hb a (.Ta ha)⟩
   |yh=>
    simp only[parse]at h;split at h
    ·obtain⟨a,rfl,ha⟩:=ih _ _ _ h;exact⟨minus::a,ae,.Sd ha⟩
    ·cases h;exact⟨[null],ae,.Si⟩
    ·cases h;exact⟨[lit],ae,.Y4⟩
    ·obtain⟨a,e,b,rfl,hb⟩:=ih _ _ _ h;exact⟨_,e,.Sj hb⟩
    ·obtain⟨x,h1,h2⟩:=bind_some h;obtain⟨y,h3,h4⟩:=bind_some h2;rw[J8 h1];split at h3
     ·cases h3;rw[J8 h4];exact⟨[count,lp,star,rp],ae,.Sk⟩
     ·obtain⟨a,rfl,ha⟩:=ih _ _ _ h3;rw[J8 h4];exact⟨count::lp::(a++ [rp]),ae,.Qi rfl ha⟩
    ·obtain⟨a,rfl,b,rfl,hb⟩:=ih _ _ _ h;exact⟨agg::lp::(b++ [rp]),ae,.Qi rfl hb⟩
    ·obtain⟨a,rfl,ha⟩:=ih _ _ _ h;exact⟨a,rfl,.Sc ha⟩
  |R k=>
   cases k with
   |query=>
    simp only[parse]at h;split at h
    ·rename_i u r0;split at h
     ·rename_i hu;obtain⟨a,b,e,ha,hb⟩:=chain _ _ _ _ h;rcases Zqm Ak r0 with e1|⟨e1,_⟩
      ·rw[e1,e];exact⟨u::Ak::(a++b),ae,λc hc=>by have:=hb _ (.XT hu hc ha);simpa using this⟩
      ·rw[e1]at e;rw[e];exact⟨u::(a++b),ae,λc hc=>by have:=hb _ (.XR hu hc ha);simpa using this⟩
     ·cases h;exact jD
    ·cases h;exact jD
   |items=>
    simp only[parse]at h;split at h
    ·obtain⟨a,b,rfl,ha,hb⟩:=chain _ _ _ _ h;exact⟨CB::(a++b),ae,λc hc=>by have:=hb _ (.Xw hc ha);simpa using this⟩
    ·cases h;exact jD
   |sources=>
    simp only[parse]at h;split at h
    ·obtain⟨a,b,rfl,ha,hb⟩:=chain _ _ _ _ h;exact⟨CB::(a++b),ae,λc hc=>by have:=hb _ (.XX hc ha);simpa using this⟩
    ·cases h;exact jD
   |yw=>
    simp only[parse]at h;split at h
    ·obtain⟨a,b,rfl,ha,hb⟩:=chain _ _ _ _ h;exact⟨CB::(a++b),ae,λc hc=>by have:=hb _ (.Ww hc ha);simpa using this⟩
    ·cases h;exact jD
   |xR=>
    simp only[parse]at h;split at h
    ·obtain⟨a,b,rfl,ha,hb⟩:=chain _ _ _ _ h;exact⟨JN::(a++b),ae,λc hc=>by have:=hb _ (.Vd hc ha);simpa using this⟩
    ·cases h;exact jD
   |yM=>
    simp only[parse]at h;split at h
    ·obtain⟨a,b,rfl,ha,hb⟩:=chain _ _ _ _ h;exact⟨FO::(a++b),ae,λc hc=>by have:=hb _ (.U9 hc ha);simpa using this⟩
    ·cases h;exact jD
   |expr=>
    simp only[parse]at h;split at h
    ·split at h
     ·rename_i u r0 hu;obtain⟨a,b,rfl,ha,hb⟩:=chain _ _ _ _ h;exact⟨u::(a++b),ae,λc hc=>by have:=hb _ (.Sa hu hc ha);simpa using this⟩
     ·cases h;exact jD
    ·cases h;exact jD
   |term=>
    simp only[parse]at h;split at h
    ·split at h
     ·rename_i u r0 hu;obtain⟨a,b,rfl,ha,hb⟩:=chain _ _ _ _ h;exact⟨u::(a++b),ae,λc hc=>by have:=hb _ (.Tc hu hc ha);simpa using this⟩
     ·cases h;exact jD
    ·cases h;exact jD
   |core=>simp[parse]at h
   |tail=>simp[parse]at h
   |after=>simp[parse]at h
   |Dj=>simp[parse]at h
   |item=>simp[parse]at h
   |source=>simp[parse]at h
   |column=>simp[parse]at h
   |neg=>simp[parse]at h
   |basic=>simp[parse]at h
   |yh=>simp[parse]at h
  |ask=>
   simp only[parse]at h;split at h
   ·rw[J8 h];exact⟨[JM,xJ,null],ae,λe he=>.R3 he⟩
   ·rw[J8 h];exact⟨[JM,null],ae,λe he=>.R4 he⟩
   ·split at h
    ·obtain⟨a,rfl,q,rfl,hq⟩:=ih _ _ _ h;exact⟨cmp::Zed::lp::(q++ [rp]),ae,λe he=>.Qf rfl he hq⟩
    ·obtain⟨a,rfl,q,rfl,hq⟩:=ih _ _ _ h;exact⟨cmp::Ak::lp::(q++ [rp]),ae,λe he=>.Qf rfl he hq⟩
    ·obtain⟨a,rfl,ha⟩:=ih _ _ _ h;exact⟨cmp::a,ae,λe he=>.RV he ha⟩
   ·obtain⟨x,h1,h2⟩:=bind_some h;obtain⟨a,rfl,q,rfl,hq⟩:=ih _ _ _ h2;rw[J8 h1];exact⟨xJ::zU::lp::(q++ [rp]),ae,λe he=>.RZ he hq⟩
   ·obtain⟨x,h1,h2⟩:=bind_some h;obtain⟨a,rfl,q,rfl,hq⟩:=ih _ _ _ h2;rw[J8 h1];exact⟨zU::lp::(q++ [rp]),ae,λe he=>.RY he hq⟩
  |round k=>
   simp only[parse]at h;obtain⟨x,h1,h2⟩:=bind_some h;obtain⟨y,h3,h4⟩:=bind_some h2;obtain⟨a,rfl,ha⟩:=ih _ _ _ h3;rw[J8 h1,J8 h4];exact⟨lp::(a++ [rp]),ae,a,rfl,ha⟩
  |alias=>
   simp only[parse]at h;split at h
   ·rw[J8 h];exact⟨[xZ,name],ae,.inr rfl⟩
   ·cases h;exact⟨[],ae,.inl rfl⟩
def Zqr(t:T):Bool:=t==minus||t==null||t==lit||t==lp||t==count||t==agg||t==name
def first:NT->T->Bool
 |yh,t|term,t|expr,t|column,t|yw,t|NT.item,t|items,t=>Zqr t
 |basic,t|neg,t|yM,t|xR,t|after,t=>Zqr t||t==xJ||t==zK
 |source,t|sources,t|tail,t=>t==name
 |Dj,t=>Zqr t
 |core,t|query,t=>t==lp||t==yO
def Sl{k}{a}(h:G k a):∃t r,a=t::r/\first k t=true:=by
 induction h with
 |XQ _ ih=>exact mf
 |XR _ _ _ ih _|XT _ _ _ ih _=>exact mh
 |Wy _ _=>exact jE
 |WB _ _|WC _ _=>exact jE
 |Wz _ _ _ _|WA _ _ _ _=>exact jE
 |X8 _ ih=>exact mf
 |VG _ _ ih _|X7 _ _ ih _=>exact mh
 |Wo _ ih=>exact mf
 |Wq _ _ ih _=>exact mh
 |WN _ ih=>exact mf
 |WO _ _ ih _=>exact mh
 |Xx _ ih|item _ ih|XY _ ih|Wx _ ih=>exact mf
 |Xw _ _ ih _|XX _ _ ih _|Ww _ _ ih _=>exact mh
 |XA _ ih=>exact mh
 |src|X5|zO|R9=>exact jE
 |Vb _ ih|Va _ ih|Vg _ ih=>exact mf
 |Vd _ _ ih _|U9 _ _ ih _=>exact mh
 |Vh _ _=>exact jE
 |RX _ _|R5 _ _=>exact jE
 |R4 _ ih|R3 _ ih=>exact mg
 |RY _ _ ih _|RZ _ _ ih _|RV _ _ ih _=>exact mg
 |Qf _ _ _ ih _=>exact mg
 |Sb _ ih|Ta _ ih|Sc _ ih=>exact mf
 |Sa _ _ _ ih _|Tc _ _ _ ih _=>exact mh
 |Sd _ _|Y4|Si|Sk|Sj _ _=>exact jE
 |Qi hu _ _=>exact⟨_,_,rfl,by simp[isAgg]at hu;rcases hu with rfl|rfl<;>rfl⟩
def isE:NT->Bool
 |expr|term|yh|column=>true
 |_=>false
def FB(o)(t)(s)(h:1<=o+opened t)(hm:marks t=false):BJ o (t::s)=BJ (o+opened t) s:=by
 rw[BJ,nU Z,hm];simp
def ZZe{p:Prop}(h:p:=by
 rw[FB o lp _ aB rfl,oI,ih rfl _ _ aB];show BJ _ (rp::s)=_;rw[FB _ rp _ aB rfl];simp[opened];congr 1;omega):p:=h
def ZZg{p:Prop}(h:p:=by
 rw[oI,xO rfl o _ ho,List.cons_append,FB o u _ Z e0.2,e0.1,tV];exact yf rfl o s ho):p:=h
def Zc4{k}{a}(h:G k a):isE k=true->∀o s,1<=o->BJ o (a++s)=BJ o s:=by
 induction h with
 |Sb _ ih|Ta _ ih|Sc _ ih=>intro _ o s ho;exact ih rfl o s ho
 |Sa hu _ _ xO yf=>
  rename_i a b u _ _;intro _ o s ho;have e0:opened u=0/\marks u=false:=by simp[isAdd]at hu;rcases hu with rfl|rfl<;>exact⟨rfl,rfl⟩
  exact ZZg
 |Tc hu _ _ xO yf=>
  rename_i a b u _ _;intro _ o s ho;have e0:opened u=0/\marks u=false:=by simp[isMul]at hu;rcases hu with(rfl|rfl)|rfl<;>exact⟨rfl,rfl⟩
  exact ZZg
 |Sd _ ih=>
  intro _ o s ho;rw[List.cons_append,FB o minus _ aB rfl];simp only[opened,tV];exact ih rfl o s ho
 |Y4=>intro _ o s ho;exact(FB o lit s aB rfl).trans (by simp[opened])
 |Si=>intro _ o s ho;exact(FB o null s aB rfl).trans (by simp[opened])
 |Sk=>
  intro _ o s ho;show BJ o (count::lp::star::rp::s)=_;rw[FB o count _ aB rfl,FB _ lp _ aB rfl,FB _ star _ aB rfl,FB _ rp _ aB rfl];simp[opened];congr 1;omega
 |Qi hu _ ih=>
  rename_i a u _;intro _ o s ho;have key:BJ o (lp::((a++ [rp])++s))=BJ o s:=by
   exact ZZe
  simp[isAgg]at hu;rcases hu with rfl|rfl
  ·exact(FB o count _ aB rfl).trans ((by simp[opened]:BJ (o+opened count) (lp::((a++ [rp])++s))=BJ o (lp::((a++ [rp])++s))).trans key)
  ·exact(FB o agg _ aB rfl).trans ((by simp[opened]:BJ (o+opened agg) (lp::((a++ [rp])++s))=BJ o (lp::((a++ [rp])++s))).trans key)
 |Sj _ ih=>
  rename_i a _;intro _ o s ho;show BJ o (lp::((a++ [rp])++s))=_;exact ZZe
 |zO=>intro _ o s ho;exact(FB o name s aB rfl).trans (by simp[opened])
 |R9=>
  intro _ o s ho;show BJ o (name::dot::name::s)=_;rw[FB o name _ aB rfl,FB _ dot _ aB rfl,FB _ name _ aB rfl];simp[opened]
 |_=>intro h;cases h
def ZyU{k}{a}(h:G k a):isE k=true->∀s,BJ 0 (a++s)=false:=by
 induction h with
 |Sb _ ih|Ta _ ih|Sc _ ih=>intro _ s;exact ih rfl s
 |Sa _ _ _ xO _|Tc _ _ _ xO _=>intro _ s;rw[oI];exact xO rfl _
 |Sd _ _|Y4|Si|Sk|zO|R9=>intro _ s;rfl
 |Qi hu _ _=>intro _ s;simp[isAgg]at hu;rcases hu with rfl|rfl<;>rfl
 |Sj h _=>
  rename_i a _;intro _ s;show BJ 0 (lp::((a++ [rp])++s))=_;rw[FB 0 lp _ O rfl,oI,Zc4 h rfl _ _ O];rfl
 |_=>intro h;cases h
def isC:NT->Bool
 |xR|yM|neg|basic=>true
 |_=>false
def ZcO(o)(t)(s)(h:1<=o+opened t)(hm:marks t=true):BJ o (t::s)=true:=by
 rw[BJ,nU Z,nY hm]
def ZBl{k}{a}(h:G k a):isC k=true->∀o s,1<=o->BJ o (a++s)=true:=by
 induction h with
 |Vb _ ih|Va _ ih|Vg _ ih=>intro _ o s ho;exact ih rfl o s ho
 |Vd _ _ ih _|U9 _ _ ih _=>intro _ o s ho;rw[oI];exact ih rfl o _ ho
 |Vh _ ih=>
  intro _ o s ho;rw[List.cons_append,FB o xJ _ aB rfl];simp only[opened,tV];exact ih rfl o s ho
 |RX _ _=>intro _ o s ho;exact ZcO o zK _ aB rfl
 |R5 _ ih=>
  rename_i a _;intro _ o s ho;show BJ o (lp::((a++ [rp])++s))=_;rw[FB o lp _ aB rfl,oI];exact ih rfl _ _ aB
 |R4 h _|R3 h _=>intro _ o s ho;rw[oI,Zc4 h rfl o _ ho];exact ZcO o JM _ aB rfl
 |RY h _ _ _=>intro _ o s ho;rw[oI,Zc4 h rfl o _ ho];exact ZcO o zU _ aB rfl
 |RZ h _ _ _=>
  intro _ o s ho;rw[oI,Zc4 h rfl o _ ho,List.cons_append,FB o xJ _ aB rfl];exact ZcO _ zU _ aB rfl
 |Qf _ h _ _ _=>exact lG
 |RV h _ _ _=>exact lG
 |_=>intro h;cases h
def ext:NT->T->Bool
 |yh,t|column,t=>t==dot
 |term,t=>t==dot||isMul t
 |expr,t|basic,t|neg,t=>t==dot||isMul t||isAdd t
 |yM,t=>t==dot||isMul t||isAdd t||t==FO
 |xR,t=>t==dot||isMul t||isAdd t||t==FO||t==JN
 |NT.item,t=>t==dot||isMul t||isAdd t||t==xZ
 |items,t=>t==dot||isMul t||isAdd t||t==xZ||t==CB
 |source,t=>t==xZ
 |sources,t=>t==xZ||t==CB
 |yw,t=>t==dot||t==CB
 |Dj,t|after,t=>t==dot||isMul t||isAdd t||t==FO||t==JN||t==CB||t==Fj||t==group
 |tail,t|core,t=>t==dot||isMul t||isAdd t||t==FO||t==JN||t==CB||t==Fj||t==group||t==Ee||t==xZ
 |query,t=>t==dot||isMul t||isAdd t||t==FO||t==JN||t==CB||t==Fj||t==group||t==Ee||t==xZ||isSet t
def Fit(k:NT)(r:List T):Prop:=∀u r',r=u::r'->ext k u=false
def base:NT->NT
 |query=>core|items=>NT.item|sources=>source|yw=>column|xR=>yM|yM=>neg|expr=>term|term=>yh
 |k=>k
def OO:NT->Bool
 |query|items|sources|yw|xR|yM|expr|term=>true
 |_=>false
def Ok(pk:PK)(l r:List T):Prop:=∃N,∀n,N<=n->parse n pk l=some r
def Goes(k:NT)(r' r:List T):Prop:=if OO k then Ok (R k) r' r else r'=r
def Om{pk}{l r:List T}(h:∀n,parse (n+1) pk l=some r):Ok pk l r:=
 ⟨1,λn hn=>by obtain⟨m,rfl⟩:∃m,n=m+1:=⟨n-1,Z⟩;exact h m⟩
def Kt{pk k}{l:List T}{l' r}(h:∀n,parse (n+1) pk l=parse n k l')(h1:Ok k l' r):Ok pk l r:=by
 exact lU
def ok_two{pk k1}{l:List T}{l' m}{r:List T}(g:Nat->List T->Option (List T))(h:∀n,parse (n+1) pk l=(parse n k1 l').bind (g n))(h1:Ok k1 l' m)(h2:∃N,∀n,N<=n->g n m=some r):Ok pk l r:=by
 obtain⟨N1,UE⟩:=h1;obtain⟨N2,JD⟩:=h2;refine⟨N1+N2+1,λn hn=>?_⟩;obtain⟨p,rfl⟩:∃p,n=p+1:=⟨n-1,Z⟩;rw[h p,UE p Z];exact JD p Z
def Fz{pk k1 k2}{l:List T}{l' m r}(h:∀n,parse (n+1) pk l=(parse n k1 l').bind (parse n k2))(h1:Ok k1 l' m)(h2:Ok k2 m r):Ok pk l r:=
 ok_two (λn=>parse n k2) h h1 h2
def XJ{k:NT}{a r:List T}(h:Ok (P k) (a++rp::r) (rp::r)):Ok (round k) (lp::(a++ [rp])++r) r:=by
 refine ok_two (k1:=P k) (l':=a++rp::r) (m:=rp::r) (λ_=>xU rp) (λn=>?_) h ⟨0,λn _=>Zh5 rp r⟩;simp[parse,xU]
def DF{k}{u:T}{r:List T}(h:ext k u=false):Fit k (u::r):=by
 intro v r' e;cases e;exact h
def Fit.mono{k k'}{r}(h:Fit k r)(he:∀t,ext k' t=true->ext k t=true):Fit k' r:=by
 intro u r' e;have:=h u r' e;cases hx:ext k' u with
 |false=>rfl
 |true=>rw[he u hx]at this;cases this
def ZRS{k:NT}{r}(hc:OO k=true)(h:Fit k r):Ok (R k) r r:=by
 cases r with
 |nil=>cases k<;>first|exact absurd hc O|exact Om (λn=>by simp[parse])
 |cons u r=>
  have hu:=h u r rfl;cases k<;>first|exact absurd hc O|(cases u<;>first|exact absurd hu O|exact Om (λn=>by simp[parse,isSet,isAdd,isMul]))
def Reads(k:NT)(a:List T):Prop:=∀r r',Fit (base k) r'->Goes k r' r->Ok (P k) (a++r') r
def full{k}{a r}(h:Reads k a)(hf:Fit k r):Ok (P k) (a++r) r:=by
 refine h r r ?_ ?_
 ·refine hf.mono ?_;cases k<;>(intro t;cases t<;>decide)
 ·unfold Goes;cases hc:OO k with
  |true=>simp only[pX];exact ZRS hc hf
  |false=>simp
def Ct{k}{r' r}(h:Goes k r' r)(hc:OO k=false):r'=r:=by
 unfold Goes at h;exact nz
def Ka{k}{r' r}(h:Goes k r' r)(hc:OO k=true):Ok (R k) r' r:=by
 unfold Goes at h;exact nz
def Ur{k:NT}{r' r}(hc:OO k=true)(h:Ok (R k) r' r):Goes k r' r:=by
 unfold Goes;rw[hc];simpa using h
def Zdd(n:Nat)(r:List T):Option (List T):=match r with
 |Ee::r'=>parse n (P after) r'
 |group::r'=>(xU FT r').bind (parse n (P Dj))
 |r=>some r
def Zc3(n)(l):parse (n+1) (P tail) l=(parse n (P sources) l).bind (Zdd n):=by rw[parse];rfl
def Zd8(n:Nat)(r:List T):Option (List T):=match r with
 |group::r'=>(xU FT r').bind (parse n (P Dj))
 |r=>some r
def Zgp(n)(l):parse (n+1) (P after) l=(parse n (P xR) l).bind (Zd8 n):=by rw[parse];rfl
def Zig(n:Nat)(r:List T):Option (List T):=match r with
 |Fj::r'=>parse n (P xR) r'
 |r=>some r
def Zgq(n)(l):parse (n+1) (P Dj) l=(parse n (P yw) l).bind (Zig n):=by rw[parse];rfl
def ZsX{a}(h:G basic a):∀l,a≠xJ::l:=by
 intro l e;have key:∀{e' s:List T},G expr e'->e'++s≠xJ::l:=by
  intro e' s he h2;obtain⟨t,r,rfl,ht⟩:=Sl he;rw[List.cons_append]at h2;rw[(rE h2).1]at ht;exact absurd ht O
 cases h with
 |RX _=>cases e
 |R5 _=>cases e
 |R4 h=>exact key h e
 |R3 h=>exact key h e
 |RY h _=>exact key h e
 |RZ h _=>exact key h e
 |Qf _ h _=>exact key h e
 |RV h _=>exact key h e
def Zc2{a}(h:G expr a)(n)(s):parse (n+1) (P basic) (a++s)=(parse n (P expr) (a++s)).bind (parse n ask):=by
 have ho:=ZyU h rfl s;obtain⟨t,l,rfl,ht⟩:=Sl h;rw[List.cons_append]at ho ⊢;cases t<;>first|exact absurd ht O|simp[parse,ho]
def ZZa{p:Prop}(h:p:=by
 cases r' with
 |nil=>rfl
 |cons u r=>have:=hf u r rfl;cases u<;>first|exact absurd this O|rfl):p:=h
def ZZb{p:Prop}(h:p:=by
 rename_i l t _;intro r r' hf hg;obtain rfl:=Ct hg rfl;have h1:Ok (P items) (l++BN::(t++r')) (BN::(t++r')):=full xO (DF rfl);obtain⟨N,hN⟩:=full yf (r:=r') (hf.mono az);refine ok_two (k1:=P items) (l':=l++BN::(t++r')) (λn r1=>(xU BN r1).bind (parse n (P tail))) (λn=>?_) h1 ⟨N,λn hn=>by rw[Zh5];exact hN n hn⟩;obtain⟨t0,l0,rfl,ht⟩:=Sl hl;cases t0<;>first|exact absurd ht O|simp[parse,skip]):p:=h
def ZZc{p:Prop}(h:p:=by
 rename_i a b u _ _;intro r r' hf hg;rw[oI];exact xO r _ (DF fo) (Ur rfl (Fz (λn=>by rw[List.cons_append,parse,hu,nY rfl]) (full yf hf) (Ka hg rfl)))):p:=h
def ZZd{p:Prop}(h:p:=by
 rename_i a q _;intro r r' hf hg;obtain rfl:=Ct hg rfl;rw[oI];exact Fz (λn=>Zc2 h n _) (full xO (DF rfl)) (Kt (k:=round query) (l':=lp::(q++ [rp])++r') (λn=>aW) (XJ (full yf (DF rfl))))):p:=h
def ZZf{p:Prop}(h:p:=by
 intro r r' hf hg;obtain rfl:=Ct hg rfl;rw[oI];exact Fz (λn=>Zc2 h n _) (full ih (DF rfl)) (Om (λn=>aW))):p:=h
def reads{k}{a}(h:G k a):Reads k a:=by
 induction h with
 |XQ _ ih=>exact lK
 |Xx _ ih=>exact lK
 |XY _ ih=>exact lK
 |Wx _ ih=>exact lK
 |Vb _ ih=>exact lK
 |Va _ ih=>exact lK
 |Sb _ ih=>exact lK
 |Ta _ ih=>exact lK
 |XR hu _ hb xO yf=>
  rename_i a b u _;intro r r' hf hg;rw[oI];have hs:skip Ak (b++r')=b++r':=by
   obtain⟨t,b',rfl,ht⟩:=Sl hb;cases t<;>first|exact absurd ht O|rfl
  refine xO r _ (DF fo) (Ur rfl (Fz (k1:=P core) (l':=b++r') (λn=>?_) (full yf hf) (Ka hg rfl)));rw[List.cons_append,parse,hu,nY rfl,hs]
 |XT hu _ hb xO yf=>
  rename_i a b u _;intro r r' hf hg;rw[oI];refine xO r _ (DF fo) (Ur rfl (Fz (k1:=P core) (l':=b++r') (λn=>?_) (full yf hf) (Ka hg rfl)));rw[List.cons_append,parse,hu,nY rfl];rfl
 |Xw _ _ xO yf=>exact lT
 |XX _ _ xO yf=>exact lT
 |Ww _ _ xO yf=>exact lT
 |Vd _ _ xO yf=>exact lT
 |U9 _ _ xO yf=>exact lT
 |Sa hu _ _ xO yf=>
  exact ZZc
 |Tc hu _ _ xO yf=>
  exact ZZc
 |Wy _ ih=>exact lL
 |WB _ ih=>exact lN
 |WC _ ih=>exact lN
 |Wz hl _ xO yf=>
  exact ZZb
 |WA hl _ xO yf=>
  exact ZZb
 |X8 _ ih=>
  intro r r' hf hg;obtain rfl:=Ct hg rfl;refine ok_two Zdd (λn=>Zc3 n _) (full ih (hf.mono az)) ⟨0,λn _=>?_⟩;exact ZZa
 |VG _ _ xO yf=>
  rename_i a b _ _;intro r r' hf hg;obtain rfl:=Ct hg rfl;rw[oI];exact ok_two (m:=Ee::(b++r')) Zdd (λn=>Zc3 n _) (full xO (DF rfl)) (full yf (hf.mono az))
 |X7 _ _ xO yf=>
  rename_i a b _ _;intro r r' hf hg;obtain rfl:=Ct hg rfl;rw[oI];obtain⟨N,hN⟩:=full yf (r:=r') (hf.mono az);exact ok_two (m:=group::FT::(b++r')) Zdd (λn=>Zc3 n _) (full xO (DF rfl)) ⟨N,λn hn=>by simp[Zdd,xU];exact hN n hn⟩
 |Wo _ ih=>
  intro r r' hf hg;obtain rfl:=Ct hg rfl;refine ok_two Zd8 (λn=>Zgp n _) (full ih (hf.mono az)) ⟨0,λn _=>?_⟩;exact ZZa
 |Wq _ _ xO yf=>
  rename_i a b _ _;intro r r' hf hg;obtain rfl:=Ct hg rfl;rw[oI];obtain⟨N,hN⟩:=full yf (r:=r') (hf.mono az);exact ok_two (m:=group::FT::(b++r')) Zd8 (λn=>Zgp n _) (full xO (DF rfl)) ⟨N,λn hn=>by simp[Zd8,xU];exact hN n hn⟩
 |WN _ ih=>
  intro r r' hf hg;obtain rfl:=Ct hg rfl;refine ok_two Zig (λn=>Zgq n _) (full ih (hf.mono az)) ⟨0,λn _=>?_⟩;exact ZZa
 |WO _ _ xO yf=>
  rename_i a b _ _;intro r r' hf hg;obtain rfl:=Ct hg rfl;rw[oI];exact ok_two (m:=Fj::(b++r')) Zig (λn=>Zgq n _) (full xO (DF rfl)) (full yf (hf.mono az))
 |item _ ih=>
  intro r r' hf hg;obtain rfl:=Ct hg rfl;refine Fz (λn=>aH) (full ih (hf.mono az)) (Om (λn=>?_));exact ZZa
 |XA _ ih=>
  intro r r' hf hg;obtain rfl:=Ct hg rfl;rw[oI];exact Fz (k1:=P expr) (k2:=PK.alias) (m:=xZ::name::r') (λn=>by rw[parse];rfl) (full ih (DF rfl)) (Om (λn=>aW))
 |src=>
  intro r r' hf hg;obtain rfl:=Ct hg rfl;refine Kt (k:=PK.alias) (l':=r') (λn=>aW) (Om (λn=>?_));exact ZZa
 |X5=>
  intro r r' hf hg;obtain rfl:=Ct hg rfl;exact Kt (k:=PK.alias) (l':=xZ::name::r') (λn=>aW) (Om (λn=>aW))
 |zO=>
  intro r r' hf hg;obtain rfl:=Ct hg rfl;refine Om (λn=>?_);exact ZZa
 |R9=>exact lQ
 |Vh _ ih=>exact lM
 |Vg hb ih=>
  intro r r' hf hg;obtain rfl:=Ct hg rfl;refine Kt (k:=P basic) (λn=>?_) (full ih (hf.mono az));have hn:=ZsX hb;obtain⟨t,l,rfl,ht⟩:=Sl hb;cases t<;>first|exact absurd ht O|exact absurd rfl (hn _)|simp[parse]
 |RX _ ih=>exact lL
 |R5 h ih=>
  rename_i a;intro r r' hf hg;obtain rfl:=Ct hg rfl;refine Kt (λn=>?_) (XJ (full ih (DF rfl)));have ho:BJ 0 (lp::(a++ [rp])++r')=true:=by
   rw[List.cons_append,FB 0 lp _ O rfl,oI];exact ZBl h rfl _ _ O
  rw[List.cons_append]at ho ⊢;simp only[parse,ho,pX]
 |R4 h ih=>
  exact ZZf
 |R3 h ih=>
  exact ZZf
 |RY h _ xO yf=>
  exact ZZd
 |RZ h _ xO yf=>
  exact ZZd
 |Qf hh h _ xO yf=>
  rename_i a q u _;intro r r' hf hg;obtain rfl:=Ct hg rfl;rw[oI];refine Fz (λn=>Zc2 h n _) (full xO (DF rfl)) (Kt (k:=round query) (l':=lp::(q++ [rp])++r') (λn=>?_) (XJ (full yf (DF rfl))));cases u<;>first|exact absurd hh O|simp[parse]
 |RV h hb xO yf=>
  rename_i a b;intro r r' hf hg;obtain rfl:=Ct hg rfl;rw[oI];refine Fz (λn=>Zc2 h n _) (full xO (DF rfl)) (Kt (k:=P expr) (l':=b++r') (λn=>?_) (full yf (hf.mono az)));obtain⟨t,l,rfl,ht⟩:=Sl hb;cases t<;>first|exact absurd ht O|simp[parse]
 |Sd _ ih=>exact lM
 |Y4=>exact lS
 |Si=>exact lS
 |Sk=>exact lQ
 |Qi hu he ih=>
  rename_i a u;intro r r' hf hg;obtain rfl:=Ct hg rfl;have zP:Ok (P expr) (a++rp::r') (rp::r'):=full ih (DF rfl);cases u<;>first|exact absurd hu O|skip
  ·refine ok_two (k1:=P expr) (l':=a++rp::r') (m:=rp::r') (λ_=>xU rp) (λn=>?_) zP ⟨0,λn _=>Zh5 rp r'⟩;obtain⟨t,l,rfl,ht⟩:=Sl he;cases t<;>first|exact absurd ht O|simp[parse,xU]
  ·exact Kt (k:=round expr) (l':=lp::(a++ [rp])++r') (λn=>by simp[parse]) (XJ zP)
 |Sj _ ih=>exact lL
 |Sc hc ih=>
  intro r r' hf hg;obtain rfl:=Ct hg rfl;refine Kt (k:=P column) (λn=>?_) (full ih hf);cases hc<;>simp[parse]
def Es:PK->Nat
 |P query=>13|P core=>12|P tail=>11|P after=>10|P xR=>9|P yM=>8|P neg=>7|P basic=>6|P items=>6|P NT.item=>5|P expr=>4|P term=>3|P Dj=>3
 |P yh=>2|P sources=>2|P yw=>2|P source=>1|P column=>1
 |R _=>0|ask=>0|round _=>0|PK.alias=>0
def mz(pk:PK)(l:List T):Nat:=20*l.length+Es pk
def bind_congr{α β:Type}{o:Option α}{f g:α->Option β}(h:∀x,o=some x->f x=g x):o.bind f=o.bind g:=by
 cases o with
 |none=>rfl
 |some x=>exact h x rfl
def shorter{n}{k:NT}{l x:List T}(h:parse n (P k) l=some x):x.length<l.length:=by
 obtain⟨a,rfl,ha⟩:=ZAO n _ _ _ h;obtain⟨t,r,rfl,_⟩:=Sl ha;simp;omega
def KL{t}{l x:List T}(h:xU t l=some x):x.length<l.length:=by
 rw[J8 h];simp
def Zks(t)(l):(skip t l).length<=l.length:=by
 rcases Zqm t l with e|⟨e,_⟩
 ·have:=congrArg List.length e;exact nN
 ·rw[e];exact jo
def ZaJ(n:Nat)(l:List T):Option (List T):=match l with
 |star::r'=>some r'
 |r'=>parse n (P items) r'
def ZpM(n)(r):parse (n+1) (P core) (yO::r)=(ZaJ n (skip BB r)).bind λr1=>(xU BN r1).bind (parse n (P tail)):=by
 rw[parse];rfl
def Zz8{n}{l x:List T}(h:ZaJ n l=some x):x.length<l.length:=by
 unfold ZaJ at h;split at h
 ·cases h;simp
 ·exact shorter h
def Zeu(n:Nat)(l:List T):Option (List T):=match l with
 |star::r2=>some r2
 |r2=>parse n (P expr) r2
def ZpL(n)(r):parse (n+1) (P yh) (count::r)=(xU lp r).bind λr'=>(Zeu n r').bind (xU rp):=by rw[parse];rfl
def ZZh{p:Prop}(h:p:=by
 refine bind_congr (λy hy=>ih _ _ (less _ _ _ _ h ?_));have:=KL hy;simp only[List.length_cons]at hl;omega):p:=h
def ZSR(n):∀pk l,mz pk l<n->parse n pk l=parse (n+1) pk l:=by
 induction n with
 |zero=>intro pk l h;omega
 |succ n ih=>
  have two:∀(k:NT) (k2:PK) (l:List T),mz (P k) l<n->Es k2<=19->(parse n (P k) l).bind (parse n k2)=(parse (n+1) (P k) l).bind (parse (n+1) k2):=by
   intro k k2 l h1 h2;rw[<-ih _ _ h1];refine bind_congr (λx hx=>ih _ _ ?_);have:=shorter hx;unfold mz at h1 ⊢;omega
  have rnk:∀k,Es k<=13:=by intro k;cases k<;>simp[Es];(rename_i k;cases k<;>simp[Es])
  have less:∀(pk pk2:PK) (l l2:List T),mz pk l<n+1->l2.length<l.length->mz pk2 l2<n:=by
   intro pk pk2 l l2 h1 h2;have:=rnk pk2;unfold mz at *;omega
  intro pk l h;cases pk with
  |P k=>
   cases k with
   |query=>exact nC
   |core=>
    cases l with
    |nil=>simp[parse]
    |cons t r=>
     cases t<;>first|rfl|skip
     ·rw[ZpM,ZpM];have hsk:=Zks BB r;have e:ZaJ n (skip BB r)=ZaJ (n+1) (skip BB r):=by
        unfold ZaJ;split
        ·rfl
        ·exact ih _ _ (less _ _ _ _ h fw)
      rw[<-e];refine bind_congr (λx hx=>bind_congr (λy hy=>ih _ _ (less _ _ _ _ h ?_)));have h1:=Zz8 hx;have h2:=KL hy;simp only[List.length_cons];omega
     ·rw[parse,parse];exact ih _ _ aF
   |tail=>
    rw[Zc3,Zc3,<-ih _ _ aF];refine bind_congr (λx hx=>?_);have hl:=shorter hx;unfold Zdd;split
    ·exact ih _ _ (less _ _ _ _ h gM)
    ·exact ZZh
    ·rfl
   |after=>
    rw[Zgp,Zgp,<-ih _ _ aF];refine bind_congr (λx hx=>?_);have hl:=shorter hx;unfold Zd8;split
    ·exact ZZh
    ·rfl
   |Dj=>
    rw[Zgq,Zgq,<-ih _ _ aF];refine bind_congr (λx hx=>?_);have hl:=shorter hx;unfold Zig;split
    ·exact ih _ _ (less _ _ _ _ h gM)
    ·rfl
   |items=>exact nC
   |item=>exact nC
   |sources=>exact nC
   |source=>
    rw[parse,parse];exact bind_congr (λx hx=>ih _ _ (less _ _ _ _ h (KL hx)))
   |yw=>exact nC
   |column=>rw[parse,parse]
   |xR=>exact nC
   |yM=>exact nC
   |neg=>
    cases l with
    |nil=>simp only[parse];exact ih _ _ aF
    |cons t r=>
     have hb:=ih (P basic) (t::r) aF;have hn:=ih (P neg) r (less _ _ _ _ h ae);cases t<;>first|(simp only[parse];exact hn)|(simp only[parse];exact hb)|(rw[parse,parse];exact hb)
   |basic=>
    have ZAT:=two expr ask l aF O;have hr:=ih (round xR) l aF;cases l with
    |nil=>simp only[parse];split<;>first|exact hr|exact ZAT
    |cons t r=>
     have he:=ih (round query) r (less _ _ _ _ h ae);cases t<;>(simp only[parse];first|exact he|(split<;>first|exact hr|exact ZAT))
   |expr=>exact nC
   |term=>exact nC
   |yh=>
    have hc:=ih (P column) l aF;have hr:=ih (round expr) l aF;cases l with
    |nil=>simp only[parse];simpa only[parse]using hc
    |cons t r=>
     have hf:=ih (P yh) r (less _ _ _ _ h ae);have ha:=ih (round expr) r (less _ _ _ _ h ae);have ZJ7:parse (n+1) (P yh) (count::r)=parse (n+1+1) (P yh) (count::r):=by
      rw[ZpL,ZpL];refine bind_congr (λx hx=>?_);have Dx:=KL hx;have e:Zeu n x=Zeu (n+1) x:=by
        unfold Zeu;split
        ·rfl
        ·exact ih _ _ (less _ _ _ _ h fw)
      rw[e]
     cases t<;>first|rfl|exact ZJ7|exact hc|(simp only[parse];first|done|exact hf|exact hr|exact ha|exact hc)
  |R k=>
   cases l with
   |nil=>cases k<;>simp[parse]
   |cons t r=>
    have tw:=fun(k1:NT) (k2:PK) (x:List T) (hx:x.length<=r.length)=>two k1 k2 x (less _ _ _ _ h ah) (om (rnk k2) O);cases k with
    |query=>rw[parse,parse];split;exact tw _ _ _ (Zks _ _);rfl
    |expr=>rw[parse,parse];split;exact tw _ _ _ (nV _);rfl
    |term=>rw[parse,parse];split;exact tw _ _ _ (nV _);rfl
    |items=>cases t<;>first|rfl|(simp only[parse];exact tw _ _ _ (nV _))
    |sources=>cases t<;>first|rfl|(simp only[parse];exact tw _ _ _ (nV _))
    |yw=>cases t<;>first|rfl|(simp only[parse];exact tw _ _ _ (nV _))
    |xR=>cases t<;>first|rfl|(simp only[parse];exact tw _ _ _ (nV _))
    |yM=>cases t<;>first|rfl|(simp only[parse];exact tw _ _ _ (nV _))
    |_=>simp[parse]
  |ask=>
   cases l with
   |nil=>simp[parse,xU]
   |cons t r=>
    have zP:(xU zU (t::r)).bind (parse n (round query))=(xU zU (t::r)).bind (parse (n+1) (round query)):=bind_congr (λx hx=>ih _ _ (less _ _ _ _ h (KL hx)));have Z5:(xU zU r).bind (parse n (round query))=(xU zU r).bind (parse (n+1) (round query)):=bind_congr (λx hx=>ih _ _ (less _ _ _ _ h (by have:=KL hx;simp only[List.length_cons];omega)));have hq:∀x:List T,x.length<=r.length->∀k,parse n k x=parse (n+1) k x:=λx hx k=>ih _ _ (less _ _ _ _ h fw);cases t<;>first
     |(simp only[parse];exact Z5)
     |(simp only[parse];exact zP)
     |(cases r with
       |nil=>first|(simp only[parse];done)|(simp only[parse];exact hq _ (nV _) _)
       |cons u r=>
         have h1:=hq r ae (round query);have h2:=hq (u::r) (nV _) (P expr);cases u<;>first|(simp only[parse];done)|(simp only[parse];exact h1)|(simp only[parse];exact h2))
  |round k=>
   rw[parse,parse];refine bind_congr (λx hx=>?_);rw[<-ih _ _ (less _ _ _ _ h (KL hx))]
  |alias=>simp only[parse]
def ZSS{pk}{l:List T}(n m)(h:mz pk l<n)(hm:n<=m):parse m pk l=parse n pk l:=by
 induction hm with
 |refl=>rfl
 |step hm ih=>rw[<-ZSR _ pk l (oU h hm)];exact ih
end Go.Proofs.YtncnkiabjhhclaaGreatDoor
