import Derived.Test.YthmlacabmlghbaaGreatDoorBgAb
set_option maxRecDepth 100000
set_option maxHeartbeats 8000000
set_option linter.unusedSimpArgs false
set_option linter.unusedVariables false
namespace Go.Proofs.YthmlacabmlghbaaGreatDoor
inductive T
 |Yk|ZU|YA|Y2|group|Y7|having|Zx|union|inter|exc|Xl|Zay|Qa|Qr|not_|Xu|Yt|Qe|null|count|agg
 |lp|rp|comma|dot|star|plus|minus|slash|pct|cmp|name|lit
 deriving DecidableEq
inductive NT
 |query|core|tail|after|Z6|items|item|sources|source|Zu|column|cnd|ZF|neg|basic|expr|term|factor
 deriving DecidableEq
open T NT
def isSet(t:T):Bool:=t==union||t==inter||t==exc
def isAdd(t:T):Bool:=t==plus||t==minus
def isMul(t:T):Bool:=t==star||t==slash||t==pct
def isAgg(t:T):Bool:=t==count||t==agg
def XI(t:T):Bool:=t==Zay||t==Xl
inductive G:NT->List T->Prop
 |Kt {a}:G core a->G query a
 |Ku {a b u}:isSet u=true->G query a->G core b->G query (a++u::b)
 |Kv {a b u}:isSet u=true->G query a->G core b->G query (a++u::Xl::b)
 |U4 {a}:G query a->G core (lp::(a++ [rp]))
 |Ue {t}:G tail t->G core (Yk::star::YA::t)
 |Uf {t}:G tail t->G core (Yk::ZU::star::YA::t)
 |VI {l t}:G items l->G tail t->G core (Yk::(l++YA::t))
 |VJ {l t}:G items l->G tail t->G core (Yk::ZU::(l++YA::t))
 |UM {a}:G sources a->G tail a
 |V5 {a b}:G sources a->G after b->G tail (a++Y2::b)
 |UL {a b}:G sources a->G Z6 b->G tail (a++group::Y7::b)
 |U1 {a}:G cnd a->G after a
 |Ub {a b}:G cnd a->G Z6 b->G after (a++group::Y7::b)
 |Ur {a}:G Zu a->G Z6 a
 |Us {a b}:G Zu a->G cnd b->G Z6 (a++having::b)
 |Ke {a}:G item a->G items a
 |VV {a b}:G items a->G item b->G items (a++comma::b)
 |item {a}:G expr a->G item a
 |Kh {a}:G expr a->G item (a++ [Zx,name])
 |Ei {a}:G source a->G sources a
 |UI {a b}:G sources a->G source b->G sources (a++comma::b)
 |src:G source [name]
 |Ej:G source [name,Zx,name]
 |KU {a}:G column a->G Zu a
 |Ud {a b}:G Zu a->G column b->G Zu (a++comma::b)
 |JF:G column [name]
 |Uh:G column [name,dot,name]
 |Uy {a}:G ZF a->G cnd a
 |Uz {a b}:G cnd a->G ZF b->G cnd (a++Qr::b)
 |Ux {a}:G neg a->G ZF a
 |Uw {a b}:G ZF a->G neg b->G ZF (a++Qa::b)
 |UD {a}:G neg a->G neg (not_::a)
 |UC {a}:G basic a->G neg a
 |VB {a}:G query a->G basic (Xu::lp::(a++ [rp]))
 |VG {a}:G cnd a->G basic (lp::(a++ [rp]))
 |VF {a}:G expr a->G basic (a++ [Qe,null])
 |VE {a}:G expr a->G basic (a++ [Qe,not_,null])
 |VC {a q}:G expr a->G query q->G basic (a++Yt::lp::(q++ [rp]))
 |VD {a q}:G expr a->G query q->G basic (a++not_::Yt::lp::(q++ [rp]))
 |QX {a q h}:XI h=true->G expr a->G query q->G basic (a++cmp::h::lp::(q++ [rp]))
 |J9 {a b}:G expr a->G expr b->G basic (a++cmp::b)
 |Uj {a}:G term a->G expr a
 |Ui {a b u}:isAdd u=true->G expr a->G term b->G expr (a++u::b)
 |UA {a}:G factor a->G term a
 |UB {a b u}:isMul u=true->G term a->G factor b->G term (a++u::b)
 |Vf {a}:G factor a->G factor (minus::a)
 |Zcm:G factor [lit]
 |Un:G factor [null]
 |Uo:G factor [count,lp,star,rp]
 |QO {a u}:isAgg u=true->G expr a->G factor (u::lp::(a++ [rp]))
 |Vg {a}:G expr a->G factor (lp::(a++ [rp]))
 |Ve {a}:G column a->G factor a
def Zz(t:T):List T->Option (List T)
 |u::r=>if u=t then some r else none
 | []=>none
def skip(t:T):List T->List T
 |u::r=>if u=t then r else u::r
 | []=> []
theorem Zpg(t:T)(l:List T):l=t::skip t l\/(skip t l=l/\∀r,l≠t::r):=by
 cases l with
 |nil=>exact .inr ⟨rfl,fun r h=>ZPs⟩
 |cons u r=>
  by_cases e:u=t
  ·left;simp[skip,e]
  ·right;refine⟨by simp[skip,e],fun r' h=>?_⟩;exact e (ZXk h).1
def opened:T->Int
 |lp=>1
 |rp=> -1
 |_=>0
def marks(t:T):Bool:=t==cmp||t==Qe||t==Yt||t==Xu
def YX:Int->List T->Bool
 |_, []=>false
 |o,t::r=>if o+opened t<=0 then false else if marks t then true else YX (o+opened t) r
inductive PK|P (k:NT)|R (k:NT)|ask|round (k:NT)|alias
open PK
def parse:Nat->PK->List T->Option (List T)
 |0,_,_=>none
 |n+1,P query,l=>(parse n (P core) l).bind (parse n (R query))
 |n+1,R query,l=>match l with
  |u::r=>if isSet u then(parse n (P core) (skip Xl r)).bind (parse n (R query))else some l
  | []=>some []
 |n+1,P core,l=>match l with
  |lp::_=>parse n (round query) l
  |Yk::r=>(match skip ZU r with
    |star::r'=>some r'
    |r'=>parse n (P items) r').bind fun r1=>(Zz YA r1).bind (parse n (P tail))
  |_=>none
 |n+1,round k,l=>(Zz lp l).bind fun r=>(parse n (P k) r).bind (Zz rp)
 |n+1,P tail,l=>(parse n (P sources) l).bind fun r=>match r with
  |Y2::r'=>parse n (P after) r'
  |group::r'=>(Zz Y7 r').bind (parse n (P Z6))
  |r=>some r
 |n+1,P after,l=>(parse n (P cnd) l).bind fun r=>match r with
  |group::r'=>(Zz Y7 r').bind (parse n (P Z6))
  |r=>some r
 |n+1,P Z6,l=>(parse n (P Zu) l).bind fun r=>match r with
  |having::r'=>parse n (P cnd) r'
  |r=>some r
 |n+1,P items,l=>(parse n (P NT.item) l).bind (parse n (R items))
 |n+1,R items,l=>match l with
  |comma::r=>(parse n (P NT.item) r).bind (parse n (R items))
  |r=>some r
 |n+1,P NT.item,l=>(parse n (P expr) l).bind (parse n PK.alias)
 |_+1,PK.alias,l=>match l with
  |Zx::r=>Zz name r
  |r=>some r
 |n+1,P sources,l=>(parse n (P source) l).bind (parse n (R sources))
 |n+1,R sources,l=>match l with
  |comma::r=>(parse n (P source) r).bind (parse n (R sources))
  |r=>some r
 |n+1,P source,l=>(Zz name l).bind (parse n PK.alias)
 |n+1,P Zu,l=>(parse n (P column) l).bind (parse n (R Zu))
 |n+1,R Zu,l=>match l with
  |comma::r=>(parse n (P column) r).bind (parse n (R Zu))
  |r=>some r
 |_+1,P column,l=>(Zz name l).bind fun r=>match r with
  |dot::r'=>Zz name r'
  |r=>some r
 |n+1,P cnd,l=>(parse n (P ZF) l).bind (parse n (R cnd))
 |n+1,R cnd,l=>match l with
  |Qr::r=>(parse n (P ZF) r).bind (parse n (R cnd))
  |r=>some r
 |n+1,P ZF,l=>(parse n (P neg) l).bind (parse n (R ZF))
 |n+1,R ZF,l=>match l with
  |Qa::r=>(parse n (P neg) r).bind (parse n (R ZF))
  |r=>some r
 |n+1,P neg,l=>match l with
  |not_::r=>parse n (P neg) r
  |r=>parse n (P basic) r
 |n+1,P basic,l=>match l with
  |Xu::r=>parse n (round query) r
  |l=>if YX 0 l then parse n (round cnd) l else(parse n (P expr) l).bind (parse n ask)
 |n+1,ask,l=>match l with
  |Qe::not_::r=>Zz null r
  |Qe::r=>Zz null r
  |cmp::r=>(match r with
   |Zay::r'=>parse n (round query) r'
   |Xl::r'=>parse n (round query) r'
   |r=>parse n (P expr) r)
  |not_::r=>(Zz Yt r).bind (parse n (round query))
  |r=>(Zz Yt r).bind (parse n (round query))
 |n+1,P expr,l=>(parse n (P term) l).bind (parse n (R expr))
 |n+1,R expr,l=>match l with
  |u::r=>if isAdd u then(parse n (P term) r).bind (parse n (R expr))else some l
  | []=>some []
 |n+1,P term,l=>(parse n (P factor) l).bind (parse n (R term))
 |n+1,R term,l=>match l with
  |u::r=>if isMul u then(parse n (P factor) r).bind (parse n (R term))else some l
  | []=>some []
 |n+1,P factor,l=>match l with
  |minus::r=>parse n (P factor) r
  |null::r=>some r
  |lit::r=>some r
  |lp::_=>parse n (round expr) l
  |count::r=>(Zz lp r).bind fun r'=>(match r' with|star::r2=>some r2|r2=>parse n (P expr) r2).bind (Zz rp)
  |agg::r=>parse n (round expr) r
  |r=>parse n (P column) r
 |_+1,R _,_=>none
def Zma:PK->List T->Prop
 |P k,a=>G k a
 |R k,a=>∀b,G k b->G k (b++a)
 |ask,a=>∀e,G expr e->G basic (e++a)
 |round k,a=>∃b,a=lp::(b++ [rp])/\G k b
 |PK.alias,a=>a= []\/a= [Zx,name]
theorem VK{t:T}{l r:List T}(h:Zz t l=some r):l=t::r:=by
 cases l with
 |nil=>cases h
 |cons u l=>
  by_cases e:u=t
  ·simp[Zz,e]at h;rw[e,h]
  ·simp[Zz,e]at h
theorem ZjC(t:T)(r:List T):Zz t (t::r)=some r:=by simp[Zz]
theorem bind_some{α β:Type}{o:Option α}{f:α->Option β}{r:β}(h:o.bind f=some r):∃x,o=some x/\f x=some r:=by
 cases o with
 |none=>cases h
 |some x=>exact⟨x,rfl,h⟩
theorem took(n:Nat):∀(pk:PK) (l r:List T),parse n pk l=some r->∃a,l=a++r/\Zma pk a:=by
 induction n with
 |zero=>intro pk l r h;cases h
 |succ n ih=>
  intro pk l r h;have chain:∀(k1 k2:PK) (l r:List T),(parse n k1 l).bind (parse n k2)=some r->∃a b,l=a++(b++r)/\Zma k1 a/\Zma k2 b:=by
   intro k1 k2 l r h;obtain⟨x,h1,h2⟩:=bind_some h;obtain⟨a,rfl,ha⟩:=ih _ _ _ h1;obtain⟨b,rfl,hb⟩:=ih _ _ _ h2;exact⟨a,b,rfl,ha,hb⟩
  cases pk with
  |P k=>
   cases k with
   |query=>
    simp only[parse]at h;obtain⟨a,b,rfl,ha,hb⟩:=chain _ _ _ _ h;exact⟨a++b,ZPm,hb a (.Kt ha)⟩
   |core=>
    simp only[parse]at h;split at h
    ·obtain⟨a,e,b,rfl,hb⟩:=ih _ _ _ h;exact⟨_,e,.U4 hb⟩
    ·rename_i l0 r0;obtain⟨x,h1,h2⟩:=bind_some h;obtain⟨y,h3,h4⟩:=bind_some h2;obtain⟨t,rfl,ht⟩:=ih _ _ _ h4;have ex:=VK h3;subst ex;have key:∃a,skip ZU r0=a++YA::(t++r)/\(a= [star]\/G items a):=by
      split at h1
      ·rename_i r' e;cases h1;exact⟨[star],e,.inl rfl⟩
      ·rename_i e;obtain⟨a,e1,ha⟩:=ih _ _ _ h1;exact⟨a,e1,.inr ha⟩
     obtain⟨a,ea,ha⟩:=key;rcases Zpg ZU r0 with e|⟨e,_⟩
     ·rw[e,ea];rcases ha with rfl|ha
      ·exact⟨Yk::ZU::star::YA::t,ZPm,.Uf ht⟩
      ·exact⟨Yk::ZU::(a++YA::t),ZPm,.VJ ha ht⟩
     ·rw[e]at ea;rw[ea];rcases ha with rfl|ha
      ·exact⟨Yk::star::YA::t,ZPm,.Ue ht⟩
      ·exact⟨Yk::(a++YA::t),ZPm,.VI ha ht⟩
    ·cases h
   |tail=>
    simp only[parse]at h;obtain⟨x,h1,h2⟩:=bind_some h;obtain⟨a,rfl,ha⟩:=ih _ _ _ h1;split at h2
    ·obtain⟨b,rfl,hb⟩:=ih _ _ _ h2;exact⟨a++Y2::b,ZPm,.V5 ha hb⟩
    ·obtain⟨y,h3,h4⟩:=bind_some h2;obtain⟨b,rfl,hb⟩:=ih _ _ _ h4;rw[VK h3];exact⟨a++group::Y7::b,ZPm,.UL ha hb⟩
    ·cases h2;exact⟨a,rfl,.UM ha⟩
   |after=>
    simp only[parse]at h;obtain⟨x,h1,h2⟩:=bind_some h;obtain⟨a,rfl,ha⟩:=ih _ _ _ h1;split at h2
    ·obtain⟨y,h3,h4⟩:=bind_some h2;obtain⟨b,rfl,hb⟩:=ih _ _ _ h4;rw[VK h3];exact⟨a++group::Y7::b,ZPm,.Ub ha hb⟩
    ·cases h2;exact⟨a,rfl,.U1 ha⟩
   |Z6=>
    simp only[parse]at h;obtain⟨x,h1,h2⟩:=bind_some h;obtain⟨a,rfl,ha⟩:=ih _ _ _ h1;split at h2
    ·obtain⟨b,rfl,hb⟩:=ih _ _ _ h2;exact⟨a++having::b,ZPm,.Us ha hb⟩
    ·cases h2;exact⟨a,rfl,.Ur ha⟩
   |items=>
    simp only[parse]at h;obtain⟨a,b,rfl,ha,hb⟩:=chain _ _ _ _ h;exact⟨a++b,ZPm,hb a (.Ke ha)⟩
   |item=>
    simp only[parse]at h;obtain⟨a,b,rfl,ha,hb⟩:=chain _ _ _ _ h;rcases hb with rfl|rfl
    ·exact⟨a,ZPm,.item ha⟩
    ·exact⟨a++ [Zx,name],ZPm,.Kh ha⟩
   |sources=>
    simp only[parse]at h;obtain⟨a,b,rfl,ha,hb⟩:=chain _ _ _ _ h;exact⟨a++b,ZPm,hb a (.Ei ha)⟩
   |source=>
    simp only[parse]at h;obtain⟨x,h1,h2⟩:=bind_some h;obtain⟨b,rfl,hb⟩:=ih _ _ _ h2;rw[VK h1];rcases hb with rfl|rfl
    ·exact⟨[name],ZPm,.src⟩
    ·exact⟨[name,Zx,name],ZPm,.Ej⟩
   |Zu=>
    simp only[parse]at h;obtain⟨a,b,rfl,ha,hb⟩:=chain _ _ _ _ h;exact⟨a++b,ZPm,hb a (.KU ha)⟩
   |column=>
    simp only[parse]at h;obtain⟨x,h1,h2⟩:=bind_some h;rw[VK h1];split at h2
    ·rw[VK h2];exact⟨[name,dot,name],ZPm,.Uh⟩
    ·cases h2;exact⟨[name],ZPm,.JF⟩
   |cnd=>
    simp only[parse]at h;obtain⟨a,b,rfl,ha,hb⟩:=chain _ _ _ _ h;exact⟨a++b,ZPm,hb a (.Uy ha)⟩
   |ZF=>
    simp only[parse]at h;obtain⟨a,b,rfl,ha,hb⟩:=chain _ _ _ _ h;exact⟨a++b,ZPm,hb a (.Ux ha)⟩
   |neg=>
    simp only[parse]at h;split at h
    ·obtain⟨a,rfl,ha⟩:=ih _ _ _ h;exact⟨not_::a,ZPm,.UD ha⟩
    ·obtain⟨a,rfl,ha⟩:=ih _ _ _ h;exact⟨a,rfl,.UC ha⟩
   |basic=>
    simp only[parse]at h;split at h
    ·obtain⟨a,rfl,b,rfl,hb⟩:=ih _ _ _ h;exact⟨Xu::lp::(b++ [rp]),ZPm,.VB hb⟩
    ·split at h
     ·obtain⟨a,e,b,rfl,hb⟩:=ih _ _ _ h;exact⟨_,e,.VG hb⟩
     ·obtain⟨a,b,rfl,ha,hb⟩:=chain _ _ _ _ h;exact⟨a++b,ZPm,hb a ha⟩
   |expr=>
    simp only[parse]at h;obtain⟨a,b,rfl,ha,hb⟩:=chain _ _ _ _ h;exact⟨a++b,ZPm,hb a (.Uj ha)⟩
   |term=>
    simp only[parse]at h;obtain⟨a,b,rfl,ha,hb⟩:=chain _ _ _ _ h;exact⟨a++b,ZPm,hb a (.UA ha)⟩
   |factor=>
    simp only[parse]at h;split at h
    ·obtain⟨a,rfl,ha⟩:=ih _ _ _ h;exact⟨minus::a,ZPm,.Vf ha⟩
    ·cases h;exact⟨[null],ZPm,.Un⟩
    ·cases h;exact⟨[lit],ZPm,.Zcm⟩
    ·obtain⟨a,e,b,rfl,hb⟩:=ih _ _ _ h;exact⟨_,e,.Vg hb⟩
    ·obtain⟨x,h1,h2⟩:=bind_some h;obtain⟨y,h3,h4⟩:=bind_some h2;rw[VK h1];split at h3
     ·cases h3;rw[VK h4];exact⟨[count,lp,star,rp],ZPm,.Uo⟩
     ·obtain⟨a,rfl,ha⟩:=ih _ _ _ h3;rw[VK h4];exact⟨count::lp::(a++ [rp]),ZPm,.QO rfl ha⟩
    ·obtain⟨a,rfl,b,rfl,hb⟩:=ih _ _ _ h;exact⟨agg::lp::(b++ [rp]),ZPm,.QO rfl hb⟩
    ·obtain⟨a,rfl,ha⟩:=ih _ _ _ h;exact⟨a,rfl,.Ve ha⟩
  |R k=>
   cases k with
   |query=>
    simp only[parse]at h;split at h
    ·rename_i u r0;split at h
     ·rename_i hu;obtain⟨a,b,e,ha,hb⟩:=chain _ _ _ _ h;rcases Zpg Xl r0 with e1|⟨e1,_⟩
      ·rw[e1,e];exact⟨u::Xl::(a++b),ZPm,fun c hc=>by have:=hb _ (.Kv hu hc ha);simpa using this⟩
      ·rw[e1]at e;rw[e];exact⟨u::(a++b),ZPm,fun c hc=>by have:=hb _ (.Ku hu hc ha);simpa using this⟩
     ·cases h;exact ZTG
    ·cases h;exact ZTG
   |items=>
    simp only[parse]at h;split at h
    ·obtain⟨a,b,rfl,ha,hb⟩:=chain _ _ _ _ h;exact⟨comma::(a++b),ZPm,fun c hc=>by have:=hb _ (.VV hc ha);simpa using this⟩
    ·cases h;exact ZTG
   |sources=>
    simp only[parse]at h;split at h
    ·obtain⟨a,b,rfl,ha,hb⟩:=chain _ _ _ _ h;exact⟨comma::(a++b),ZPm,fun c hc=>by have:=hb _ (.UI hc ha);simpa using this⟩
    ·cases h;exact ZTG
   |Zu=>
    simp only[parse]at h;split at h
    ·obtain⟨a,b,rfl,ha,hb⟩:=chain _ _ _ _ h;exact⟨comma::(a++b),ZPm,fun c hc=>by have:=hb _ (.Ud hc ha);simpa using this⟩
    ·cases h;exact ZTG
   |cnd=>
    simp only[parse]at h;split at h
    ·obtain⟨a,b,rfl,ha,hb⟩:=chain _ _ _ _ h;exact⟨Qr::(a++b),ZPm,fun c hc=>by have:=hb _ (.Uz hc ha);simpa using this⟩
    ·cases h;exact ZTG
   |ZF=>
    simp only[parse]at h;split at h
    ·obtain⟨a,b,rfl,ha,hb⟩:=chain _ _ _ _ h;exact⟨Qa::(a++b),ZPm,fun c hc=>by have:=hb _ (.Uw hc ha);simpa using this⟩
    ·cases h;exact ZTG
   |expr=>
    simp only[parse]at h;split at h
    ·split at h
     ·rename_i u r0 hu;obtain⟨a,b,rfl,ha,hb⟩:=chain _ _ _ _ h;exact⟨u::(a++b),ZPm,fun c hc=>by have:=hb _ (.Ui hu hc ha);simpa using this⟩
     ·cases h;exact ZTG
    ·cases h;exact ZTG
   |term=>
    simp only[parse]at h;split at h
    ·split at h
     ·rename_i u r0 hu;obtain⟨a,b,rfl,ha,hb⟩:=chain _ _ _ _ h;exact⟨u::(a++b),ZPm,fun c hc=>by have:=hb _ (.UB hu hc ha);simpa using this⟩
     ·cases h;exact ZTG
    ·cases h;exact ZTG
   |core=>simp[parse]at h
   |tail=>simp[parse]at h
   |after=>simp[parse]at h
   |Z6=>simp[parse]at h
   |item=>simp[parse]at h
   |source=>simp[parse]at h
   |column=>simp[parse]at h
   |neg=>simp[parse]at h
   |basic=>simp[parse]at h
   |factor=>simp[parse]at h
  |ask=>
   simp only[parse]at h;split at h
   ·rw[VK h];exact⟨[Qe,not_,null],ZPm,fun e he=>.VE he⟩
   ·rw[VK h];exact⟨[Qe,null],ZPm,fun e he=>.VF he⟩
   ·split at h
    ·obtain⟨a,rfl,q,rfl,hq⟩:=ih _ _ _ h;exact⟨cmp::Zay::lp::(q++ [rp]),ZPm,fun e he=>.QX rfl he hq⟩
    ·obtain⟨a,rfl,q,rfl,hq⟩:=ih _ _ _ h;exact⟨cmp::Xl::lp::(q++ [rp]),ZPm,fun e he=>.QX rfl he hq⟩
    ·obtain⟨a,rfl,ha⟩:=ih _ _ _ h;exact⟨cmp::a,ZPm,fun e he=>.J9 he ha⟩
   ·obtain⟨x,h1,h2⟩:=bind_some h;obtain⟨a,rfl,q,rfl,hq⟩:=ih _ _ _ h2;rw[VK h1];exact⟨not_::Yt::lp::(q++ [rp]),ZPm,fun e he=>.VD he hq⟩
   ·obtain⟨x,h1,h2⟩:=bind_some h;obtain⟨a,rfl,q,rfl,hq⟩:=ih _ _ _ h2;rw[VK h1];exact⟨Yt::lp::(q++ [rp]),ZPm,fun e he=>.VC he hq⟩
  |round k=>
   simp only[parse]at h;obtain⟨x,h1,h2⟩:=bind_some h;obtain⟨y,h3,h4⟩:=bind_some h2;obtain⟨a,rfl,ha⟩:=ih _ _ _ h3;rw[VK h1,VK h4];exact⟨lp::(a++ [rp]),ZPm,a,rfl,ha⟩
  |alias=>
   simp only[parse]at h;split at h
   ·rw[VK h];exact⟨[Zx,name],ZPm,.inr rfl⟩
   ·cases h;exact⟨[],ZPm,.inl rfl⟩
def starts(t:T):Bool:=t==minus||t==null||t==lit||t==lp||t==count||t==agg||t==name
def first:NT->T->Bool
 |factor,t|term,t|expr,t|column,t|Zu,t|NT.item,t|items,t=>starts t
 |basic,t|neg,t|ZF,t|cnd,t|after,t=>starts t||t==not_||t==Xu
 |source,t|sources,t|tail,t=>t==name
 |Z6,t=>starts t
 |core,t|query,t=>t==lp||t==Yk
theorem VM{k:NT}{a:List T}(h:G k a):∃t r,a=t::r/\first k t=true:=by
 induction h with
 |Kt _ ih=>exact ZVS
 |Ku _ _ _ ih _|Kv _ _ _ ih _=>exact ZVU
 |U4 _ _=>exact ZTH
 |Ue _ _|Uf _ _=>exact ZTH
 |VI _ _ _ _|VJ _ _ _ _=>exact ZTH
 |UM _ ih=>exact ZVS
 |V5 _ _ ih _|UL _ _ ih _=>exact ZVU
 |U1 _ ih=>exact ZVS
 |Ub _ _ ih _=>exact ZVU
 |Ur _ ih=>exact ZVS
 |Us _ _ ih _=>exact ZVU
 |Ke _ ih|item _ ih|Ei _ ih|KU _ ih=>exact ZVS
 |VV _ _ ih _|UI _ _ ih _|Ud _ _ ih _=>exact ZVU
 |Kh _ ih=>exact ZVU
 |src|Ej|JF|Uh=>exact ZTH
 |Uy _ ih|Ux _ ih|UC _ ih=>exact ZVS
 |Uz _ _ ih _|Uw _ _ ih _=>exact ZVU
 |UD _ _=>exact ZTH
 |VB _ _|VG _ _=>exact ZTH
 |VF _ ih|VE _ ih=>exact ZVT
 |VC _ _ ih _|VD _ _ ih _|J9 _ _ ih _=>exact ZVT
 |QX _ _ _ ih _=>exact ZVT
 |Uj _ ih|UA _ ih|Ve _ ih=>exact ZVS
 |Ui _ _ _ ih _|UB _ _ _ ih _=>exact ZVU
 |Vf _ _|Zcm|Un|Uo|Vg _ _=>exact ZTH
 |QO hu _ _=>exact⟨_,_,rfl,by simp[isAgg]at hu;rcases hu with rfl|rfl<;>rfl⟩
def isE:NT->Bool
 |expr|term|factor|column=>true
 |_=>false
theorem QH(o:Int)(t:T)(s:List T)(h:1<=o+opened t)(hm:marks t=false):YX o (t::s)=YX (o+opened t) s:=by
 rw[YX,ZWQ U,hm];simp
theorem ZfW{k:NT}{a:List T}(h:G k a):isE k=true->∀(o:Int) (s:List T),1<=o->YX o (a++s)=YX o s:=by
 induction h with
 |Uj _ ih|UA _ ih|Ve _ ih=>intro _ o s ho;exact ih rfl o s ho
 |Ui hu _ _ ih1 ih2=>
  rename_i a b u _ _;intro _ o s ho;have e0:opened u=0/\marks u=false:=by simp[isAdd]at hu;rcases hu with rfl|rfl<;>exact⟨rfl,rfl⟩
  exact ZWl
 |UB hu _ _ ih1 ih2=>
  rename_i a b u _ _;intro _ o s ho;have e0:opened u=0/\marks u=false:=by simp[isMul]at hu;rcases hu with(rfl|rfl)|rfl<;>exact⟨rfl,rfl⟩
  exact ZWl
 |Vf _ ih=>
  intro _ o s ho;rw[List.cons_append,QH o minus _ ZPw rfl];simp only[opened,Int.add_zero];exact ih rfl o s ho
 |Zcm=>intro _ o s ho;exact(QH o lit s ZPw rfl).trans (by simp[opened])
 |Un=>intro _ o s ho;exact(QH o null s ZPw rfl).trans (by simp[opened])
 |Uo=>
  intro _ o s ho;show YX o (count::lp::star::rp::s)=_;rw[QH o count _ ZPw rfl,QH _ lp _ ZPw rfl,QH _ star _ ZPw rfl,QH _ rp _ ZPw rfl];simp[opened];congr 1;omega
 |QO hu _ ih=>
  rename_i a u _;intro _ o s ho;have key:YX o (lp::((a++ [rp])++s))=YX o s:=by
   exact ZWo
  simp[isAgg]at hu;rcases hu with rfl|rfl
  ·exact(QH o count _ ZPw rfl).trans ((by simp[opened]:YX (o+opened count) (lp::((a++ [rp])++s))=YX o (lp::((a++ [rp])++s))).trans key)
  ·exact(QH o agg _ ZPw rfl).trans ((by simp[opened]:YX (o+opened agg) (lp::((a++ [rp])++s))=YX o (lp::((a++ [rp])++s))).trans key)
 |Vg _ ih=>
  rename_i a _;intro _ o s ho;show YX o (lp::((a++ [rp])++s))=_;exact ZWo
 |JF=>intro _ o s ho;exact(QH o name s ZPw rfl).trans (by simp[opened])
 |Uh=>
  intro _ o s ho;show YX o (name::dot::name::s)=_;rw[QH o name _ ZPw rfl,QH _ dot _ ZPw rfl,QH _ name _ ZPw rfl];simp[opened]
 |_=>intro h;cases h
theorem Zvg{k:NT}{a:List T}(h:G k a):isE k=true->∀(s:List T),YX 0 (a++s)=false:=by
 induction h with
 |Uj _ ih|UA _ ih|Ve _ ih=>intro _ s;exact ih rfl s
 |Ui _ _ _ ih1 _|UB _ _ _ ih1 _=>intro _ s;rw[ZW7];exact ih1 rfl _
 |Vf _ _|Zcm|Un|Uo|JF|Uh=>intro _ s;rfl
 |QO hu _ _=>intro _ s;simp[isAgg]at hu;rcases hu with rfl|rfl<;>rfl
 |Vg h _=>
  rename_i a _;intro _ s;show YX 0 (lp::((a++ [rp])++s))=_;rw[QH 0 lp _ ZPl rfl,ZW7,ZfW h rfl _ _ ZPl];rfl
 |_=>intro h;cases h
def isC:NT->Bool
 |cnd|ZF|neg|basic=>true
 |_=>false
theorem ZfP(o:Int)(t:T)(s:List T)(h:1<=o+opened t)(hm:marks t=true):YX o (t::s)=true:=by
 rw[YX,ZWQ U,ZWR hm]
theorem Zxo{k:NT}{a:List T}(h:G k a):isC k=true->∀(o:Int) (s:List T),1<=o->YX o (a++s)=true:=by
 induction h with
 |Uy _ ih|Ux _ ih|UC _ ih=>intro _ o s ho;exact ih rfl o s ho
 |Uz _ _ ih _|Uw _ _ ih _=>intro _ o s ho;rw[ZW7];exact ih rfl o _ ho
 |UD _ ih=>
  intro _ o s ho;rw[List.cons_append,QH o not_ _ ZPw rfl];simp only[opened,Int.add_zero];exact ih rfl o s ho
 |VB _ _=>intro _ o s ho;exact ZfP o Xu _ ZPw rfl
 |VG _ ih=>
  rename_i a _;intro _ o s ho;show YX o (lp::((a++ [rp])++s))=_;rw[QH o lp _ ZPw rfl,ZW7];exact ih rfl _ _ ZPw
 |VF h _|VE h _=>intro _ o s ho;rw[ZW7,ZfW h rfl o _ ho];exact ZfP o Qe _ ZPw rfl
 |VC h _ _ _=>intro _ o s ho;rw[ZW7,ZfW h rfl o _ ho];exact ZfP o Yt _ ZPw rfl
 |VD h _ _ _=>
  intro _ o s ho;rw[ZW7,ZfW h rfl o _ ho,List.cons_append,QH o not_ _ ZPw rfl];exact ZfP _ Yt _ ZPw rfl
 |QX _ h _ _ _=>exact ZVh
 |J9 h _ _ _=>exact ZVh
 |_=>intro h;cases h
def ext:NT->T->Bool
 |factor,t|column,t=>t==dot
 |term,t=>t==dot||isMul t
 |expr,t|basic,t|neg,t=>t==dot||isMul t||isAdd t
 |ZF,t=>t==dot||isMul t||isAdd t||t==Qa
 |cnd,t=>t==dot||isMul t||isAdd t||t==Qa||t==Qr
 |NT.item,t=>t==dot||isMul t||isAdd t||t==Zx
 |items,t=>t==dot||isMul t||isAdd t||t==Zx||t==comma
 |source,t=>t==Zx
 |sources,t=>t==Zx||t==comma
 |Zu,t=>t==dot||t==comma
 |Z6,t|after,t=>t==dot||isMul t||isAdd t||t==Qa||t==Qr||t==comma||t==having||t==group
 |tail,t|core,t=>t==dot||isMul t||isAdd t||t==Qa||t==Qr||t==comma||t==having||t==group||t==Y2||t==Zx
 |query,t=>t==dot||isMul t||isAdd t||t==Qa||t==Qr||t==comma||t==having||t==group||t==Y2||t==Zx||isSet t
def Fit(k:NT)(r:List T):Prop:=∀u r',r=u::r'->ext k u=false
def base:NT->NT
 |query=>core|items=>NT.item|sources=>source|Zu=>column|cnd=>ZF|ZF=>neg|expr=>term|term=>factor
 |k=>k
def chains:NT->Bool
 |query|items|sources|Zu|cnd|ZF|expr|term=>true
 |_=>false
def Ok(pk:PK)(l r:List T):Prop:=∃N,∀n,N<=n->parse n pk l=some r
def Goes(k:NT)(r' r:List T):Prop:=if chains k then Ok (R k) r' r else r'=r
theorem EM{pk:PK}{l r:List T}(h:∀n,parse (n+1) pk l=some r):Ok pk l r:=
 ⟨1,fun n hn=>by obtain⟨m,rfl⟩:∃m,n=m+1:=⟨n-1,U⟩;exact h m⟩
theorem VY{pk k:PK}{l l' r:List T}(h:∀n,parse (n+1) pk l=parse n k l')(h1:Ok k l' r):Ok pk l r:=by
 exact ZVH
theorem ok_two{pk k1:PK}{l l' m r:List T}(g:Nat->List T->Option (List T))(h:∀n,parse (n+1) pk l=(parse n k1 l').bind (g n))(h1:Ok k1 l' m)(h2:∃N,∀n,N<=n->g n m=some r):Ok pk l r:=by
 obtain⟨N1,hN1⟩:=h1;obtain⟨N2,hN2⟩:=h2;refine⟨N1+N2+1,fun n hn=>?_⟩;obtain⟨p,rfl⟩:∃p,n=p+1:=⟨n-1,U⟩;rw[h p,hN1 p U];exact hN2 p U
theorem QG{pk k1 k2:PK}{l l' m r:List T}(h:∀n,parse (n+1) pk l=(parse n k1 l').bind (parse n k2))(h1:Ok k1 l' m)(h2:Ok k2 m r):Ok pk l r:=
 ok_two (fun n=>parse n k2) h h1 h2
theorem ZdG{k:NT}{a r:List T}(h:Ok (P k) (a++rp::r) (rp::r)):Ok (round k) (lp::(a++ [rp])++r) r:=by
 refine ok_two (k1:=P k) (l':=a++rp::r) (m:=rp::r) (fun _=>Zz rp) (fun n=>?_) h ⟨0,fun n _=>ZjC rp r⟩;simp[parse,Zz]
theorem XG{k:NT}{u:T}{r:List T}(h:ext k u=false):Fit k (u::r):=by
 intro v r' e;cases e;exact h
theorem Fit.mono{k k':NT}{r:List T}(h:Fit k r)(he:∀t,ext k' t=true->ext k t=true):Fit k' r:=by
 intro u r' e;have:=h u r' e;cases hx:ext k' u with
 |false=>rfl
 |true=>rw[he u hx]at this;cases this
theorem ZJT{k:NT}{r:List T}(hc:chains k=true)(h:Fit k r):Ok (R k) r r:=by
 cases r with
 |nil=>cases k<;>first|exact absurd hc ZPl|exact EM (fun n=>by simp[parse])
 |cons u r=>
  have hu:=h u r rfl;cases k<;>first|exact absurd hc ZPl|(cases u<;>first|exact absurd hu ZPl|exact EM (fun n=>by simp[parse,isSet,isAdd,isMul]))
def Reads(k:NT)(a:List T):Prop:=∀r r',Fit (base k) r'->Goes k r' r->Ok (P k) (a++r') r
theorem full{k:NT}{a r:List T}(h:Reads k a)(hf:Fit k r):Ok (P k) (a++r) r:=by
 refine h r r ?_ ?_
 ·refine hf.mono ?_;cases k<;>(intro t;cases t<;>decide)
 ·unfold Goes;cases hc:chains k with
  |true=>simp only[ZXR];exact ZJT hc hf
  |false=>simp
theorem Xg{k:NT}{r' r:List T}(h:Goes k r' r)(hc:chains k=false):r'=r:=by
 unfold Goes at h;exact ZWw
theorem VO{k:NT}{r' r:List T}(h:Goes k r' r)(hc:chains k=true):Ok (R k) r' r:=by
 unfold Goes at h;exact ZWw
theorem Zck{k:NT}{r' r:List T}(hc:chains k=true)(h:Ok (R k) r' r):Goes k r' r:=by
 unfold Goes;rw[hc];simpa using h
def Zgc(n:Nat)(r:List T):Option (List T):=match r with
 |Y2::r'=>parse n (P after) r'
 |group::r'=>(Zz Y7 r').bind (parse n (P Z6))
 |r=>some r
theorem ZfV(n:Nat)(l:List T):parse (n+1) (P tail) l=(parse n (P sources) l).bind (Zgc n):=by rw[parse];rfl
def ZgQ(n:Nat)(r:List T):Option (List T):=match r with
 |group::r'=>(Zz Y7 r').bind (parse n (P Z6))
 |r=>some r
theorem Zix(n:Nat)(l:List T):parse (n+1) (P after) l=(parse n (P cnd) l).bind (ZgQ n):=by rw[parse];rfl
def ZjS(n:Nat)(r:List T):Option (List T):=match r with
 |having::r'=>parse n (P cnd) r'
 |r=>some r
theorem Ziy(n:Nat)(l:List T):parse (n+1) (P Z6) l=(parse n (P Zu) l).bind (ZjS n):=by rw[parse];rfl
theorem Zmi{a:List T}(h:G basic a):∀l,a≠not_::l:=by
 intro l e;have key:∀{e' s:List T},G expr e'->e'++s≠not_::l:=by
  intro e' s he h2;obtain⟨t,r,rfl,ht⟩:=VM he;rw[List.cons_append]at h2;rw[(ZXk h2).1]at ht;exact absurd ht ZPl
 cases h with
 |VB _=>cases e
 |VG _=>cases e
 |VF h=>exact key h e
 |VE h=>exact key h e
 |VC h _=>exact key h e
 |VD h _=>exact key h e
 |QX _ h _=>exact key h e
 |J9 h _=>exact key h e
theorem ZfU{a:List T}(h:G expr a)(n:Nat)(s:List T):parse (n+1) (P basic) (a++s)=(parse n (P expr) (a++s)).bind (parse n ask):=by
 have ho:=Zvg h rfl s;obtain⟨t,l,rfl,ht⟩:=VM h;rw[List.cons_append]at ho ⊢;cases t<;>first|exact absurd ht ZPl|simp[parse,ho]
theorem reads{k:NT}{a:List T}(h:G k a):Reads k a:=by
 induction h with
 |Kt _ ih=>exact ZVw
 |Ke _ ih=>exact ZVw
 |Ei _ ih=>exact ZVw
 |KU _ ih=>exact ZVw
 |Uy _ ih=>exact ZVw
 |Ux _ ih=>exact ZVw
 |Uj _ ih=>exact ZVw
 |UA _ ih=>exact ZVw
 |Ku hu _ hb ih1 ih2=>
  rename_i a b u _;intro r r' hf hg;rw[ZW7];have hs:skip Xl (b++r')=b++r':=by
   obtain⟨t,b',rfl,ht⟩:=VM hb;cases t<;>first|exact absurd ht ZPl|rfl
  refine ih1 r _ (XG ZQC) (Zck rfl (QG (k1:=P core) (l':=b++r') (fun n=>?_) (full ih2 hf) (VO hg rfl)));rw[List.cons_append,parse,hu,ZWR rfl,hs]
 |Kv hu _ hb ih1 ih2=>
  rename_i a b u _;intro r r' hf hg;rw[ZW7];refine ih1 r _ (XG ZQC) (Zck rfl (QG (k1:=P core) (l':=b++r') (fun n=>?_) (full ih2 hf) (VO hg rfl)));rw[List.cons_append,parse,hu,ZWR rfl];rfl
 |VV _ _ ih1 ih2=>exact ZVD
 |UI _ _ ih1 ih2=>exact ZVD
 |Ud _ _ ih1 ih2=>exact ZVD
 |Uz _ _ ih1 ih2=>exact ZVD
 |Uw _ _ ih1 ih2=>exact ZVD
 |Ui hu _ _ ih1 ih2=>
  exact ZV2
 |UB hu _ _ ih1 ih2=>
  exact ZV2
 |U4 _ ih=>exact ZVz
 |Ue _ ih=>exact ZVB
 |Uf _ ih=>exact ZVB
 |VI hl _ ih1 ih2=>
  rename_i l t _;intro r r' hf hg;obtain rfl:=Xg hg rfl;have h1:Ok (P items) (l++YA::(t++r')) (YA::(t++r')):=full ih1 (XG rfl);obtain⟨N,hN⟩:=full ih2 (r:=r') (hf.mono ZPz);refine ok_two (k1:=P items) (l':=l++YA::(t++r')) (fun n r1=>(Zz YA r1).bind (parse n (P tail))) (fun n=>?_) h1 ⟨N,fun n hn=>by rw[ZjC];exact hN n hn⟩;obtain⟨t0,l0,rfl,ht⟩:=VM hl;cases t0<;>first|exact absurd ht ZPl|simp[parse,skip]
 |VJ hl _ ih1 ih2=>
  rename_i l t _;intro r r' hf hg;obtain rfl:=Xg hg rfl;have h1:Ok (P items) (l++YA::(t++r')) (YA::(t++r')):=full ih1 (XG rfl);obtain⟨N,hN⟩:=full ih2 (r:=r') (hf.mono ZPz);refine ok_two (k1:=P items) (l':=l++YA::(t++r')) (fun n r1=>(Zz YA r1).bind (parse n (P tail))) (fun n=>?_) h1 ⟨N,fun n hn=>by rw[ZjC];exact hN n hn⟩;obtain⟨t0,l0,rfl,ht⟩:=VM hl;cases t0<;>first|exact absurd ht ZPl|simp[parse,skip]
 |UM _ ih=>
  intro r r' hf hg;obtain rfl:=Xg hg rfl;refine ok_two Zgc (fun n=>ZfV n _) (full ih (hf.mono ZPz)) ⟨0,fun n _=>?_⟩;cases r' with
  |nil=>rfl
  |cons u r=>have:=hf u r rfl;cases u<;>first|exact absurd this ZPl|rfl
 |V5 _ _ ih1 ih2=>
  rename_i a b _ _;intro r r' hf hg;obtain rfl:=Xg hg rfl;rw[ZW7];exact ok_two (m:=Y2::(b++r')) Zgc (fun n=>ZfV n _) (full ih1 (XG rfl)) (full ih2 (hf.mono ZPz))
 |UL _ _ ih1 ih2=>
  rename_i a b _ _;intro r r' hf hg;obtain rfl:=Xg hg rfl;rw[ZW7];obtain⟨N,hN⟩:=full ih2 (r:=r') (hf.mono ZPz);exact ok_two (m:=group::Y7::(b++r')) Zgc (fun n=>ZfV n _) (full ih1 (XG rfl)) ⟨N,fun n hn=>by simp[Zgc,Zz];exact hN n hn⟩
 |U1 _ ih=>
  intro r r' hf hg;obtain rfl:=Xg hg rfl;refine ok_two ZgQ (fun n=>Zix n _) (full ih (hf.mono ZPz)) ⟨0,fun n _=>?_⟩;cases r' with
  |nil=>rfl
  |cons u r=>have:=hf u r rfl;cases u<;>first|exact absurd this ZPl|rfl
 |Ub _ _ ih1 ih2=>
  rename_i a b _ _;intro r r' hf hg;obtain rfl:=Xg hg rfl;rw[ZW7];obtain⟨N,hN⟩:=full ih2 (r:=r') (hf.mono ZPz);exact ok_two (m:=group::Y7::(b++r')) ZgQ (fun n=>Zix n _) (full ih1 (XG rfl)) ⟨N,fun n hn=>by simp[ZgQ,Zz];exact hN n hn⟩
 |Ur _ ih=>
  intro r r' hf hg;obtain rfl:=Xg hg rfl;refine ok_two ZjS (fun n=>Ziy n _) (full ih (hf.mono ZPz)) ⟨0,fun n _=>?_⟩;cases r' with
  |nil=>rfl
  |cons u r=>have:=hf u r rfl;cases u<;>first|exact absurd this ZPl|rfl
 |Us _ _ ih1 ih2=>
  rename_i a b _ _;intro r r' hf hg;obtain rfl:=Xg hg rfl;rw[ZW7];exact ok_two (m:=having::(b++r')) ZjS (fun n=>Ziy n _) (full ih1 (XG rfl)) (full ih2 (hf.mono ZPz))
 |item _ ih=>
  intro r r' hf hg;obtain rfl:=Xg hg rfl;refine QG (fun n=>ZPQ) (full ih (hf.mono ZPz)) (EM (fun n=>?_));cases r' with
  |nil=>rfl
  |cons u r=>have:=hf u r rfl;cases u<;>first|exact absurd this ZPl|rfl
 |Kh _ ih=>
  intro r r' hf hg;obtain rfl:=Xg hg rfl;rw[ZW7];exact QG (k1:=P expr) (k2:=PK.alias) (m:=Zx::name::r') (fun n=>by rw[parse];rfl) (full ih (XG rfl)) (EM (fun n=>ZPU))
 |src=>
  intro r r' hf hg;obtain rfl:=Xg hg rfl;refine VY (k:=PK.alias) (l':=r') (fun n=>ZPU) (EM (fun n=>?_));cases r' with
  |nil=>rfl
  |cons u r=>have:=hf u r rfl;cases u<;>first|exact absurd this ZPl|rfl
 |Ej=>
  intro r r' hf hg;obtain rfl:=Xg hg rfl;exact VY (k:=PK.alias) (l':=Zx::name::r') (fun n=>ZPU) (EM (fun n=>ZPU))
 |JF=>
  intro r r' hf hg;obtain rfl:=Xg hg rfl;refine EM (fun n=>?_);cases r' with
  |nil=>rfl
  |cons u r=>have:=hf u r rfl;cases u<;>first|exact absurd this ZPl|rfl
 |Uh=>exact ZVx
 |UD _ ih=>exact ZVA
 |UC hb ih=>
  intro r r' hf hg;obtain rfl:=Xg hg rfl;refine VY (k:=P basic) (fun n=>?_) (full ih (hf.mono ZPz));have hn:=Zmi hb;obtain⟨t,l,rfl,ht⟩:=VM hb;cases t<;>first|exact absurd ht ZPl|exact absurd rfl (hn _)|simp[parse]
 |VB _ ih=>exact ZVz
 |VG h ih=>
  rename_i a;intro r r' hf hg;obtain rfl:=Xg hg rfl;refine VY (fun n=>?_) (ZdG (full ih (XG rfl)));have ho:YX 0 (lp::(a++ [rp])++r')=true:=by
   rw[List.cons_append,QH 0 lp _ ZPl rfl,ZW7];exact Zxo h rfl _ _ ZPl
  rw[List.cons_append]at ho ⊢;simp only[parse,ho,ZXR]
 |VF h ih=>
  exact ZVC
 |VE h ih=>
  exact ZVC
 |VC h _ ih1 ih2=>
  exact ZV3
 |VD h _ ih1 ih2=>
  exact ZV3
 |QX hh h _ ih1 ih2=>
  rename_i a q u _;intro r r' hf hg;obtain rfl:=Xg hg rfl;rw[ZW7];refine QG (fun n=>ZfU h n _) (full ih1 (XG rfl)) (VY (k:=round query) (l':=lp::(q++ [rp])++r') (fun n=>?_) (ZdG (full ih2 (XG rfl))));cases u<;>first|exact absurd hh ZPl|simp[parse]
 |J9 h hb ih1 ih2=>
  rename_i a b;intro r r' hf hg;obtain rfl:=Xg hg rfl;rw[ZW7];refine QG (fun n=>ZfU h n _) (full ih1 (XG rfl)) (VY (k:=P expr) (l':=b++r') (fun n=>?_) (full ih2 (hf.mono ZPz)));obtain⟨t,l,rfl,ht⟩:=VM hb;cases t<;>first|exact absurd ht ZPl|simp[parse]
 |Vf _ ih=>exact ZVA
 |Zcm=>exact ZVy
 |Un=>exact ZVy
 |Uo=>exact ZVx
 |QO hu he ih=>
  rename_i a u;intro r r' hf hg;obtain rfl:=Xg hg rfl;have hin:Ok (P expr) (a++rp::r') (rp::r'):=full ih (XG rfl);cases u<;>first|exact absurd hu ZPl|skip
  ·refine ok_two (k1:=P expr) (l':=a++rp::r') (m:=rp::r') (fun _=>Zz rp) (fun n=>?_) hin ⟨0,fun n _=>ZjC rp r'⟩;obtain⟨t,l,rfl,ht⟩:=VM he;cases t<;>first|exact absurd ht ZPl|simp[parse,Zz]
  ·exact VY (k:=round expr) (l':=lp::(a++ [rp])++r') (fun n=>by simp[parse]) (ZdG hin)
 |Vg _ ih=>exact ZVz
 |Ve hc ih=>
  intro r r' hf hg;obtain rfl:=Xg hg rfl;refine VY (k:=P column) (fun n=>?_) (full ih hf);cases hc<;>simp[parse]
theorem ZI9(l:List T):(∃n,parse n (P query) l=some [])↔G query l:=by
 constructor
 ·rintro⟨n,h⟩;obtain⟨a,e,ha⟩:=took n _ _ _ h;rw[ZYb]at e;rw[e];exact ha
 ·intro h;obtain⟨N,hN⟩:=full (reads h) (r:= []) (fun u r' e=>ZPF);rw[ZYb]at hN;exact⟨N,hN N (ZWS _)⟩
def rank:PK->Nat
 |P query=>13|P core=>12|P tail=>11|P after=>10|P cnd=>9|P ZF=>8|P neg=>7|P basic=>6|P items=>6|P NT.item=>5|P expr=>4|P term=>3|P Z6=>3
 |P factor=>2|P sources=>2|P Zu=>2|P source=>1|P column=>1
 |R _=>0|ask=>0|round _=>0|PK.alias=>0
def mz(pk:PK)(l:List T):Nat:=20*l.length+rank pk
theorem bind_congr{α β:Type}{o:Option α}{f g:α->Option β}(h:∀x,o=some x->f x=g x):o.bind f=o.bind g:=by
 cases o with
 |none=>rfl
 |some x=>exact h x rfl
theorem shorter{n:Nat}{k:NT}{l x:List T}(h:parse n (P k) l=some x):x.length<l.length:=by
 obtain⟨a,rfl,ha⟩:=took n _ _ _ h;obtain⟨t,r,rfl,_⟩:=VM ha;simp;omega
theorem Ul{t:T}{l x:List T}(h:Zz t l=some x):x.length<l.length:=by
 rw[VK h];simp
theorem Zk6(t:T)(l:List T):(skip t l).length<=l.length:=by
 rcases Zpg t l with e|⟨e,_⟩
 ·have:=congrArg List.length e;exact ZWH
 ·rw[e];exact ZTg
def ZeQ(n:Nat)(l:List T):Option (List T):=match l with
 |star::r'=>some r'
 |r'=>parse n (P items) r'
theorem ZoD(n:Nat)(r:List T):parse (n+1) (P core) (Yk::r)=(ZeQ n (skip ZU r)).bind fun r1=>(Zz YA r1).bind (parse n (P tail)):=by
 rw[parse];rfl
theorem Zwr{n:Nat}{l x:List T}(h:ZeQ n l=some x):x.length<l.length:=by
 unfold ZeQ at h;split at h
 ·cases h;simp
 ·exact shorter h
def Zhb(n:Nat)(l:List T):Option (List T):=match l with
 |star::r2=>some r2
 |r2=>parse n (P expr) r2
theorem ZoC(n:Nat)(r:List T):parse (n+1) (P factor) (count::r)=(Zz lp r).bind fun r'=>(Zhb n r').bind (Zz rp):=by rw[parse];rfl
theorem stable(n:Nat):∀(pk:PK) (l:List T),mz pk l<n->parse n pk l=parse (n+1) pk l:=by
 induction n with
 |zero=>intro pk l h;omega
 |succ n ih=>
  have two:∀(k:NT) (k2:PK) (l:List T),mz (P k) l<n->rank k2<=19->(parse n (P k) l).bind (parse n k2)=(parse (n+1) (P k) l).bind (parse (n+1) k2):=by
   intro k k2 l h1 h2;rw[<-ih _ _ h1];refine bind_congr (fun x hx=>ih _ _ ?_);have:=shorter hx;unfold mz at h1 ⊢;omega
  have rnk:∀k,rank k<=13:=by intro k;cases k<;>simp[rank];(rename_i k;cases k<;>simp[rank])
  have less:∀(pk pk2:PK) (l l2:List T),mz pk l<n+1->l2.length<l.length->mz pk2 l2<n:=by
   intro pk pk2 l l2 h1 h2;have:=rnk pk2;unfold mz at *;omega
  intro pk l h;cases pk with
  |P k=>
   cases k with
   |query=>exact ZWz
   |core=>
    cases l with
    |nil=>simp[parse]
    |cons t r=>
     cases t<;>first|rfl|skip
     ·rw[ZoD,ZoD];have hsk:=Zk6 ZU r;have e:ZeQ n (skip ZU r)=ZeQ (n+1) (skip ZU r):=by
        unfold ZeQ;split
        ·rfl
        ·exact ih _ _ (less _ _ _ _ h ZRg)
      rw[<-e];refine bind_congr (fun x hx=>bind_congr (fun y hy=>ih _ _ (less _ _ _ _ h ?_)));have h1:=Zwr hx;have h2:=Ul hy;exact ZWK
     ·rw[parse,parse];exact ih _ _ ZPG
   |tail=>
    rw[ZfV,ZfV,<-ih _ _ ZPG];refine bind_congr (fun x hx=>?_);have hl:=shorter hx;unfold Zgc;split
    ·exact ih _ _ (less _ _ _ _ h ZRN)
    ·exact ZVW
    ·rfl
   |after=>
    rw[Zix,Zix,<-ih _ _ ZPG];refine bind_congr (fun x hx=>?_);have hl:=shorter hx;unfold ZgQ;split
    ·exact ZVW
    ·rfl
   |Z6=>
    rw[Ziy,Ziy,<-ih _ _ ZPG];refine bind_congr (fun x hx=>?_);have hl:=shorter hx;unfold ZjS;split
    ·exact ih _ _ (less _ _ _ _ h ZRN)
    ·rfl
   |items=>exact ZWz
   |item=>exact ZWz
   |sources=>exact ZWz
   |source=>
    rw[parse,parse];exact bind_congr (fun x hx=>ih _ _ (less _ _ _ _ h (Ul hx)))
   |Zu=>exact ZWz
   |column=>rw[parse,parse]
   |cnd=>exact ZWz
   |ZF=>exact ZWz
   |neg=>
    cases l with
    |nil=>simp only[parse];exact ih _ _ ZPG
    |cons t r=>
     have hb:=ih (P basic) (t::r) ZPG;have hn:=ih (P neg) r (less _ _ _ _ h ZPm);cases t<;>first|(simp only[parse];exact hn)|(simp only[parse];exact hb)|(rw[parse,parse];exact hb)
   |basic=>
    have two':=two expr ask l ZPG ZPl;have hr:=ih (round cnd) l ZPG;cases l with
    |nil=>simp only[parse];split<;>first|exact hr|exact two'
    |cons t r=>
     have he:=ih (round query) r (less _ _ _ _ h ZPm);cases t<;>(simp only[parse];first|exact he|(split<;>first|exact hr|exact two'))
   |expr=>exact ZWz
   |term=>exact ZWz
   |factor=>
    have hc:=ih (P column) l ZPG;have hr:=ih (round expr) l ZPG;cases l with
    |nil=>simp only[parse];simpa only[parse]using hc
    |cons t r=>
     have hf:=ih (P factor) r (less _ _ _ _ h ZPm);have ha:=ih (round expr) r (less _ _ _ _ h ZPm);have hcount:parse (n+1) (P factor) (count::r)=parse (n+1+1) (P factor) (count::r):=by
      rw[ZoC,ZoC];refine bind_congr (fun x hx=>?_);have hxl:=Ul hx;have e:Zhb n x=Zhb (n+1) x:=by
        unfold Zhb;split
        ·rfl
        ·exact ih _ _ (less _ _ _ _ h ZRg)
      rw[e]
     cases t<;>first|rfl|exact hcount|exact hc|(simp only[parse];first|done|exact hf|exact hr|exact ha|exact hc)
  |R k=>
   cases l with
   |nil=>cases k<;>simp[parse]
   |cons t r=>
    have tw:∀(k1:NT) (k2:PK) (x:List T),x.length<=r.length->(parse n (P k1) x).bind (parse n k2)=(parse (n+1) (P k1) x).bind (parse (n+1) k2):=fun k1 k2 x hx=>two k1 k2 x (less _ _ _ _ h ZPo) (ZW0 (rnk k2) ZPl);cases k with
    |query=>rw[parse,parse];split;exact tw _ _ _ (Zk6 _ _);rfl
    |expr=>rw[parse,parse];split;exact tw _ _ _ (ZWS _);rfl
    |term=>rw[parse,parse];split;exact tw _ _ _ (ZWS _);rfl
    |items=>cases t<;>first|rfl|(simp only[parse];exact tw _ _ _ (ZWS _))
    |sources=>cases t<;>first|rfl|(simp only[parse];exact tw _ _ _ (ZWS _))
    |Zu=>cases t<;>first|rfl|(simp only[parse];exact tw _ _ _ (ZWS _))
    |cnd=>cases t<;>first|rfl|(simp only[parse];exact tw _ _ _ (ZWS _))
    |ZF=>cases t<;>first|rfl|(simp only[parse];exact tw _ _ _ (ZWS _))
    |_=>simp[parse]
  |ask=>
   cases l with
   |nil=>simp[parse,Zz]
   |cons t r=>
    have hin:(Zz Yt (t::r)).bind (parse n (round query))=(Zz Yt (t::r)).bind (parse (n+1) (round query)):=bind_congr (fun x hx=>ih _ _ (less _ _ _ _ h (Ul hx)));have hnot:(Zz Yt r).bind (parse n (round query))=(Zz Yt r).bind (parse (n+1) (round query)):=bind_congr (fun x hx=>ih _ _ (less _ _ _ _ h (by have:=Ul hx;simp only[List.length_cons];omega)));have hq:∀x:List T,x.length<=r.length->∀k,parse n k x=parse (n+1) k x:=fun x hx k=>ih _ _ (less _ _ _ _ h ZRg);cases t<;>first
     |(simp only[parse];exact hnot)
     |(simp only[parse];exact hin)
     |(cases r with
       |nil=>first|(simp only[parse];done)|(simp only[parse];exact hq _ (ZWS _) _)
       |cons u r=>
         have h1:=hq r ZPm (round query);have h2:=hq (u::r) (ZWS _) (P expr);cases u<;>first|(simp only[parse];done)|(simp only[parse];exact h1)|(simp only[parse];exact h2))
  |round k=>
   rw[parse,parse];refine bind_congr (fun x hx=>?_);rw[<-ih _ _ (less _ _ _ _ h (Ul hx))]
  |alias=>simp only[parse]
theorem ZwF{pk:PK}{l:List T}(n m:Nat)(h:mz pk l<n)(hm:n<=m):parse m pk l=parse n pk l:=by
 induction hm with
 |refl=>rfl
 |step hm ih=>rw[<-stable _ pk l (ZXi h hm)];exact ih
def answer(l:List T):Option (List T):=parse (20*l.length+14) (P query) l
theorem ZzB(l:List T):answer l=some []↔G query l:=by
 constructor
 ·intro h;exact(ZI9 l).1 ⟨_,h⟩
 ·intro h;obtain⟨N,hN⟩:=full (reads h) (r:= []) (fun u r' e=>ZPF);rw[ZYb]at hN;have h1:=ZwF (pk:=P query) (l:=l) (20*l.length+14) (N+(20*l.length+14)) (by simp only[mz,rank];omega) U;unfold answer;rw[<-h1];exact hN _ U
end Go.Proofs.YthmlacabmlghbaaGreatDoor
