import Derived.Test.YthmlacabmlghbaaGreatDoorBgCut
import Derived.Test.YthmlacabmlghbaaGreatDoorBgPlain
set_option maxRecDepth 100000
set_option maxHeartbeats 8000000
set_option linter.unusedSimpArgs false
set_option linter.unusedVariables false
namespace Go.Proofs.YthmlacabmlghbaaGreatDoor
section
open T NT
structure RW where
 sort:Za
 text:Za
 num:Int
def YC:Za:= [107,101,121]
def ZT:Za:= [115,105,103,110]
def Yz:Za:= [110,97,109,101]
def Yh:Za:= [110,117,109]
def Yd:Za:= [116,101,120,116]
def YE:List (Za×T):= [([115,101,108,101,99,116],Yk),([100,105,115,116,105,110,99,116],ZU),([102,114,111,109],YA),([119,104,101,114,101],Y2),([103,114,111,117,112],group),([98,121],Y7),([104,97,118,105,110,103],having),([97,115],Zx),([117,110,105,111,110],union),([105,110,116,101,114,115,101,99,116],inter),([101,120,99,101,112,116],exc),([97,108,108],Xl),([97,110,121],Zay),([97,110,100],Qa),([111,114],Qr),([110,111,116],not_),([101,120,105,115,116,115],Xu),([105,110],Yt),([105,115],Qe),([110,117,108,108],null),([99,111,117,110,116],count),([115,117,109],agg),([109,105,110],agg),([109,97,120],agg)]
def Y0:List (Za×T):= [([40],lp),([41],rp),([44],comma),([46],dot),([42],star),([43],plus),([45],minus),([47],slash),([37],pct),([61],cmp),([60,62],cmp),([60],cmp),([60,61],cmp),([62],cmp),([62,61],cmp)]
def Je(s:Za):T:=(YE.lookup s).getD lit
def Vt(s:Za):T:=(Y0.lookup s).getD lit
def tok(w:RW):T:=if w.sort=YC then Je w.text else if w.sort=ZT then Vt w.text else if w.sort=Yz then name else lit
def Yi(w:RW):Prop:=(w.sort=YC/\w.text∈YE.map Prod.fst)\/(w.sort=ZT/\w.text∈Y0.map Prod.fst)\/w.sort=Yz\/w.sort=Yh\/w.sort=Yd
def Vn(w:RW)(s:Za):Bool:=w.sort==YC&&w.text==s
def JY(w:RW)(s:Za):Bool:=w.sort==ZT&&w.text==s
theorem ZGV:∀x∈YE.map Prod.fst,∀y∈YE,y.2≠agg->(decide (x=y.1)=decide (Je x=y.2)):=by decide
theorem ZuR:∀x∈Y0.map Prod.fst,∀y∈YE,Vt x≠y.2:=by decide
theorem ZK9:∀x∈Y0.map Prod.fst,∀y∈Y0,y.2≠cmp->(decide (x=y.1)=decide (Vt x=y.2)):=by decide
theorem ZK6:∀x∈YE.map Prod.fst,∀y∈Y0,Je x≠y.2:=by decide
theorem ZGT:∀y∈YE,y.2≠name/\y.2≠lit:=by decide
theorem ZK8:∀y∈Y0,y.2≠name/\y.2≠lit:=by decide
theorem Zoj{w:RW}(hw:Yi w){y:Za×T}(hy:y∈YE)(ha:y.2≠agg):Vn w y.1=decide (tok w=y.2):=by
 have hp:=ZGT y hy;unfold Vn tok;rcases hw with⟨h,ht⟩|⟨h,ht⟩|h|h|h
 ·rw[h,ZWR rfl,<-ZGV _ ht y hy ha];simp[Bool.beq_eq_decide_eq]
 ·rw[h,ZWQ ZPl,ZWR rfl,ZXD (ZuR _ ht y hy)];simp[YC,ZT]
 ·rw[h,ZWQ ZPl,ZWQ ZPl,ZWR rfl,ZXD (fun e=>hp.1 e.symm)];simp[YC,Yz]
 ·rw[h,ZWQ ZPl,ZWQ ZPl,ZWQ ZPl,ZXD (fun e=>hp.2 e.symm)];simp[YC,Yh]
 ·rw[h,ZWQ ZPl,ZWQ ZPl,ZWQ ZPl,ZXD (fun e=>hp.2 e.symm)];simp[YC,Yd]
theorem Zww{w:RW}(hw:Yi w){y:Za×T}(hy:y∈Y0)(ha:y.2≠cmp):JY w y.1=decide (tok w=y.2):=by
 have hp:=ZK8 y hy;unfold JY tok;rcases hw with⟨h,ht⟩|⟨h,ht⟩|h|h|h
 ·rw[h,ZWR rfl,ZXD (ZK6 _ ht y hy)];simp[YC,ZT]
 ·rw[h,ZWQ ZPl,ZWR rfl,<-ZK9 _ ht y hy ha];simp[Bool.beq_eq_decide_eq]
 ·rw[h,ZWQ ZPl,ZWQ ZPl,ZWR rfl,ZXD (fun e=>hp.1 e.symm)];simp[ZT,Yz]
 ·rw[h,ZWQ ZPl,ZWQ ZPl,ZWQ ZPl,ZXD (fun e=>hp.2 e.symm)];simp[ZT,Yh]
 ·rw[h,ZWQ ZPl,ZWQ ZPl,ZWQ ZPl,ZXD (fun e=>hp.2 e.symm)];simp[ZT,Yd]
theorem Zy3:∀x∈YE.map Prod.fst,(Je x=agg↔x= [115,117,109]\/x= [109,105,110]\/x= [109,97,120]):=by decide
theorem ZwZ{w:RW}(hw:Yi w):tok w=agg↔Vn w [115,117,109]=true\/Vn w [109,105,110]=true\/Vn w [109,97,120]=true:=by
 unfold Vn tok;rcases hw with⟨h,ht⟩|⟨h,ht⟩|h|h|h
 ·rw[h,ZWR rfl,Zy3 _ ht];simp
 ·rw[h,ZWQ ZPl,ZWR rfl];have:=ZuR _ ht ([115,117,109],agg) ZPl;simp[YC,ZT,this]
 ·simp[h,YC,ZT,Yz,Yh,Yd]
 ·simp[h,YC,ZT,Yz,Yh,Yd]
 ·simp[h,YC,ZT,Yz,Yh,Yd]
theorem ZpB{w:RW}(hw:Yi w):tok w=name↔w.sort=Yz:=by
 unfold tok;rcases hw with⟨h,ht⟩|⟨h,ht⟩|h|h|h
 ·rw[h,ZWR rfl];obtain⟨y,hy,e⟩:=ZXj.1 ht;have:Je w.text≠name:=(show ∀x∈YE.map Prod.fst,Je x≠name by decide) _ ht;simp[this,YC,Yz]
 ·rw[h,ZWQ ZPl,ZWR rfl];have:Vt w.text≠name:=(show ∀x∈Y0.map Prod.fst,Vt x≠name by decide) _ ht;simp[this,ZT,Yz]
 ·simp[h,YC,ZT,Yz,Yh,Yd]
 ·simp[h,YC,ZT,Yz,Yh,Yd]
 ·simp[h,YC,ZT,Yz,Yh,Yd]
theorem ZeV{w:RW}(hw:Yi w):tok w=lit↔w.sort=Yh\/w.sort=Yd:=by
 unfold tok;rcases hw with⟨h,ht⟩|⟨h,ht⟩|h|h|h
 ·rw[h,ZWR rfl];have:Je w.text≠lit:=(show ∀x∈YE.map Prod.fst,Je x≠lit by decide) _ ht;simp[this,YC,Yh,Yd]
 ·rw[h,ZWQ ZPl,ZWR rfl];have:Vt w.text≠lit:=(show ∀x∈Y0.map Prod.fst,Vt x≠lit by decide) _ ht;simp[this,ZT,Yh,Yd]
 ·simp[h,YC,ZT,Yz,Yh,Yd]
 ·simp[h,YC,ZT,Yz,Yh,Yd]
 ·simp[h,YC,ZT,Yz,Yh,Yd]
structure Fl where
 kind:Za:= []
 sign:Za:= []
 text:Za:= []
 Zd:Za:= []
 Zx:Za:= []
 num:Int:=0
 star:Bool:=false
 not_:Bool:=false
 all:Bool:=false
 ZU:Bool:=false
inductive Tr
 |nil
 |cons (h t:Tr)
 |node (f:Fl) (kids items Jo YB Q6 Qn:Tr)
def Tr.kids:Tr->Tr| .node _ k _ _ _ _ _=>k|_=>.nil
def Tr.Jo:Tr->Tr| .node _ _ _ f _ _ _=>f|_=>.nil
def Tr.YB:Tr->Tr| .node _ _ _ _ g _ _=>g|_=>.nil
def Tr.Q6:Tr->Tr| .node _ _ _ _ _ w _=>w|_=>.nil
def Tr.Qn:Tr->Tr| .node _ _ _ _ _ _ h=>h|_=>.nil
def Tr.len:Tr->Nat| .cons _ t=>t.len+1|_=>0
def Tr.snoc:Tr->Tr->Tr| .cons h t,x=>.cons h (t.snoc x)|_,x=>.cons x .nil
def nd(f:Fl)(kids:Tr):Tr:=.node f kids .nil .nil .nil .nil .nil
def l1(a:Tr):Tr:=.cons a .nil
def l2(a b:Tr):Tr:=.cons a (.cons b .nil)
def XV(star ZU:Bool)(items t:Tr):Tr:=.node {kind:= [115,101,108,101,99,116],star:=star,ZU:=ZU} .nil items t.Jo t.YB t.Q6 t.Qn
def ZV(Jo YB Q6 Qn:Tr):Tr:=.node {kind:= [116,97,105,108]} .nil .nil Jo YB Q6 Qn
inductive D:NT->List RW->Tr->Prop
 |Kt {a t}:D core a t->D query a t
 |Ku {a b u x y}:isSet (tok u)=true->D query a x->D core b y->D query (a++u::b) (nd {kind:=u.text} (l2 x y))
 |Kv {a b u v x y}:isSet (tok u)=true->tok v=Xl->D query a x->D core b y->D query (a++u::v::b) (nd {kind:=u.text,all:=true} (l2 x y))
 |U4 {a o c x}:tok o=lp->tok c=rp->D query a x->D core (o::(a++ [c])) x
 |Ue {s r f t x}:tok s=Yk->tok r=star->tok f=YA->D tail t x->D core (s::r::f::t) (XV true false .nil x)
 |Uf {s d r f t x}:tok s=Yk->tok d=ZU->tok r=star->tok f=YA->D tail t x->D core (s::d::r::f::t) (XV true true .nil x)
 |VI {s l f t x y}:tok s=Yk->tok f=YA->D items l y->D tail t x->D core (s::(l++f::t)) (XV false false y.kids x)
 |VJ {s d l f t x y}:tok s=Yk->tok d=ZU->tok f=YA->D items l y->D tail t x->D core (s::d::(l++f::t)) (XV false true y.kids x)
 |UM {a x}:D sources a x->D tail a (ZV x.kids .nil .nil .nil)
 |V5 {a b u x y}:tok u=Y2->D sources a x->D after b y->D tail (a++u::b) (ZV x.kids y.YB y.Q6 y.Qn)
 |UL {a b u v x y}:tok u=group->tok v=Y7->D sources a x->D Z6 b y->D tail (a++u::v::b) (ZV x.kids y.YB y.Q6 y.Qn)
 |U1 {a x}:D cnd a x->D after a (ZV .nil .nil x .nil)
 |Ub {a b u v x y}:tok u=group->tok v=Y7->D cnd a x->D Z6 b y->D after (a++u::v::b) (ZV y.Jo y.YB x y.Qn)
 |Ur {a x}:D Zu a x->D Z6 a (ZV .nil x.kids .nil .nil)
 |Us {a b u x y}:tok u=having->D Zu a x->D cnd b y->D Z6 (a++u::b) (ZV .nil x.kids .nil y)
 |Ke {a x}:D NT.item a x->D items a (nd {kind:= [114,111,119]} (l1 x))
 |VV {a b u x y}:tok u=comma->D items a x->D NT.item b y->D items (a++u::b) (nd {kind:= [114,111,119]} (x.kids.snoc y))
 |item {a x}:D expr a x->D NT.item a (nd {kind:= [105,116,101,109]} (l1 x))
 |Kh {a u v x}:tok u=T.Zx->tok v=name->D expr a x->D NT.item (a++ [u,v]) (nd {kind:= [105,116,101,109],Zx:=v.text} (l1 x))
 |Ei {a x}:D source a x->D sources a (nd {kind:= [114,111,119]} (l1 x))
 |UI {a b u x y}:tok u=comma->D sources a x->D source b y->D sources (a++u::b) (nd {kind:= [114,111,119]} (x.kids.snoc y))
 |src {u}:tok u=name->D source [u] (nd {kind:= [115,111,117,114,99,101],text:=u.text} .nil)
 |Ej {u v w}:tok u=name->tok v=T.Zx->tok w=name->D source [u,v,w] (nd {kind:= [115,111,117,114,99,101],text:=u.text,Zx:=w.text} .nil)
 |KU {a x}:D column a x->D Zu a (nd {kind:= [114,111,119]} (l1 x))
 |Ud {a b u x y}:tok u=comma->D Zu a x->D column b y->D Zu (a++u::b) (nd {kind:= [114,111,119]} (x.kids.snoc y))
 |JF {u}:tok u=name->D column [u] (nd {kind:= [99,111,108,117,109,110],text:=u.text} .nil)
 |Uh {u v w}:tok u=name->tok v=dot->tok w=name->D column [u,v,w] (nd {kind:= [99,111,108,117,109,110],Zd:=u.text,text:=w.text} .nil)
 |Uy {a x}:D ZF a x->D cnd a x
 |Uz {a b u x y}:tok u=Qr->D cnd a x->D ZF b y->D cnd (a++u::b) (nd {kind:=u.text} (l2 x y))
 |Ux {a x}:D neg a x->D ZF a x
 |Uw {a b u x y}:tok u=Qa->D ZF a x->D neg b y->D ZF (a++u::b) (nd {kind:=u.text} (l2 x y))
 |UD {a u x}:tok u=T.not_->D neg a x->D neg (u::a) (nd {kind:= [110,111,116]} (l1 x))
 |UC {a x}:D basic a x->D neg a x
 |VB {a u o c x}:tok u=Xu->tok o=lp->tok c=rp->D query a x->D basic (u::o::(a++ [c])) (nd {kind:= [101,120,105,115,116,115]} (l1 x))
 |VG {a o c x}:tok o=lp->tok c=rp->D cnd a x->D basic (o::(a++ [c])) x
 |VF {a u v x}:tok u=Qe->tok v=null->D expr a x->D basic (a++ [u,v]) (nd {kind:= [105,115,110,117,108,108]} (l1 x))
 |VE {a u n v x}:tok u=Qe->tok n=T.not_->tok v=null->D expr a x->D basic (a++ [u,n,v]) (nd {kind:= [105,115,110,117,108,108],not_:=true} (l1 x))
 |VC {a q u o c x y}:tok u=Yt->tok o=lp->tok c=rp->D expr a x->D query q y->D basic (a++u::o::(q++ [c])) (nd {kind:= [105,110]} (l2 x y))
 |VD {a q n u o c x y}:tok n=T.not_->tok u=Yt->tok o=lp->tok c=rp->D expr a x->D query q y->D basic (a++n::u::o::(q++ [c])) (nd {kind:= [105,110],not_:=true} (l2 x y))
 |QX {a q u h o c x y}:tok u=cmp->XI (tok h)=true->tok o=lp->tok c=rp->D expr a x->D query q y->D basic (a++u::h::o::(q++ [c])) (nd {kind:=h.text,sign:=u.text} (l2 x y))
 |J9 {a b u x y}:tok u=cmp->D expr a x->D expr b y->D basic (a++u::b) (nd {kind:= [99,111,109,112,97,114,101],sign:=u.text} (l2 x y))
 |Uj {a x}:D term a x->D expr a x
 |Ui {a b u x y}:isAdd (tok u)=true->D expr a x->D term b y->D expr (a++u::b) (nd {kind:=u.text} (l2 x y))
 |UA {a x}:D factor a x->D term a x
 |UB {a b u x y}:isMul (tok u)=true->D term a x->D factor b y->D term (a++u::b) (nd {kind:=u.text} (l2 x y))
 |Vf {a u x}:tok u=minus->D factor a x->D factor (u::a) (nd {kind:= [110,101,103]} (l1 x))
 |Zea {u}:tok u=lit->u.sort=Yh->D factor [u] (nd {kind:=Yh,num:=u.num} .nil)
 |Zeb {u}:tok u=lit->u.sort=Yd->D factor [u] (nd {kind:=Yd,text:=u.text} .nil)
 |Un {u}:tok u=null->D factor [u] (nd {kind:= [110,117,108,108]} .nil)
 |Uo {u o s c}:tok u=count->tok o=lp->tok s=star->tok c=rp->D factor [u,o,s,c] (nd {kind:= [99,111,117,110,116],star:=true} .nil)
 |QO {a u o c x}:isAgg (tok u)=true->tok o=lp->tok c=rp->D expr a x->D factor (u::o::(a++ [c])) (nd {kind:=u.text} (l1 x))
 |Vg {a o c x}:tok o=lp->tok c=rp->D expr a x->D factor (o::(a++ [c])) x
 |Ve {a x}:D column a x->D factor a x
theorem D.g{k:NT}{l:List RW}{t:Tr}(h:D k l t):G k (l.map tok):=by
 induction h
 case Kt=>(try simp only[ZWY,ZWZ,ZW2, *]);apply G.Kt<;>assumption
 case Ku=>(try simp only[ZWY,ZWZ,ZW2, *]);apply G.Ku<;>assumption
 case Kv=>(try simp only[ZWY,ZWZ,ZW2, *]);apply G.Kv<;>assumption
 case U4=>(try simp only[ZWY,ZWZ,ZW2, *]);apply G.U4<;>assumption
 case Ue=>(try simp only[ZWY,ZWZ,ZW2, *]);apply G.Ue<;>assumption
 case Uf=>(try simp only[ZWY,ZWZ,ZW2, *]);apply G.Uf<;>assumption
 case VI=>(try simp only[ZWY,ZWZ,ZW2, *]);apply G.VI<;>assumption
 case VJ=>(try simp only[ZWY,ZWZ,ZW2, *]);apply G.VJ<;>assumption
 case UM=>(try simp only[ZWY,ZWZ,ZW2, *]);apply G.UM<;>assumption
 case V5=>(try simp only[ZWY,ZWZ,ZW2, *]);apply G.V5<;>assumption
 case UL=>(try simp only[ZWY,ZWZ,ZW2, *]);apply G.UL<;>assumption
 case U1=>(try simp only[ZWY,ZWZ,ZW2, *]);apply G.U1<;>assumption
 case Ub=>(try simp only[ZWY,ZWZ,ZW2, *]);apply G.Ub<;>assumption
 case Ur=>(try simp only[ZWY,ZWZ,ZW2, *]);apply G.Ur<;>assumption
 case Us=>(try simp only[ZWY,ZWZ,ZW2, *]);apply G.Us<;>assumption
 case Ke=>(try simp only[ZWY,ZWZ,ZW2, *]);apply G.Ke<;>assumption
 case VV=>(try simp only[ZWY,ZWZ,ZW2, *]);apply G.VV<;>assumption
 case item=>(try simp only[ZWY,ZWZ,ZW2, *]);apply G.item<;>assumption
 case Kh=>(try simp only[ZWY,ZWZ,ZW2, *]);apply G.Kh<;>assumption
 case Ei=>(try simp only[ZWY,ZWZ,ZW2, *]);apply G.Ei<;>assumption
 case UI=>(try simp only[ZWY,ZWZ,ZW2, *]);apply G.UI<;>assumption
 case src=>(try simp only[ZWY,ZWZ,ZW2, *]);apply G.src<;>assumption
 case Ej=>(try simp only[ZWY,ZWZ,ZW2, *]);apply G.Ej<;>assumption
 case KU=>(try simp only[ZWY,ZWZ,ZW2, *]);apply G.KU<;>assumption
 case Ud=>(try simp only[ZWY,ZWZ,ZW2, *]);apply G.Ud<;>assumption
 case JF=>(try simp only[ZWY,ZWZ,ZW2, *]);apply G.JF<;>assumption
 case Uh=>(try simp only[ZWY,ZWZ,ZW2, *]);apply G.Uh<;>assumption
 case Uy=>(try simp only[ZWY,ZWZ,ZW2, *]);apply G.Uy<;>assumption
 case Uz=>(try simp only[ZWY,ZWZ,ZW2, *]);apply G.Uz<;>assumption
 case Ux=>(try simp only[ZWY,ZWZ,ZW2, *]);apply G.Ux<;>assumption
 case Uw=>(try simp only[ZWY,ZWZ,ZW2, *]);apply G.Uw<;>assumption
 case UD=>(try simp only[ZWY,ZWZ,ZW2, *]);apply G.UD<;>assumption
 case UC=>(try simp only[ZWY,ZWZ,ZW2, *]);apply G.UC<;>assumption
 case VB=>(try simp only[ZWY,ZWZ,ZW2, *]);apply G.VB<;>assumption
 case VG=>(try simp only[ZWY,ZWZ,ZW2, *]);apply G.VG<;>assumption
 case VF=>(try simp only[ZWY,ZWZ,ZW2, *]);apply G.VF<;>assumption
 case VE=>(try simp only[ZWY,ZWZ,ZW2, *]);apply G.VE<;>assumption
 case VC=>(try simp only[ZWY,ZWZ,ZW2, *]);apply G.VC<;>assumption
 case VD=>(try simp only[ZWY,ZWZ,ZW2, *]);apply G.VD<;>assumption
 case QX=>(try simp only[ZWY,ZWZ,ZW2, *]);apply G.QX<;>assumption
 case J9=>(try simp only[ZWY,ZWZ,ZW2, *]);apply G.J9<;>assumption
 case Uj=>(try simp only[ZWY,ZWZ,ZW2, *]);apply G.Uj<;>assumption
 case Ui=>(try simp only[ZWY,ZWZ,ZW2, *]);apply G.Ui<;>assumption
 case UA=>(try simp only[ZWY,ZWZ,ZW2, *]);apply G.UA<;>assumption
 case UB=>(try simp only[ZWY,ZWZ,ZW2, *]);apply G.UB<;>assumption
 case Vf=>(try simp only[ZWY,ZWZ,ZW2, *]);apply G.Vf<;>assumption
 case Zea|Zeb=>(try simp only[ZWY,ZWZ,ZW2, *]);apply G.Zcm<;>assumption
 case Un=>(try simp only[ZWY,ZWZ,ZW2, *]);apply G.Un<;>assumption
 case Uo=>(try simp only[ZWY,ZWZ,ZW2, *]);apply G.Uo<;>assumption
 case QO=>(try simp only[ZWY,ZWZ,ZW2, *]);apply G.QO<;>assumption
 case Vg=>(try simp only[ZWY,ZWZ,ZW2, *]);apply G.Vg<;>assumption
 case Ve=>(try simp only[ZWY,ZWZ,ZW2, *]);apply G.Ve<;>assumption
end
def Jc(n:Nat):Za:=if n<10 then[UInt8.ofNat (48+n)]else Jc (n/10)++ [UInt8.ofNat (48+n%10)]
termination_by n
decreasing_by omega
def dec(n:Int):Za:=if n<0 then 45::Jc n.natAbs else Jc n.natAbs
def ZfY:Za->Za
 | []=> []
 |c::r=>if c=39 then 39::39::ZfY r else c::ZfY r
def quote(s:Za):Za:=39::(ZfY s++ [39])
def commas:List Za->Za
 | []=> []
 | [a]=>a
 |a::r=>a++ [44,32]++commas r
def asP(s name:Za):Za:=if name= []then s else s++ [32,97,115,32]++name
def notP(b:Bool):Za:=if b then[110,111,116,32]else[]
def Zws(f:Fl)(is fs gs:List Za)(w h:Option Za):Za:=
 [115,101,108,101,99,116,32]++(if f.ZU then[100,105,115,116,105,110,99,116,32]else[])++(if f.star then[42]else[])++commas is++ [32,102,114,111,109,32]++commas fs++(match w with|some x=> [32,119,104,101,114,101,32]++x|none=> [])++(if gs= []then[]else[32,103,114,111,117,112,32,98,121,32]++commas gs)++(match h with|some x=> [32,104,97,118,105,110,103,32]++x|none=> [])
def Yf:List Za:= [[99,111,117,110,116], [115,117,109], [109,105,110], [109,97,120]]
def UK:List Za:= [[117,110,105,111,110], [105,110,116,101,114,115,101,99,116], [101,120,99,101,112,116]]
def prN(f:Fl)(ks is fs gs:List Za)(w h:Option Za):Za:=
 if f.kind= [110,117,109]then dec f.num
 else if f.kind= [116,101,120,116]then quote f.text
 else if f.kind= [110,117,108,108]then[110,117,108,108]
 else if f.kind= [99,111,108,117,109,110]then(if f.Zd= []then f.text else f.Zd++ [46]++f.text)
 else if f.kind= [110,101,103]then[40,45]++ks.getD 0 []++ [41]
 else if f.kind∈Yf then(if f.star then[99,111,117,110,116,40,42,41]else f.kind++ [40]++ks.getD 0 []++ [41])
 else if f.kind= [110,111,116]then[40,110,111,116,32]++ks.getD 0 []++ [41]
 else if f.kind= [101,120,105,115,116,115]then[101,120,105,115,116,115,32,40]++ks.getD 0 []++ [41]
 else if f.kind= [105,115,110,117,108,108]then ks.getD 0 []++ [32,105,115,32]++notP f.not_++ [110,117,108,108]
 else if f.kind= [105,110]then ks.getD 0 []++ [32]++notP f.not_++ [105,110,32,40]++ks.getD 1 []++ [41]
 else if f.kind= [97,110,121]\/f.kind= [97,108,108]then ks.getD 0 []++ [32]++f.sign++ [32]++f.kind++ [32,40]++ks.getD 1 []++ [41]
 else if f.kind= [99,111,109,112,97,114,101]then ks.getD 0 []++ [32]++f.sign++ [32]++ks.getD 1 []
 else if f.kind= [105,116,101,109]then asP (ks.getD 0 []) f.Zx
 else if f.kind= [115,111,117,114,99,101]then asP f.text f.Zx
 else if f.kind= [115,101,108,101,99,116]then Zws f is fs gs w h
 else if f.kind∈UK/\f.all=true then[40]++ks.getD 0 []++ [32]++f.kind++ [32,97,108,108,32]++ks.getD 1 []++ [41]
 else[40]++ks.getD 0 []++ [32]++f.kind++ [32]++ks.getD 1 []++ [41]
def Tr.isNode:Tr->Bool| .node _ _ _ _ _ _ _=>true|_=>false
mutual
def pr:Tr->Za
 | .node f k i fr g w h=>prN f (Xj k) (Xj i) (Xj fr) (Xj g) (if w.isNode then some (pr w)else none) (if h.isNode then some (pr h)else none)
 | .nil=> []
 | .cons _ _=> []
def Xj:Tr->List Za
 | .cons h t=>pr h::Xj t
 | .nil=> []
 | .node _ _ _ _ _ _ _=> []
end
def arity(f:Fl):Nat:=
 if f.kind= [110,117,109]\/f.kind= [116,101,120,116]\/f.kind= [110,117,108,108]\/f.kind= [99,111,108,117,109,110]\/f.kind= [115,111,117,114,99,101]\/f.kind= [115,101,108,101,99,116]then 0
 else if f.kind= [110,101,103]\/f.kind= [110,111,116]\/f.kind= [101,120,105,115,116,115]\/f.kind= [105,115,110,117,108,108]\/f.kind= [105,116,101,109]then 1
 else if f.kind∈Yf then(if f.star then 0 else 1)
 else 2
structure Ze2 (f:Fl):Prop where
 kind:f.kind.length<=400
 sign:f.sign.length<=400
 text:f.text.length<=400
 Zd:f.Zd.length<=400
 Zx:f.Zx.length<=400
 lo: -9223372036854775808<=f.num
 hi:f.num<=9223372036854775807
structure ZyM (f:Fl) (k i fr g w h:Tr):Prop where
 ar:arity f<=k.len
 fl:Ze2 f
 pr:(pr (.node f k i fr g w h)).length<=400000
 ci:(commas (Xj i)).length<=400000
 cf:(commas (Xj fr)).length<=400000
 cg:(commas (Xj g)).length<=400000
 lk:k.len<=400
 li:i.len<=400
 lf:fr.len<=400
 lg:g.len<=400
mutual
def Good:Tr->Prop
 | .node f k i fr g w h=>ZyM f k i fr g w h/\Yp k/\Yp i/\Yp fr/\Yp g/\(w.isNode=true->Good w)/\(h.isNode=true->Good h)/\(w= .nil\/w.isNode=true)/\(h= .nil\/h.isNode=true)
 | .nil=>False
 | .cons _ _=>False
def Yp:Tr->Prop
 | .cons h t=>Good h/\Yp t
 | .nil=>True
 | .node _ _ _ _ _ _ _=>False
end
def elems:Tr->List Tr
 | .cons h t=>h::elems t
 |_=> []
theorem Ey:∀t:Tr,(elems t).length=t.len
 | .cons h t=>by simp[elems,Tr.len,Ey t]
 | .nil=>rfl
 | .node _ _ _ _ _ _ _=>rfl
theorem Zdo:∀t:Tr,Yp t->∀x∈elems t,Good x
 | .cons h t,hg,x,hx=>by
  rw[Yp]at hg;rcases ZW3.1 hx with rfl|hx
  ·exact hg.1
  ·exact Zdo t hg.2 x hx
 | .nil,_,x,hx=>ZQc
 | .node _ _ _ _ _ _ _,_,x,hx=>by simp[elems]at hx
end Go.Proofs.YthmlacabmlghbaaGreatDoor
