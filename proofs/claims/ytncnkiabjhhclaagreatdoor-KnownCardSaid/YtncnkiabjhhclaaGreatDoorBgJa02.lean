import Derived.Test.YtncnkiabjhhclaaGreatDoorBgGram
import Derived.Test.YtncnkiabjhhclaaGreatDoorBgJa00
set_option maxRecDepth 100000
set_option maxHeartbeats 8000000
set_option linter.all false
namespace Go.Proofs.YtncnkiabjhhclaaGreatDoor
section
open T NT
structure RW where
 sort:vS
 text:vS
 num:Int
def Cm:vS:= [107,101,121]
def CQ:vS:= [115,105,103,110]
def AQ:vS:= [110,97,109,101]
def Bu:vS:= [110,117,109]
def BH:vS:= [116,101,120,116]
def Gm:List (vS×T):= [([115,101,108,101,99,116],yO),([100,105,115,116,105,110,99,116],BB),([102,114,111,109],BN),([119,104,101,114,101],Ee),([103,114,111,117,112],group),([98,121],FT),([104,97,118,105,110,103],Fj),([97,115],xZ),([117,110,105,111,110],union),([105,110,116,101,114,115,101,99,116],inter),([101,120,99,101,112,116],exc),([97,108,108],Ak),([97,110,121],Zed),([97,110,100],FO),([111,114],JN),([110,111,116],xJ),([101,120,105,115,116,115],zK),([105,110],zU),([105,115],JM),([110,117,108,108],null),([99,111,117,110,116],count),([115,117,109],agg),([109,105,110],agg),([109,97,120],agg)]
def K6:List (vS×T):= [([40],lp),([41],rp),([44],CB),([46],dot),([42],star),([43],plus),([45],minus),([47],ZAh),([37],pct),([61],cmp),([60,62],cmp),([60],cmp),([60,61],cmp),([62],cmp),([62,61],cmp)]
def Ob(s:vS):T:=(Gm.lookup s).getD lit
def PM(s:vS):T:=(K6.lookup s).getD lit
def wI(w:RW):T:=if w.sort=Cm then Ob w.text else if w.sort=CQ then PM w.text else if w.sort=AQ then name else lit
def EU(w:RW):Prop:=(w.sort=Cm/\w.text∈Gm.map Prod.fst)\/(w.sort=CQ/\w.text∈K6.map Prod.fst)\/w.sort=AQ\/w.sort=Bu\/w.sort=BH
def XD(w:RW)(s:vS):Bool:=w.sort==Cm&&w.text==s
def ZgD(w:RW)(s:vS):Bool:=w.sort==CQ&&w.text==s
def ZNg:∀x∈Gm.map Prod.fst,∀y∈Gm,y.2≠agg->(decide (x=y.1)=decide (Ob x=y.2)):=by decide
def Zyl:∀x∈K6.map Prod.fst,∀y∈Gm,PM x≠y.2:=by decide
def ZNf:∀y∈Gm,y.2≠name/\y.2≠lit:=by decide
def ZNb{w}(hw:EU w){y:vS×T}(hy:y∈Gm)(ha:y.2≠agg):XD w y.1=decide (wI w=y.2):=by
 have hp:=ZNf y hy;unfold XD wI;rcases hw with⟨h,ht⟩|⟨h,ht⟩|h|h|h
 ·rw[h,nY rfl,<-ZNg _ ht y hy ha];simp[tX]
 ·rw[h,nU O,nY rfl,qd (Zyl _ ht y hy)];simp[Cm,CQ]
 ·rw[h,nU O,nU O,nY rfl,qd (λe=>hp.1 e.symm)];simp[Cm,AQ]
 ·rw[h,nU O,nU O,nU O,qd (λe=>hp.2 e.symm)];simp[Cm,Bu]
 ·rw[h,nU O,nU O,nU O,qd (λe=>hp.2 e.symm)];simp[Cm,BH]
def ZDO:∀x∈Gm.map Prod.fst,(Ob x=agg↔x= [115,117,109]\/x= [109,105,110]\/x= [109,97,120]):=by decide
def ZAM{w}(hw:EU w):wI w=agg↔XD w [115,117,109]=true\/XD w [109,105,110]=true\/XD w [109,97,120]=true:=by
 unfold XD wI;rcases hw with⟨h,ht⟩|⟨h,ht⟩|h|h|h
 ·rw[h,nY rfl,ZDO _ ht];simp
 ·rw[h,nU O,nY rfl];have:=Zyl _ ht ([115,117,109],agg) O;simp[Cm,CQ,this]
 ·simp[h,Cm,CQ,AQ,Bu,BH]
 ·simp[h,Cm,CQ,AQ,Bu,BH]
 ·simp[h,Cm,CQ,AQ,Bu,BH]
def ZAN{w}(hw:EU w):wI w=name↔w.sort=AQ:=by
 unfold wI;rcases hw with⟨h,ht⟩|⟨h,ht⟩|h|h|h
 ·rw[h,nY rfl];obtain⟨y,hy,e⟩:=qm.1 ht;have:=(show ∀x∈Gm.map Prod.fst,Ob x≠name by decide) _ ht;simp[this,Cm,AQ]
 ·rw[h,nU O,nY rfl];have:=(show ∀x∈K6.map Prod.fst,PM x≠name by decide) _ ht;simp[this,CQ,AQ]
 ·simp[h,Cm,CQ,AQ,Bu,BH]
 ·simp[h,Cm,CQ,AQ,Bu,BH]
 ·simp[h,Cm,CQ,AQ,Bu,BH]
def ZkA{w}(hw:EU w):wI w=lit↔w.sort=Bu\/w.sort=BH:=by
 unfold wI;rcases hw with⟨h,ht⟩|⟨h,ht⟩|h|h|h
 ·rw[h,nY rfl];have:=(show ∀x∈Gm.map Prod.fst,Ob x≠lit by decide) _ ht;simp[this,Cm,Bu,BH]
 ·rw[h,nU O,nY rfl];have:=(show ∀x∈K6.map Prod.fst,PM x≠lit by decide) _ ht;simp[this,CQ,Bu,BH]
 ·simp[h,Cm,CQ,AQ,Bu,BH]
 ·simp[h,Cm,CQ,AQ,Bu,BH]
 ·simp[h,Cm,CQ,AQ,Bu,BH]
structure Fl where
 kind:vS:= []
 sign:vS:= []
 text:vS:= []
 wW:vS:= []
 xZ:vS:= []
 num:Int:=0
 star:Bool:=false
 xJ:Bool:=false
 all:Bool:=false
 BB:Bool:=false
inductive Tr
 |nil
 |cons (h t:Tr)
 |node (f:Fl) (kids items Y6 xB Tv D8:Tr)
def Tr.kids:Tr->Tr| .node _ k _ _ _ _ _=>k|_=>.nil
def Tr.Y6:Tr->Tr| .node _ _ _ f _ _ _=>f|_=>.nil
def Tr.xB:Tr->Tr| .node _ _ _ _ g _ _=>g|_=>.nil
def Tr.Tv:Tr->Tr| .node _ _ _ _ _ w _=>w|_=>.nil
def Tr.D8:Tr->Tr| .node _ _ _ _ _ _ h=>h|_=>.nil
def Tr.len:Tr->Nat| .cons _ t=>t.len+1|_=>0
def Tr.snoc:Tr->Tr->Tr| .cons h t,x=>.cons h (t.snoc x)|_,x=>.cons x .nil
def nd(f:Fl)(kids:Tr):Tr:=.node f kids .nil .nil .nil .nil .nil
def l1(a:Tr):Tr:=.cons a .nil
def l2(a b:Tr):Tr:=.cons a (.cons b .nil)
def Ma(star BB:Bool)(items t:Tr):Tr:=.node {kind:= [115,101,108,101,99,116],star:=star,BB:=BB} .nil items t.Y6 t.xB t.Tv t.D8
def Dn(Y6 xB Tv D8:Tr):Tr:=.node {kind:= [116,97,105,108]} .nil .nil Y6 xB Tv D8
inductive D:NT->List RW->Tr->Prop
 |XQ {a t}:D core a t->D query a t
 |XR {a b u x y}:isSet (wI u)=true->D query a x->D core b y->D query (a++u::b) (nd {kind:=u.text} (l2 x y))
 |XT {a b u v x y}:isSet (wI u)=true->wI v=Ak->D query a x->D core b y->D query (a++u::v::b) (nd {kind:=u.text,all:=true} (l2 x y))
 |Wy {a o c x}:wI o=lp->wI c=rp->D query a x->D core (o::(a++ [c])) x
 |WB {s r f t x}:wI s=yO->wI r=star->wI f=BN->D tail t x->D core (s::r::f::t) (Ma true false .nil x)
 |WC {s d r f t x}:wI s=yO->wI d=BB->wI r=star->wI f=BN->D tail t x->D core (s::d::r::f::t) (Ma true true .nil x)
 |Wz {s l f t x y}:wI s=yO->wI f=BN->D items l y->D tail t x->D core (s::(l++f::t)) (Ma false false y.kids x)
 |WA {s d l f t x y}:wI s=yO->wI d=BB->wI f=BN->D items l y->D tail t x->D core (s::d::(l++f::t)) (Ma false true y.kids x)
 |X8 {a x}:D sources a x->D tail a (Dn x.kids .nil .nil .nil)
 |VG {a b u x y}:wI u=Ee->D sources a x->D after b y->D tail (a++u::b) (Dn x.kids y.xB y.Tv y.D8)
 |X7 {a b u v x y}:wI u=group->wI v=FT->D sources a x->D Dj b y->D tail (a++u::v::b) (Dn x.kids y.xB y.Tv y.D8)
 |Wo {a x}:D xR a x->D after a (Dn .nil .nil x .nil)
 |Wq {a b u v x y}:wI u=group->wI v=FT->D xR a x->D Dj b y->D after (a++u::v::b) (Dn y.Y6 y.xB x y.D8)
 |WN {a x}:D yw a x->D Dj a (Dn .nil x.kids .nil .nil)
 |WO {a b u x y}:wI u=Fj->D yw a x->D xR b y->D Dj (a++u::b) (Dn .nil x.kids .nil y)
 |Xx {a x}:D NT.item a x->D items a (nd {kind:= [114,111,119]} (l1 x))
 |Xw {a b u x y}:wI u=CB->D items a x->D NT.item b y->D items (a++u::b) (nd {kind:= [114,111,119]} (x.kids.snoc y))
 |item {a x}:D expr a x->D NT.item a (nd {kind:= [105,116,101,109]} (l1 x))
 |XA {a u v x}:wI u=T.xZ->wI v=name->D expr a x->D NT.item (a++ [u,v]) (nd {kind:= [105,116,101,109],xZ:=v.text} (l1 x))
 |XY {a x}:D source a x->D sources a (nd {kind:= [114,111,119]} (l1 x))
 |XX {a b u x y}:wI u=CB->D sources a x->D source b y->D sources (a++u::b) (nd {kind:= [114,111,119]} (x.kids.snoc y))
 |src {u}:wI u=name->D source [u] (nd {kind:= [115,111,117,114,99,101],text:=u.text} .nil)
 |X5 {u v w}:wI u=name->wI v=T.xZ->wI w=name->D source [u,v,w] (nd {kind:= [115,111,117,114,99,101],text:=u.text,xZ:=w.text} .nil)
 |Wx {a x}:D column a x->D yw a (nd {kind:= [114,111,119]} (l1 x))
 |Ww {a b u x y}:wI u=CB->D yw a x->D column b y->D yw (a++u::b) (nd {kind:= [114,111,119]} (x.kids.snoc y))
 |zO {u}:wI u=name->D column [u] (nd {kind:= [99,111,108,117,109,110],text:=u.text} .nil)
 |R9 {u v w}:wI u=name->wI v=dot->wI w=name->D column [u,v,w] (nd {kind:= [99,111,108,117,109,110],wW:=u.text,text:=w.text} .nil)
 |Vb {a x}:D yM a x->D xR a x
 |Vd {a b u x y}:wI u=JN->D xR a x->D yM b y->D xR (a++u::b) (nd {kind:=u.text} (l2 x y))
 |Va {a x}:D neg a x->D yM a x
 |U9 {a b u x y}:wI u=FO->D yM a x->D neg b y->D yM (a++u::b) (nd {kind:=u.text} (l2 x y))
 |Vh {a u x}:wI u=T.xJ->D neg a x->D neg (u::a) (nd {kind:= [110,111,116]} (l1 x))
 |Vg {a x}:D basic a x->D neg a x
 |RX {a u o c x}:wI u=zK->wI o=lp->wI c=rp->D query a x->D basic (u::o::(a++ [c])) (nd {kind:= [101,120,105,115,116,115]} (l1 x))
 |R5 {a o c x}:wI o=lp->wI c=rp->D xR a x->D basic (o::(a++ [c])) x
 |R4 {a u v x}:wI u=JM->wI v=null->D expr a x->D basic (a++ [u,v]) (nd {kind:= [105,115,110,117,108,108]} (l1 x))
 |R3 {a u n v x}:wI u=JM->wI n=T.xJ->wI v=null->D expr a x->D basic (a++ [u,n,v]) (nd {kind:= [105,115,110,117,108,108],xJ:=true} (l1 x))
 |RY {a q u o c x y}:wI u=zU->wI o=lp->wI c=rp->D expr a x->D query q y->D basic (a++u::o::(q++ [c])) (nd {kind:= [105,110]} (l2 x y))
 |RZ {a q n u o c x y}:wI n=T.xJ->wI u=zU->wI o=lp->wI c=rp->D expr a x->D query q y->D basic (a++n::u::o::(q++ [c])) (nd {kind:= [105,110],xJ:=true} (l2 x y))
 |Qf {a q u h o c x y}:wI u=cmp->U8 (wI h)=true->wI o=lp->wI c=rp->D expr a x->D query q y->D basic (a++u::h::o::(q++ [c])) (nd {kind:=h.text,sign:=u.text} (l2 x y))
 |RV {a b u x y}:wI u=cmp->D expr a x->D expr b y->D basic (a++u::b) (nd {kind:= [99,111,109,112,97,114,101],sign:=u.text} (l2 x y))
 |Sb {a x}:D term a x->D expr a x
 |Sa {a b u x y}:isAdd (wI u)=true->D expr a x->D term b y->D expr (a++u::b) (nd {kind:=u.text} (l2 x y))
 |Ta {a x}:D yh a x->D term a x
 |Tc {a b u x y}:isMul (wI u)=true->D term a x->D yh b y->D term (a++u::b) (nd {kind:=u.text} (l2 x y))
 |Sd {a u x}:wI u=minus->D yh a x->D yh (u::a) (nd {kind:= [110,101,103]} (l1 x))
 |ZmE {u}:wI u=lit->u.sort=Bu->D yh [u] (nd {kind:=Bu,num:=u.num} .nil)
 |ZmF {u}:wI u=lit->u.sort=BH->D yh [u] (nd {kind:=BH,text:=u.text} .nil)
 |Si {u}:wI u=null->D yh [u] (nd {kind:= [110,117,108,108]} .nil)
 |Sk {u o s c}:wI u=count->wI o=lp->wI s=star->wI c=rp->D yh [u,o,s,c] (nd {kind:= [99,111,117,110,116],star:=true} .nil)
 |Qi {a u o c x}:isAgg (wI u)=true->wI o=lp->wI c=rp->D expr a x->D yh (u::o::(a++ [c])) (nd {kind:=u.text} (l1 x))
 |Sj {a o c x}:wI o=lp->wI c=rp->D expr a x->D yh (o::(a++ [c])) x
 |Sc {a x}:D column a x->D yh a x
def D.g{k}{l}{t}(h:D k l t):G k (l.map wI):=by
 induction h
 case XQ=>(try simp only[oo,oq,oF, *]);apply G.XQ<;>assumption
 case XR=>(try simp only[oo,oq,oF, *]);apply G.XR<;>assumption
 case XT=>(try simp only[oo,oq,oF, *]);apply G.XT<;>assumption
 case Wy=>(try simp only[oo,oq,oF, *]);apply G.Wy<;>assumption
 case WB=>(try simp only[oo,oq,oF, *]);apply G.WB<;>assumption
 case WC=>(try simp only[oo,oq,oF, *]);apply G.WC<;>assumption
 case Wz=>(try simp only[oo,oq,oF, *]);apply G.Wz<;>assumption
 case WA=>(try simp only[oo,oq,oF, *]);apply G.WA<;>assumption
 case X8=>(try simp only[oo,oq,oF, *]);apply G.X8<;>assumption
 case VG=>(try simp only[oo,oq,oF, *]);apply G.VG<;>assumption
 case X7=>(try simp only[oo,oq,oF, *]);apply G.X7<;>assumption
 case Wo=>(try simp only[oo,oq,oF, *]);apply G.Wo<;>assumption
 case Wq=>(try simp only[oo,oq,oF, *]);apply G.Wq<;>assumption
 case WN=>(try simp only[oo,oq,oF, *]);apply G.WN<;>assumption
 case WO=>(try simp only[oo,oq,oF, *]);apply G.WO<;>assumption
 case Xx=>(try simp only[oo,oq,oF, *]);apply G.Xx<;>assumption
 case Xw=>(try simp only[oo,oq,oF, *]);apply G.Xw<;>assumption
 case item=>(try simp only[oo,oq,oF, *]);apply G.item<;>assumption
 case XA=>(try simp only[oo,oq,oF, *]);apply G.XA<;>assumption
 case XY=>(try simp only[oo,oq,oF, *]);apply G.XY<;>assumption
 case XX=>(try simp only[oo,oq,oF, *]);apply G.XX<;>assumption
 case src=>(try simp only[oo,oq,oF, *]);apply G.src<;>assumption
 case X5=>(try simp only[oo,oq,oF, *]);apply G.X5<;>assumption
 case Wx=>(try simp only[oo,oq,oF, *]);apply G.Wx<;>assumption
 case Ww=>(try simp only[oo,oq,oF, *]);apply G.Ww<;>assumption
 case zO=>(try simp only[oo,oq,oF, *]);apply G.zO<;>assumption
 case R9=>(try simp only[oo,oq,oF, *]);apply G.R9<;>assumption
 case Vb=>(try simp only[oo,oq,oF, *]);apply G.Vb<;>assumption
 case Vd=>(try simp only[oo,oq,oF, *]);apply G.Vd<;>assumption
 case Va=>(try simp only[oo,oq,oF, *]);apply G.Va<;>assumption
 case U9=>(try simp only[oo,oq,oF, *]);apply G.U9<;>assumption
 case Vh=>(try simp only[oo,oq,oF, *]);apply G.Vh<;>assumption
 case Vg=>(try simp only[oo,oq,oF, *]);apply G.Vg<;>assumption
 case RX=>(try simp only[oo,oq,oF, *]);apply G.RX<;>assumption
 case R5=>(try simp only[oo,oq,oF, *]);apply G.R5<;>assumption
 case R4=>(try simp only[oo,oq,oF, *]);apply G.R4<;>assumption
 case R3=>(try simp only[oo,oq,oF, *]);apply G.R3<;>assumption
 case RY=>(try simp only[oo,oq,oF, *]);apply G.RY<;>assumption
 case RZ=>(try simp only[oo,oq,oF, *]);apply G.RZ<;>assumption
 case Qf=>(try simp only[oo,oq,oF, *]);apply G.Qf<;>assumption
 case RV=>(try simp only[oo,oq,oF, *]);apply G.RV<;>assumption
 case Sb=>(try simp only[oo,oq,oF, *]);apply G.Sb<;>assumption
 case Sa=>(try simp only[oo,oq,oF, *]);apply G.Sa<;>assumption
 case Ta=>(try simp only[oo,oq,oF, *]);apply G.Ta<;>assumption
 case Tc=>(try simp only[oo,oq,oF, *]);apply G.Tc<;>assumption
 case Sd=>(try simp only[oo,oq,oF, *]);apply G.Sd<;>assumption
 case ZmE|ZmF=>(try simp only[oo,oq,oF, *]);apply G.Y4<;>assumption
 case Si=>(try simp only[oo,oq,oF, *]);apply G.Si<;>assumption
 case Sk=>(try simp only[oo,oq,oF, *]);apply G.Sk<;>assumption
 case Qi=>(try simp only[oo,oq,oF, *]);apply G.Qi<;>assumption
 case Sj=>(try simp only[oo,oq,oF, *]);apply G.Sj<;>assumption
 case Sc=>(try simp only[oo,oq,oF, *]);apply G.Sc<;>assumption
end
def Rb:vS->vS
 | []=> []
 |c::r=>if c=39 then 39::39::Rb r else c::Rb r
def quote(s:vS):vS:=39::(Rb s++ [39])
def Qk:List vS:= [[99,111,117,110,116], [115,117,109], [109,105,110], [109,97,120]]
def Kv:List vS:= [[117,110,105,111,110], [105,110,116,101,114,115,101,99,116], [101,120,99,101,112,116]]
def Tr.isNode:Tr->Bool| .node _ _ _ _ _ _ _=>true|_=>false
end Go.Proofs.YtncnkiabjhhclaaGreatDoor
