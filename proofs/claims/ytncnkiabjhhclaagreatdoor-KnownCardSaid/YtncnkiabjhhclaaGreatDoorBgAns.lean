import Derived.Test.YtncnkiabjhhclaaGreatDoorBgGram
set_option maxRecDepth 100000
set_option maxHeartbeats 8000000
set_option linter.all false
namespace Go.Proofs.YtncnkiabjhhclaaGreatDoor
variable{N:Nat}{pk:PK}
open T NT PK
def vW(pk:PK)(l:List T):Option (List T):=parse (mz pk l+1) pk l
def ZRT(pk):Es pk<=13:=by cases pk<;>simp[Es];(rename_i k;cases k<;>simp[Es])
def zR{l:List T}(h:20*l.length+20<=N):parse N pk l=vW pk l:=by
 have hr:=ZRT pk;have hm:mz pk l=20*l.length+Es pk:=rfl;exact ZSS (mz pk l+1) N Z Z
def Ah{l:List T}{X:Option (List T)}(h:∀N,20*l.length+100<=N->parse (N+1) pk l=X):vW pk l=X:=by
 rw[<-h _ (nV _)];exact(zR Z).symm
def I7{k:NT}{l:List T}(h:20*l.length+20<=N):(parse N (P k) l).bind (parse N pk)=(vW (P k) l).bind (vW pk):=by
 rw[bind_congr (λx hx=>zR (N:=N) (pk:=pk) (by have:=shorter hx;omega)),zR h]
def YW{k:NT}{l x:List T}(h:vW (P k) l=some x):x.length<l.length:=shorter h
def ZsE(l):vW (P query) l=(vW (P core) l).bind (vW (R query)):=Ah λN hN=>by
 rw[parse,I7 Z]
def Zsp(u)(r):vW (R query) (u::r)=if isSet u then(vW (P core) (skip Ak r)).bind (vW (R query))else some (u::r):=Ah λN hN=>by
 simp only[List.length_cons]at hN;rw[parse,I7 (by have:=Zks Ak r;omega)]
def Ws(k)(h:k=query\/k=items\/k=sources\/k=yw\/k=xR\/k=yM\/k=expr\/k=term):vW (R k) []=some []:=by
 rcases h with h|h|h|h|h|h|h|h<;>subst h<;>rfl
def Zec(k)(l):vW (round k) l=(xU lp l).bind λr=>(vW (P k) r).bind (xU rp):=Ah λN hN=>by
 rw[parse];refine bind_congr (λx hx=>?_);rw[zR fC]
def ZD2(r):vW (P core) (lp::r)=vW (round query) (lp::r):=Ah λN hN=>by
 rw[parse,zR Z]
def Zqh(l:List T):Option (List T):=match l with
 |star::r'=>some r'
 |r'=>vW (P items) r'
def ZsA(r):vW (P core) (yO::r)=(Zqh (skip BB r)).bind λr1=>(xU BN r1).bind (vW (P tail)):=Ah λN hN=>by
 simp only[List.length_cons]at hN;rw[ZpM];have hs:=Zks BB r;have e:ZaJ N (skip BB r)=Zqh (skip BB r):=by
  have Ay:20*(skip BB r).length+20<=N:=Z
  generalize skip BB r=y at Ay;cases y with
  |nil=>exact zR Ay
  |cons u y=>cases u<;>first|exact zR Ay|rfl
 rw[<-e];refine bind_congr (λx hx=>bind_congr (λy hy=>zR ?_));have h1:=Zz8 hx;have h2:=KL hy;omega
def ZD4{u:T}{r:List T}(h1:u≠lp)(h2:u≠yO):vW (P core) (u::r)=none:=Ah λN hN=>by
 cases u<;>first|rfl|exact absurd rfl h1|exact absurd rfl h2
def ZD3:vW (P core) []=none:=Ah λN hN=>rfl
def Zky(l:List T):Option (List T):=match l with
 |Ee::r'=>vW (P after) r'
 |group::r'=>(xU FT r').bind (vW (P Dj))
 |r=>some r
def Ue(l:List T):Option (List T):=match l with
 |group::r'=>(xU FT r').bind (vW (P Dj))
 |r=>some r
def Za(l:List T):Option (List T):=match l with
 |Fj::r'=>vW (P xR) r'
 |r=>some r
def ZsH(l):vW (P tail) l=(vW (P sources) l).bind Zky:=Ah λN hN=>by
 rw[Zc3,zR Z];refine bind_congr (λx hx=>?_);have hl:=YW hx;cases x with
 |nil=>rfl
 |cons u x=>
  simp only[List.length_cons]at hl;cases u<;>first|exact zR Z|exact bind_congr (λy hy=>zR (by have:=KL hy;omega))|rfl
def ZDW(l):vW (P after) l=(vW (P xR) l).bind Ue:=Ah λN hN=>by
 rw[Zgp,zR Z];refine bind_congr (λx hx=>?_);have hl:=YW hx;cases x with
 |nil=>rfl
 |cons u x=>
  simp only[List.length_cons]at hl;cases u<;>first|exact bind_congr (λy hy=>zR (by have:=KL hy;omega))|rfl
def ZEc(l):vW (P Dj) l=(vW (P yw) l).bind Za:=Ah λN hN=>by
 rw[Zgq,zR Z];refine bind_congr (λx hx=>?_);have hl:=YW hx;cases x with
 |nil=>rfl
 |cons u x=>
  simp only[List.length_cons]at hl;cases u<;>first|exact zR Z|rfl
def ZsD(l):vW (P items) l=(vW (P NT.item) l).bind (vW (R items)):=Ah λN hN=>bu
def ZsG(l):vW (P sources) l=(vW (P source) l).bind (vW (R sources)):=Ah λN hN=>bu
def Zmp(l:List T):Option (List T):=match l with
 |dot::r'=>xU name r'
 |r=>some r
def Zsy(l):vW (P yw) l=(vW (P column) l).bind (vW (R yw)):=Ah λN hN=>bu
def Zsw(l):vW (P xR) l=(vW (P yM) l).bind (vW (R xR)):=Ah λN hN=>bu
def Zsz(l):vW (P yM) l=(vW (P neg) l).bind (vW (R yM)):=Ah λN hN=>bu
def ZsB(l):vW (P expr) l=(vW (P term) l).bind (vW (R expr)):=Ah λN hN=>bu
def ZsI(l):vW (P term) l=(vW (P yh) l).bind (vW (R term)):=Ah λN hN=>bu
def ZsC(l):vW (P NT.item) l=(vW (P expr) l).bind (vW PK.alias):=Ah λN hN=>bu
def ZsF(l):vW (P source) l=(xU name l).bind (vW PK.alias):=Ah λN hN=>by
 rw[parse];exact bind_congr (λx hx=>zR fC)
def Zso(u)(r):vW (R items) (u::r)=if u=CB then(vW (P NT.item) r).bind (vW (R items))else some (u::r):=Ah λN hN=>by
 cases u<;>first|(simp only[parse];rw[I7 cZ];rfl)|(simp only[parse];rfl)
def Zsq(u)(r):vW (R sources) (u::r)=if u=CB then(vW (P source) r).bind (vW (R sources))else some (u::r):=Ah λN hN=>by
 cases u<;>first|(simp only[parse];rw[I7 cZ];rfl)|(simp only[parse];rfl)
def Zsl(u)(r):vW (R yw) (u::r)=if u=CB then(vW (P column) r).bind (vW (R yw))else some (u::r):=Ah λN hN=>by
 cases u<;>first|(simp only[parse];rw[I7 cZ];rfl)|(simp only[parse];rfl)
def Zsk(u)(r):vW (R xR) (u::r)=if u=JN then(vW (P yM) r).bind (vW (R xR))else some (u::r):=Ah λN hN=>by
 cases u<;>first|(simp only[parse];rw[I7 cZ];rfl)|(simp only[parse];rfl)
def Zsm(u)(r):vW (R yM) (u::r)=if u=FO then(vW (P neg) r).bind (vW (R yM))else some (u::r):=Ah λN hN=>by
 cases u<;>first|(simp only[parse];rw[I7 cZ];rfl)|(simp only[parse];rfl)
def Zsn(u)(r):vW (R expr) (u::r)=if isAdd u then(vW (P term) r).bind (vW (R expr))else some (u::r):=Ah λN hN=>by
 simp only[List.length_cons]at hN;rw[parse,I7 Z]
def Zsr(u)(r):vW (R term) (u::r)=if isMul u then(vW (P yh) r).bind (vW (R term))else some (u::r):=Ah λN hN=>by
 simp only[List.length_cons]at hN;rw[parse,I7 Z]
def Zss(l:List T):vW PK.alias l=match l with|xZ::r=>xU name r|r=>some r:=Ah λN hN=>by
 cases l with
 |nil=>simp only[parse]
 |cons u r=>cases u<;>simp only[parse]
def Zsx(l):vW (P column) l=(xU name l).bind Zmp:=Ah λN hN=>by
 simp only[parse];refine bind_congr (λx _=>?_);cases x with
 |nil=>rfl
 |cons u x=>cases u<;>rfl
def ZEf(r):vW (P neg) (xJ::r)=vW (P neg) r:=Ah λN hN=>by simp only[List.length_cons]at hN;rw[parse,zR Z]
def ZEe(l)(h:∀r,l≠xJ::r):vW (P neg) l=vW (P basic) l:=Ah λN hN=>by
 cases l with
 |nil=>simp only[parse];exact zR Z
 |cons u r=>cases u<;>first|exact absurd rfl (h r)|(simp only[parse];exact zR Z)
def ZD1(r):vW (P basic) (zK::r)=vW (round query) r:=Ah λN hN=>by simp only[List.length_cons]at hN;rw[parse,zR Z]
def ZD0(l)(h:∀r,l≠zK::r):vW (P basic) l=if BJ 0 l then vW (round xR) l else(vW (P expr) l).bind (vW ask):=Ah λN hN=>by
 cases l with
 |nil=>simp only[parse];rw[zR Z,I7 Z]
 |cons u r=>cases u<;>first|exact absurd rfl (h r)|(simp only[parse];rw[zR Z,I7 Z])
def Zsu(r):vW ask (JM::xJ::r)=xU null r:=Ah λN hN=>aH
def Zst(r)(h:∀r',r≠xJ::r'):vW ask (JM::r)=xU null r:=Ah λN hN=>by
 cases r with
 |nil=>rfl
 |cons u r=>cases u<;>first|exact absurd rfl (h r)|rfl
def ZDX(r):vW ask (cmp::Zed::r)=vW (round query) r:=Ah λN hN=>by simp only[List.length_cons]at hN;rw[parse,zR Z]
def ZDY(r)(h:∀u r',r=u::r'->U8 u=false):vW ask (cmp::r)=vW (P expr) r:=Ah λN hN=>by
 cases r with
 |nil=>simp only[parse];exact zR gT
 |cons u r=>cases u<;>first|exact absurd (h _ _ rfl) O|(simp only[parse];exact zR gT)
def Zsv(r):vW ask (xJ::r)=(xU zU r).bind (vW (round query)):=Ah λN hN=>by
 rw[parse];exact bind_congr (λx hx=>zR (by have:=KL hx;simp only[List.length_cons]at hN;omega))
def ZDZ(l)(h:∀u r,l=u::r->u≠JM/\u≠cmp/\u≠xJ):vW ask l=(xU zU l).bind (vW (round query)):=Ah λN hN=>by
 have e:(xU zU l).bind (parse N (round query))=(xU zU l).bind (vW (round query)):=bind_congr (λx hx=>zR fC);cases l with
 |nil=>rfl
 |cons u r=>cases u<;>first|exact absurd rfl (h _ _ rfl).1|exact absurd rfl (h _ _ rfl).2.1|exact absurd rfl (h _ _ rfl).2.2|(simp only[parse];exact e)
def ZEa(r):vW (P yh) (minus::r)=vW (P yh) r:=Ah λN hN=>by simp only[List.length_cons]at hN;rw[parse,zR Z]
def ZEb(r):vW (P yh) (null::r)=some r:=Ah λN hN=>aH
def ZD8(r):vW (P yh) (lit::r)=some r:=Ah λN hN=>aH
def ZD9(r):vW (P yh) (lp::r)=vW (round expr) (lp::r):=Ah λN hN=>by rw[parse,zR Z]
def ZhZ(l:List T):Option (List T):=match l with
 |star::r2=>some r2
 |r2=>vW (P expr) r2
def ZD6(r):vW (P yh) (count::r)=(xU lp r).bind λr'=>(ZhZ r').bind (xU rp):=Ah λN hN=>by
 simp only[List.length_cons]at hN;rw[ZpL];refine bind_congr (λx hx=>?_);have Dx:=KL hx;have e:Zeu N x=ZhZ x:=by
  cases x with
  |nil=>exact zR (by simp only[List.length_nil];omega)
  |cons u x=>cases u<;>first|exact zR (by simp only[List.length_cons]at Dx ⊢;omega)|rfl
 rw[e]
def ZD5(r):vW (P yh) (agg::r)=vW (round expr) r:=Ah λN hN=>by simp only[List.length_cons]at hN;rw[parse,zR Z]
def ZD7(l)(h:∀u r,l=u::r->u≠minus/\u≠null/\u≠lit/\u≠lp/\u≠count/\u≠agg):vW (P yh) l=vW (P column) l:=Ah λN hN=>by
 cases l with
 |nil=>simp only[parse];exact zR Z
 |cons u r=>
  obtain⟨h1,h2,h3,h4,h5,h6⟩:=h u r rfl;cases u<;>first|exact absurd rfl h1|exact absurd rfl h2|exact absurd rfl h3|exact absurd rfl h4|exact absurd rfl h5|exact absurd rfl h6|(simp only[parse];exact zR Z)
end Go.Proofs.YtncnkiabjhhclaaGreatDoor
