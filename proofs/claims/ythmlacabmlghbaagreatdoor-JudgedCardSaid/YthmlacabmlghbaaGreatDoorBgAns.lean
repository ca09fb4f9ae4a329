import Derived.Test.YthmlacabmlghbaaGreatDoorBgGram
set_option maxRecDepth 100000
set_option maxHeartbeats 8000000
set_option linter.unusedSimpArgs false
set_option linter.unusedVariables false
namespace Go.Proofs.YthmlacabmlghbaaGreatDoor
open T NT PK
def ans(pk:PK)(l:List T):Option (List T):=parse (mz pk l+1) pk l
theorem ZJY(pk:PK):rank pk<=13:=by cases pk<;>simp[rank];(rename_i k;cases k<;>simp[rank])
theorem big{N:Nat}{pk:PK}{l:List T}(h:20*l.length+20<=N):parse N pk l=ans pk l:=by
 have hr:=ZJY pk;have hm:mz pk l=20*l.length+rank pk:=rfl;exact ZwF (mz pk l+1) N U U
theorem Yw{pk:PK}{l:List T}{X:Option (List T)}(h:∀N,20*l.length+100<=N->parse (N+1) pk l=X):ans pk l=X:=by
 rw[<-h _ (ZWS _)];exact(big U).symm
theorem JN{k:NT}{pk:PK}{l:List T}{N:Nat}(h:20*l.length+20<=N):(parse N (P k) l).bind (parse N pk)=(ans (P k) l).bind (ans pk):=by
 rw[bind_congr (fun x hx=>big (N:=N) (pk:=pk) (by have:=shorter hx;omega)),big h]
theorem Zd1{k:NT}{l x:List T}(h:ans (P k) l=some x):x.length<l.length:=shorter h
theorem Zq1(l:List T):ans (P query) l=(ans (P core) l).bind (ans (R query)):=Yw fun N hN=>by
 rw[parse,JN U]
theorem ZqM(u:T)(r:List T):ans (R query) (u::r)=if isSet u then(ans (P core) (skip Xl r)).bind (ans (R query))else some (u::r):=Yw fun N hN=>by
 simp only[List.length_cons]at hN;rw[parse,JN (by have:=Zk6 Xl r;omega)]
theorem Zdf(k:NT)(h:k=query\/k=items\/k=sources\/k=Zu\/k=cnd\/k=ZF\/k=expr\/k=term):ans (R k) []=some []:=by
 rcases h with h|h|h|h|h|h|h|h<;>subst h<;>rfl
theorem ZgT(k:NT)(l:List T):ans (round k) l=(Zz lp l).bind fun r=>(ans (P k) r).bind (Zz rp):=Yw fun N hN=>by
 rw[parse];refine bind_congr (fun x hx=>?_);rw[big ZRw]
theorem Zzo(r:List T):ans (P core) (lp::r)=ans (round query) (lp::r):=Yw fun N hN=>by
 rw[parse,big U]
def Zpb(l:List T):Option (List T):=match l with
 |star::r'=>some r'
 |r'=>ans (P items) r'
theorem ZqX(r:List T):ans (P core) (Yk::r)=(Zpb (skip ZU r)).bind fun r1=>(Zz YA r1).bind (ans (P tail)):=Yw fun N hN=>by
 simp only[List.length_cons]at hN;rw[ZoD];have hs:=Zk6 ZU r;have e:ZeQ N (skip ZU r)=Zpb (skip ZU r):=by
  have hs2:20*(skip ZU r).length+20<=N:=U
  generalize skip ZU r=y at hs2;cases y with
  |nil=>exact big hs2
  |cons u y=>cases u<;>first|exact big hs2|rfl
 rw[<-e];refine bind_congr (fun x hx=>bind_congr (fun y hy=>big ?_));have h1:=Zwr hx;have h2:=Ul hy;omega
theorem Zzq{u:T}{r:List T}(h1:u≠lp)(h2:u≠Yk):ans (P core) (u::r)=none:=Yw fun N hN=>by
 cases u<;>first|rfl|exact absurd rfl h1|exact absurd rfl h2
theorem Zzp:ans (P core) []=none:=Yw fun N hN=>rfl
def tailA(l:List T):Option (List T):=match l with
 |Y2::r'=>ans (P after) r'
 |group::r'=>(Zz Y7 r').bind (ans (P Z6))
 |r=>some r
def Zcf(l:List T):Option (List T):=match l with
 |group::r'=>(Zz Y7 r').bind (ans (P Z6))
 |r=>some r
def Zed(l:List T):Option (List T):=match l with
 |having::r'=>ans (P cnd) r'
 |r=>some r
theorem Zq4(l:List T):ans (P tail) l=(ans (P sources) l).bind tailA:=Yw fun N hN=>by
 rw[ZfV,big U];refine bind_congr (fun x hx=>?_);have hl:=Zd1 hx;cases x with
 |nil=>rfl
 |cons u x=>
  simp only[List.length_cons]at hl;cases u<;>first|exact big U|exact bind_congr (fun y hy=>big (by have:=Ul hy;omega))|rfl
theorem Zzh(l:List T):ans (P after) l=(ans (P cnd) l).bind Zcf:=Yw fun N hN=>by
 rw[Zix,big U];refine bind_congr (fun x hx=>?_);have hl:=Zd1 hx;cases x with
 |nil=>rfl
 |cons u x=>
  simp only[List.length_cons]at hl;cases u<;>first|exact bind_congr (fun y hy=>big (by have:=Ul hy;omega))|rfl
theorem Zzy(l:List T):ans (P Z6) l=(ans (P Zu) l).bind Zed:=Yw fun N hN=>by
 rw[Ziy,big U];refine bind_congr (fun x hx=>?_);have hl:=Zd1 hx;cases x with
 |nil=>rfl
 |cons u x=>
  simp only[List.length_cons]at hl;cases u<;>first|exact big U|rfl
theorem Zq0(l:List T):ans (P items) l=(ans (P NT.item) l).bind (ans (R items)):=Yw fun N hN=>ZP6
theorem Zq3(l:List T):ans (P sources) l=(ans (P source) l).bind (ans (R sources)):=Yw fun N hN=>ZP6
def ZmC(l:List T):Option (List T):=match l with
 |dot::r'=>Zz name r'
 |r=>some r
theorem ZqV(l:List T):ans (P Zu) l=(ans (P column) l).bind (ans (R Zu)):=Yw fun N hN=>ZP6
theorem ZqT(l:List T):ans (P cnd) l=(ans (P ZF) l).bind (ans (R cnd)):=Yw fun N hN=>ZP6
theorem ZqW(l:List T):ans (P ZF) l=(ans (P neg) l).bind (ans (R ZF)):=Yw fun N hN=>ZP6
theorem ZqY(l:List T):ans (P expr) l=(ans (P term) l).bind (ans (R expr)):=Yw fun N hN=>ZP6
theorem Zq5(l:List T):ans (P term) l=(ans (P factor) l).bind (ans (R term)):=Yw fun N hN=>ZP6
theorem ZqZ(l:List T):ans (P NT.item) l=(ans (P expr) l).bind (ans PK.alias):=Yw fun N hN=>ZP6
theorem Zq2(l:List T):ans (P source) l=(Zz name l).bind (ans PK.alias):=Yw fun N hN=>by
 rw[parse];exact bind_congr (fun x hx=>big ZRw)
theorem ZqL(u:T)(r:List T):ans (R items) (u::r)=if u=comma then(ans (P NT.item) r).bind (ans (R items))else some (u::r):=Yw fun N hN=>by
 cases u<;>first|(simp only[parse];rw[JN ZQu];rfl)|(simp only[parse];rfl)
theorem ZqN(u:T)(r:List T):ans (R sources) (u::r)=if u=comma then(ans (P source) r).bind (ans (R sources))else some (u::r):=Yw fun N hN=>by
 cases u<;>first|(simp only[parse];rw[JN ZQu];rfl)|(simp only[parse];rfl)
theorem ZqI(u:T)(r:List T):ans (R Zu) (u::r)=if u=comma then(ans (P column) r).bind (ans (R Zu))else some (u::r):=Yw fun N hN=>by
 cases u<;>first|(simp only[parse];rw[JN ZQu];rfl)|(simp only[parse];rfl)
theorem ZqH(u:T)(r:List T):ans (R cnd) (u::r)=if u=Qr then(ans (P ZF) r).bind (ans (R cnd))else some (u::r):=Yw fun N hN=>by
 cases u<;>first|(simp only[parse];rw[JN ZQu];rfl)|(simp only[parse];rfl)
theorem ZqJ(u:T)(r:List T):ans (R ZF) (u::r)=if u=Qa then(ans (P neg) r).bind (ans (R ZF))else some (u::r):=Yw fun N hN=>by
 cases u<;>first|(simp only[parse];rw[JN ZQu];rfl)|(simp only[parse];rfl)
theorem ZqK(u:T)(r:List T):ans (R expr) (u::r)=if isAdd u then(ans (P term) r).bind (ans (R expr))else some (u::r):=Yw fun N hN=>by
 simp only[List.length_cons]at hN;rw[parse,JN U]
theorem ZqO(u:T)(r:List T):ans (R term) (u::r)=if isMul u then(ans (P factor) r).bind (ans (R term))else some (u::r):=Yw fun N hN=>by
 simp only[List.length_cons]at hN;rw[parse,JN U]
theorem ZqP(l:List T):ans PK.alias l=match l with|Zx::r=>Zz name r|r=>some r:=Yw fun N hN=>by
 cases l with
 |nil=>simp only[parse]
 |cons u r=>cases u<;>simp only[parse]
theorem ZqU(l:List T):ans (P column) l=(Zz name l).bind ZmC:=Yw fun N hN=>by
 simp only[parse];refine bind_congr (fun x _=>?_);cases x with
 |nil=>rfl
 |cons u x=>cases u<;>rfl
theorem ZzA(r:List T):ans (P neg) (not_::r)=ans (P neg) r:=Yw fun N hN=>by simp only[List.length_cons]at hN;rw[parse,big U]
theorem Zzz(l:List T)(h:∀r,l≠not_::r):ans (P neg) l=ans (P basic) l:=Yw fun N hN=>by
 cases l with
 |nil=>simp only[parse];exact big U
 |cons u r=>cases u<;>first|exact absurd rfl (h r)|(simp only[parse];exact big U)
theorem Zzn(r:List T):ans (P basic) (Xu::r)=ans (round query) r:=Yw fun N hN=>by simp only[List.length_cons]at hN;rw[parse,big U]
theorem Zzm(l:List T)(h:∀r,l≠Xu::r):ans (P basic) l=if YX 0 l then ans (round cnd) l else(ans (P expr) l).bind (ans ask):=Yw fun N hN=>by
 cases l with
 |nil=>simp only[parse];rw[big U,JN U]
 |cons u r=>cases u<;>first|exact absurd rfl (h r)|(simp only[parse];rw[big U,JN U])
theorem ZqR(r:List T):ans ask (Qe::not_::r)=Zz null r:=Yw fun N hN=>ZPQ
theorem ZqQ(r:List T)(h:∀r',r≠not_::r'):ans ask (Qe::r)=Zz null r:=Yw fun N hN=>by
 cases r with
 |nil=>rfl
 |cons u r=>cases u<;>first|exact absurd rfl (h r)|rfl
theorem Zzj(r:List T):ans ask (cmp::Zay::r)=ans (round query) r:=Yw fun N hN=>by simp only[List.length_cons]at hN;rw[parse,big U]
theorem Zzi(r:List T):ans ask (cmp::Xl::r)=ans (round query) r:=Yw fun N hN=>by simp only[List.length_cons]at hN;rw[parse,big U]
theorem Zzk(r:List T)(h:∀u r',r=u::r'->XI u=false):ans ask (cmp::r)=ans (P expr) r:=Yw fun N hN=>by
 cases r with
 |nil=>simp only[parse];exact big ZR6
 |cons u r=>cases u<;>first|exact absurd (h _ _ rfl) ZPl|(simp only[parse];exact big ZR6)
theorem ZqS(r:List T):ans ask (not_::r)=(Zz Yt r).bind (ans (round query)):=Yw fun N hN=>by
 rw[parse];exact bind_congr (fun x hx=>big (by have:=Ul hx;simp only[List.length_cons]at hN;omega))
theorem Zzl(l:List T)(h:∀u r,l=u::r->u≠Qe/\u≠cmp/\u≠not_):ans ask l=(Zz Yt l).bind (ans (round query)):=Yw fun N hN=>by
 have e:(Zz Yt l).bind (parse N (round query))=(Zz Yt l).bind (ans (round query)):=bind_congr (fun x hx=>big ZRw);cases l with
 |nil=>rfl
 |cons u r=>cases u<;>first|exact absurd rfl (h _ _ rfl).1|exact absurd rfl (h _ _ rfl).2.1|exact absurd rfl (h _ _ rfl).2.2|(simp only[parse];exact e)
theorem Zzw(r:List T):ans (P factor) (minus::r)=ans (P factor) r:=Yw fun N hN=>by simp only[List.length_cons]at hN;rw[parse,big U]
theorem Zzx(r:List T):ans (P factor) (null::r)=some r:=Yw fun N hN=>ZPQ
theorem Zzu(r:List T):ans (P factor) (lit::r)=some r:=Yw fun N hN=>ZPQ
theorem Zzv(r:List T):ans (P factor) (lp::r)=ans (round expr) (lp::r):=Yw fun N hN=>by rw[parse,big U]
def ZjB(l:List T):Option (List T):=match l with
 |star::r2=>some r2
 |r2=>ans (P expr) r2
theorem Zzs(r:List T):ans (P factor) (count::r)=(Zz lp r).bind fun r'=>(ZjB r').bind (Zz rp):=Yw fun N hN=>by
 simp only[List.length_cons]at hN;rw[ZoC];refine bind_congr (fun x hx=>?_);have hxl:=Ul hx;have e:Zhb N x=ZjB x:=by
  cases x with
  |nil=>exact big (by simp only[List.length_nil];omega)
  |cons u x=>cases u<;>first|exact big (by simp only[List.length_cons]at hxl ⊢;omega)|rfl
 rw[e]
theorem Zzr(r:List T):ans (P factor) (agg::r)=ans (round expr) r:=Yw fun N hN=>by simp only[List.length_cons]at hN;rw[parse,big U]
theorem Zzt(l:List T)(h:∀u r,l=u::r->u≠minus/\u≠null/\u≠lit/\u≠lp/\u≠count/\u≠agg):ans (P factor) l=ans (P column) l:=Yw fun N hN=>by
 cases l with
 |nil=>simp only[parse];exact big U
 |cons u r=>
  obtain⟨h1,h2,h3,h4,h5,h6⟩:=h u r rfl;cases u<;>first|exact absurd rfl h1|exact absurd rfl h2|exact absurd rfl h3|exact absurd rfl h4|exact absurd rfl h5|exact absurd rfl h6|(simp only[parse];exact big U)
theorem Zmf(l:List T):ans (P query) l=some []↔G query l:=by
 rw[<-ZzB];rfl
end Go.Proofs.YthmlacabmlghbaaGreatDoor
