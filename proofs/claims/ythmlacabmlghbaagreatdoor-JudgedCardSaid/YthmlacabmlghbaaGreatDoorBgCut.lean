import Derived.Test.YthmlacabmlghbaaGreatDoorBgGram
set_option maxRecDepth 100000
set_option maxHeartbeats 8000000
set_option linter.unusedSimpArgs false
set_option linter.unusedVariables false
namespace Go.Proofs.YthmlacabmlghbaaGreatDoor
open T NT
def st(w:List T)(i j:Nat):List T:=(w.drop i).take (j-i)
theorem Za2(w:List T){i j:Nat}(hj:j<=w.length):(st w i j).length=j-i:=by
 unfold st;rw[ZXS,ZXo];omega
theorem Ky(w:List T){i j:Nat}(h:j<=i):st w i j= []:=by
 unfold st;rw[show j-i=0 from U];rfl
theorem Q4(w:List T){i j:Nat}(hi:i<j)(hj:j<=w.length):st w i j=w[i]' U::st w (i+1) j:=by
 unfold st;rw[ZXl (by omega:i<w.length),show j-i=(j-(i+1))+1 from U,List.take_succ_cons]
theorem ZLn(w:List T){i p j:Nat}(hi:i<=p)(hp:p<=j):st w i j=st w i p++st w p j:=by
 unfold st;rw[show j-i=(p-i)+(j-p) from U,List.take_add,ZXF,show i+(p-i)=p from U]
theorem ZwE(w:List T){i p j:Nat}(hi:i<=p)(hp:p<j)(hj:j<=w.length):st w i j=st w i p++w[p]' U::st w (p+1) j:=by
 rw[ZLn w hi (ZYg hp),Q4 w hp hj]
theorem ZdQ{w:List T}{i j:Nat}{a b:List T}{u:T}(hj:j<=w.length)(h:st w i j=a++u::b):∃p,i<=p/\p<j/\a=st w i p/\w[p]? =some u/\b=st w (p+1) j:=by
 have hl:=congrArg List.length h;rw[Za2 w hj]at hl;simp at hl;refine⟨i+a.length,U,U,?_⟩;have h2:=ZwE w (i:=i) (p:=i+a.length) (j:=j) U U hj;rw[h]at h2;have hla:(st w i (i+a.length)).length=a.length:=by rw[Za2 w U];omega
 obtain⟨e1,e2⟩:=List.append_inj h2 hla.symm;obtain⟨e3,e4⟩:=ZXk e2;exact⟨e1,by rw[ZW1 U];rw[e3],e4⟩
theorem ZFc(l:List T):G query l↔G core l\/∃a u b,l=a++u::b/\isSet u=true/\G query a/\(G core b\/∃b',b=Xl::b'/\G core b'):=by
 constructor
 ·intro h;cases h with
  |Kt h=>exact ZS3
  |Ku hu h1 h2=>exact .inr ⟨_,_,_,rfl,hu,h1,.inl h2⟩
  |Kv hu h1 h2=>exact .inr ⟨_,_,_,rfl,hu,h1,.inr ⟨_,rfl,h2⟩⟩
 ·rintro(h|⟨a,u,b,rfl,hu,h1,h2|⟨b',rfl,h2⟩⟩)
  ·exact .Kt h
  ·exact .Ku hu h1 h2
  ·exact .Kv hu h1 h2
theorem Zum(l:List T):G core l↔(∃a,l=lp::(a++ [rp])/\G query a)\/∃a b,l=Yk::(a++YA::b)/\G tail b/\(a= [star]\/a= [ZU,star]\/G items a\/∃a',a=ZU::a'/\G items a'):=by
 constructor
 ·intro h;cases h with
  |U4 h=>exact ZS6
  |Ue h=>exact .inr ⟨[star],_,rfl,h,.inl rfl⟩
  |Uf h=>exact .inr ⟨[ZU,star],_,rfl,h,.inr (.inl rfl)⟩
  |VI h1 h2=>exact .inr ⟨_,_,rfl,h2,.inr (.inr (.inl h1))⟩
  |VJ h1 h2=>exact .inr ⟨ZU::_,_,rfl,h2,.inr (.inr (.inr ⟨_,rfl,h1⟩))⟩
 ·rintro(⟨a,rfl,h⟩|⟨a,b,rfl,h,rfl|rfl|h1|⟨a',rfl,h1⟩⟩)
  ·exact .U4 h
  ·exact .Ue h
  ·exact .Uf h
  ·exact .VI h1 h
  ·exact .VJ h1 h
theorem ZFe(l:List T):G tail l↔G sources l\/(∃a b,l=a++Y2::b/\G sources a/\G after b)\/∃a b,l=a++group::Y7::b/\G sources a/\G Z6 b:=by
 constructor
 ·intro h;cases h with
  |UM h=>exact ZS3
  |V5 h1 h2=>exact .inr (.inl ⟨_,_,rfl,h1,h2⟩)
  |UL h1 h2=>exact .inr (.inr ⟨_,_,rfl,h1,h2⟩)
 ·rintro(h|⟨a,b,rfl,h1,h2⟩|⟨a,b,rfl,h1,h2⟩)
  ·exact .UM h
  ·exact .V5 h1 h2
  ·exact .UL h1 h2
theorem ZE3(l:List T):G after l↔G cnd l\/∃a b,l=a++group::Y7::b/\G cnd a/\G Z6 b:=by
 constructor
 ·intro h;cases h with
  |U1 h=>exact ZS3
  |Ub h1 h2=>exact .inr ⟨_,_,rfl,h1,h2⟩
 ·rintro(h|⟨a,b,rfl,h1,h2⟩)
  ·exact .U1 h
  ·exact .Ub h1 h2
theorem ZE9(l:List T):G Z6 l↔G Zu l\/∃a b,l=a++having::b/\G Zu a/\G cnd b:=by
 constructor
 ·intro h;cases h with
  |Ur h=>exact ZS3
  |Us h1 h2=>exact .inr ⟨_,_,rfl,h1,h2⟩
 ·rintro(h|⟨a,b,rfl,h1,h2⟩)
  ·exact .Ur h
  ·exact .Us h1 h2
theorem ZFb(l:List T):G items l↔G NT.item l\/∃a u b,l=a++u::b/\u=comma/\G items a/\G NT.item b:=by
 constructor
 ·intro h;cases h with
  |Ke h=>exact ZS3
  |VV h1 h2=>exact ZTa
 ·rintro(h|⟨a,u,b,rfl,rfl,h1,h2⟩)
  ·exact .Ke h
  ·exact .VV h1 h2
theorem ZFd(l:List T):G sources l↔G source l\/∃a u b,l=a++u::b/\u=comma/\G sources a/\G source b:=by
 constructor
 ·intro h;cases h with
  |Ei h=>exact ZS3
  |UI h1 h2=>exact ZTa
 ·rintro(h|⟨a,u,b,rfl,rfl,h1,h2⟩)
  ·exact .Ei h
  ·exact .UI h1 h2
theorem ZE5(l:List T):G Zu l↔G column l\/∃a u b,l=a++u::b/\u=comma/\G Zu a/\G column b:=by
 constructor
 ·intro h;cases h with
  |KU h=>exact ZS3
  |Ud h1 h2=>exact ZTa
 ·rintro(h|⟨a,u,b,rfl,rfl,h1,h2⟩)
  ·exact .KU h
  ·exact .Ud h1 h2
theorem ZE4(l:List T):G cnd l↔G ZF l\/∃a u b,l=a++u::b/\u=Qr/\G cnd a/\G ZF b:=by
 constructor
 ·intro h;cases h with
  |Uy h=>exact ZS3
  |Uz h1 h2=>exact ZTa
 ·rintro(h|⟨a,u,b,rfl,rfl,h1,h2⟩)
  ·exact .Uy h
  ·exact .Uz h1 h2
theorem ZE6(l:List T):G ZF l↔G neg l\/∃a u b,l=a++u::b/\u=Qa/\G ZF a/\G neg b:=by
 constructor
 ·intro h;cases h with
  |Ux h=>exact ZS3
  |Uw h1 h2=>exact ZTa
 ·rintro(h|⟨a,u,b,rfl,rfl,h1,h2⟩)
  ·exact .Ux h
  ·exact .Uw h1 h2
theorem inv_neg(l:List T):G neg l↔(∃a,l=not_::a/\G neg a)\/((∀a,l≠not_::a)/\G basic l):=by
 constructor
 ·intro h;cases h with
  |UD h=>exact ZS6
  |UC h=>exact .inr ⟨Zmi h,h⟩
 ·rintro(⟨a,rfl,h⟩|⟨_,h⟩)
  ·exact .UD h
  ·exact .UC h
def Qh(s:List T):Prop:=
 s= [Qe,null]\/s= [Qe,not_,null]\/(∃q,s=Yt::lp::(q++ [rp])/\G query q)\/(∃q,s=not_::Yt::lp::(q++ [rp])/\G query q)\/(∃h q,s=cmp::h::lp::(q++ [rp])/\XI h=true/\G query q)\/∃b,s=cmp::b/\G expr b
theorem Zul(l:List T):G basic l↔(∃a,l=Xu::lp::(a++ [rp])/\G query a)\/(∃a,l=lp::(a++ [rp])/\G cnd a)\/∃a s,l=a++s/\G expr a/\Qh s:=by
 constructor
 ·intro h;cases h with
  |VB h=>exact ZS6
  |VG h=>exact .inr (.inl ⟨_,rfl,h⟩)
  |VF h=>exact .inr (.inr ⟨_,_,rfl,h,.inl rfl⟩)
  |VE h=>exact .inr (.inr ⟨_,_,rfl,h,.inr (.inl rfl)⟩)
  |VC h h2=>exact .inr (.inr ⟨_,_,rfl,h,.inr (.inr (.inl ⟨_,rfl,h2⟩))⟩)
  |VD h h2=>exact .inr (.inr ⟨_,_,rfl,h,.inr (.inr (.inr (.inl ⟨_,rfl,h2⟩)))⟩)
  |QX hh h h2=>exact .inr (.inr ⟨_,_,rfl,h,.inr (.inr (.inr (.inr (.inl ⟨_,_,rfl,hh,h2⟩))))⟩)
  |J9 h h2=>exact .inr (.inr ⟨_,_,rfl,h,.inr (.inr (.inr (.inr (.inr ⟨_,rfl,h2⟩))))⟩)
 ·rintro(⟨a,rfl,h⟩|⟨a,rfl,h⟩|⟨a,s,rfl,h,rfl|rfl|⟨q,rfl,h2⟩|⟨q,rfl,h2⟩|⟨u,q,rfl,hu,h2⟩|⟨b,rfl,h2⟩⟩)
  ·exact .VB h
  ·exact .VG h
  ·exact .VF h
  ·exact .VE h
  ·exact .VC h h2
  ·exact .VD h h2
  ·exact .QX hu h h2
  ·exact .J9 h h2
theorem ZE7(l:List T):G expr l↔G term l\/∃a u b,l=a++u::b/\isAdd u=true/\G expr a/\G term b:=by
 constructor
 ·intro h;cases h with
  |Uj h=>exact ZS3
  |Ui hu h1 h2=>exact .inr ⟨_,_,_,rfl,hu,h1,h2⟩
 ·rintro(h|⟨a,u,b,rfl,hu,h1,h2⟩)
  ·exact .Uj h
  ·exact .Ui hu h1 h2
theorem ZFf(l:List T):G term l↔G factor l\/∃a u b,l=a++u::b/\isMul u=true/\G term a/\G factor b:=by
 constructor
 ·intro h;cases h with
  |UA h=>exact ZS3
  |UB hu h1 h2=>exact .inr ⟨_,_,_,rfl,hu,h1,h2⟩
 ·rintro(h|⟨a,u,b,rfl,hu,h1,h2⟩)
  ·exact .UA h
  ·exact .UB hu h1 h2
theorem ZFa(l:List T):G NT.item l↔G expr l\/∃a,l=a++ [Zx,name]/\G expr a:=by
 constructor
 ·intro h;cases h with
  |item h=>exact ZS3
  |Kh h=>exact .inr ⟨_,rfl,h⟩
 ·rintro(h|⟨a,rfl,h⟩)
  ·exact .item h
  ·exact .Kh h
theorem Zkv(l:List T):G source l↔l= [name]\/l= [name,Zx,name]:=by
 constructor
 ·intro h;cases h with
  |src=>exact ZS5
  |Ej=>exact .inr rfl
 ·rintro(rfl|rfl)
  ·exact .src
  ·exact .Ej
theorem Zia(l:List T):G column l↔l= [name]\/l= [name,dot,name]:=by
 constructor
 ·intro h;cases h with
  |JF=>exact ZS5
  |Uh=>exact .inr rfl
 ·rintro(rfl|rfl)
  ·exact .JF
  ·exact .Uh
theorem ZE8(l:List T):G factor l↔(∃a,l=minus::a/\G factor a)\/l= [lit]\/l= [null]\/l= [count,lp,star,rp]\/(∃u a,l=u::lp::(a++ [rp])/\isAgg u=true/\G expr a)\/(∃a,l=lp::(a++ [rp])/\G expr a)\/G column l:=by
 constructor
 ·intro h;cases h with
  |Vf h=>exact ZS6
  |Zcm=>exact .inr (.inl rfl)
  |Un=>exact .inr (.inr (.inl rfl))
  |Uo=>exact .inr (.inr (.inr (.inl rfl)))
  |QO hu h=>exact .inr (.inr (.inr (.inr (.inl ⟨_,_,rfl,hu,h⟩))))
  |Vg h=>exact .inr (.inr (.inr (.inr (.inr (.inl ⟨_,rfl,h⟩)))))
  |Ve h=>exact .inr (.inr (.inr (.inr (.inr (.inr h)))))
 ·rintro(⟨a,rfl,h⟩|rfl|rfl|rfl|⟨u,a,rfl,hu,h⟩|⟨a,rfl,h⟩|h)
  ·exact .Vf h
  ·exact .Zcm
  ·exact .Un
  ·exact .Uo
  ·exact .QO hu h
  ·exact .Vg h
  ·exact .Ve h
end Go.Proofs.YthmlacabmlghbaaGreatDoor
