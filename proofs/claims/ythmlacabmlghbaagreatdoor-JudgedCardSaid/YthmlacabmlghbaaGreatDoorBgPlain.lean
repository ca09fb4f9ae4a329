import Derived.Test.YthmlacabmlghbaaGreatDoorBgAb
import Derived.WalkKit
set_option maxRecDepth 100000
set_option maxHeartbeats 8000000
set_option linter.unusedSimpArgs false
set_option linter.unusedVariables false
namespace Go.Proofs.YthmlacabmlghbaaGreatDoor
open Go.RowKit
abbrev Za:=List UInt8
def ZaA(t s:Za):Bool:=(List.range (s.length+1-t.length)).any fun i=>(s.drop i).take t.length==t
theorem QY(l:Za)(a b:Nat):(ByteArray.mk l.toArray).extract a b=⟨((l.drop a).take (b-a)).toArray⟩:=by
 ext1;simp[ByteArray.extract,ByteArray.copySlice]
theorem Zrs{t s:Za}(k:Nat)(h:k+t.length<=s.length)(e:(s.drop k).take t.length=t):ZaA t s=true:=by
 unfold ZaA;rw[ZYh];exact⟨k,ZPo,by simp[e]⟩
theorem ZAa{t s:Za}(h:∀k,k+t.length<=s.length->(s.drop k).take t.length≠t):ZaA t s=false:=by
 unfold ZaA;rw[List.any_eq_false];intro k hk;simp at hk ⊢;exact h k U
theorem Zdg(c:UInt8)(s:Za):ZaA [c] s=s.contains c:=by
 rw[ZXG];constructor
 ·intro h;unfold ZaA at h;rw[ZYh]at h;obtain⟨k,hk,e⟩:=h;simp at hk e;have:c∈(s.drop k).take 1:=by rw[e];simp
  simp;exact List.mem_of_mem_drop (List.mem_of_mem_take this)
 ·intro h;simp at h;obtain⟨k,hk,e⟩:=ZX4 h;refine Zrs k ZPo ?_;rw[ZXl hk];simp[e]
def Zk(set s:Za):Nat:=(s.takeWhile fun c=>set.contains c).length
theorem ZaB(set:Za)(c:UInt8)(s:Za):Zk set (c::s)=if set.contains c then Zk set s+1 else 0:=by
 unfold Zk;rw[ZXs];split<;>simp_all
theorem Zjn(set:Za):∀(s:Za),(∀j,(h:j<s.length)->set.contains s[j]=true)->Zk set s=s.length
 | [],_=>rfl
 |c::s,h=>by
  have h0:=h 0 ZPm;simp only[List.getElem_cons_zero]at h0;rw[ZaB,h0,ZWR rfl,Zjn set s (fun j hj=>ZRO)];simp
theorem Zrw(set:Za):∀(s:Za) (k:Nat) (hk:k<s.length),(∀j,j<k->(h':j<s.length)->set.contains s[j]=true)->set.contains s[k]=false->Zk set s=k
 |c::s,0,_,_,h0=>by
  simp only[List.getElem_cons_zero]at h0;rw[ZaB,h0];rfl
 |c::s,k+1,hk,h,h0=>by
  have h1:=h 0 U ZPm;simp only[List.getElem_cons_zero]at h1;simp only[List.getElem_cons_succ]at h0;rw[ZaB,h1,ZWR rfl,Zrw set s k ZQD (fun j hj hl=>ZRP) h0]
theorem Eu(set s:Za):Zk set s<=s.length:=by
 unfold Zk;exact(ZYq _).length_le
def QN:Za:= [32,115,101,108,101,99,116,32,100,105,115,116,105,110,99,116,32,102,114,111,109,32,119,104,101,114,101,32,103,114,111,117,112,32,98,121,32,104,97,118,105,110,103,32,97,115,32,117,110,105,111,110,32,105,110,116,101,114,115,101,99,116,32,101,120,99,101,112,116,32,97,108,108,32,97,110,121,32,97,110,100,32,111,114,32,110,111,116,32,101,120,105,115,116,115,32,105,110,32,105,115,32,110,117,108,108,32,99,111,117,110,116,32,115,117,109,32,109,105,110,32,109,97,120,32]
def Zi:Za:= [48,49,50,51,52,53,54,55,56,57]
def Ya:Za:= [97,98,99,100,101,102,103,104,105,106,107,108,109,110,111,112,113,114,115,116,117,118,119,120,121,122,65,66,67,68,69,70,71,72,73,74,75,76,77,78,79,80,81,82,83,84,85,86,87,88,89,90,95]
theorem ZAk:QN.length<=100000:=by rw[show QN.length=125 from rfl];omega
theorem Zz3:Ya.length<=100000:=by rw[show Ya.length=53 from rfl];omega
theorem Zrp:(Ya++Zi).length<=100000:=by rw[show(Ya++Zi).length=63 from rfl];omega
theorem Zmk:Zi.length<=100000:=by rw[show Zi.length=10 from rfl];omega
def Va(s:Za):Bool:=ZaA (32::(s++ [32])) QN
def KS(s:Za):Bool:= !s.isEmpty&&(Zk Ya (s.take 1)==1)&&(Zk (Ya++Zi) s==s.length)&& !Va s
theorem Zz2(c:UInt8)(s:Za):KS (c::s)=(decide ((Zk Ya [c]:Int)=1)&&decide ((Zk (Ya++Zi) (c::s):Int)=s.length+1)&& !Va (c::s)):=by
 unfold KS;have e1:(Zk Ya [c]==1)=decide ((Zk Ya [c]:Int)=1):=by
  rw[ZXG];simp;omega
 have e2:(Zk (Ya++Zi) (c::s)==(c::s).length)=decide ((Zk (Ya++Zi) (c::s):Int)=s.length+1):=by
  rw[ZXG];simp;omega
 rw[e2];simp only[List.take_succ_cons,List.take_zero,e1,List.isEmpty_cons,Bool.not_false,ZYi]
theorem ZgZ(a b:Za):(ByteArray.mk a.toArray)++(ByteArray.mk b.toArray)=ByteArray.mk (a++b).toArray:=by
 ext1;simp[ByteArray.data_append]
def Qk(acc:Za)(n:Nat):Za->Za×Nat
 | []=>([],0)
 | [c]=>if c=10 then([],0)else if c=39 then(acc,n+1)else([],0)
 |c::d::r=>if c=10 then([],0)else if c=39 then(if d=39 then Qk (acc++ [39]) (n+2) r else(acc,n+1))else Qk (acc++ [c]) (n+1) (d::r)
def Yn(s:Za):Za×Nat:=Qk [] 1 (s.drop 1)
theorem Zci(acc:Za)(n:Nat):Qk acc n []=([],0):=by unfold Qk;rfl
theorem Zg1(acc:Za)(n:Nat)(r:Za):Qk acc n (10::r)=([],0):=by
 cases r<;>(unfold Qk;rfl)
theorem Zg2(acc:Za)(n:Nat)(c:UInt8)(r:Za)(h:c≠10)(h':c≠39):Qk acc n (c::r)=Qk (acc++ [c]) (n+1) r:=by
 cases r with
 |nil=>rw[Zci];unfold Qk;rw[ZWQ h,ZWQ h']
 |cons d r=>rw[Qk];rw[ZWQ h,ZWQ h']
theorem Zg3(acc:Za)(n:Nat)(r:Za):Qk acc n (39::39::r)=Qk (acc++ [39]) (n+2) r:=by
 rw[Qk];rfl
theorem Zdh(acc:Za)(n:Nat)(r:Za)(h:∀r',r≠39::r'):Qk acc n (39::r)=(acc,n+1):=by
 cases r with
 |nil=>unfold Qk;rfl
 |cons d r=>
  have:d≠39:=fun e=>h r (by rw[e]);rw[Qk];rw[ZWQ ZPl,ZWR rfl,ZWQ this]
theorem Zd4(s:Za):(ByteArray.mk s.toArray).size=s.length:=rfl
theorem Zdi{a b:UInt8}(h:(a.toNat:Int)=(b.toNat:Int)):a=b:=ZYr.1 U
theorem Zd3{a:UInt8}{n:Int}(b:UInt8)(h:((a.toNat:Int) != n)=true)(hb:n=(b.toNat:Int)):a≠b:=by
 intro e;subst e;subst hb;simp at h
theorem Zbp{a:UInt8}{n:Int}(b:UInt8)(h:((a.toNat:Int) != n)=false)(hb:n=(b.toNat:Int)):a=b:=by
 subst hb;exact Zdi ZPv
theorem Zd2{a:UInt8}{n:Int}(b:UInt8)(h:((a.toNat:Int)==n)=true)(hb:n=(b.toNat:Int)):a=b:=by
 subst hb;exact Zdi ZPv
theorem Zch{a:UInt8}{n:Int}(b:UInt8)(h:((a.toNat:Int)==n)=false)(hb:n=(b.toNat:Int)):a≠b:=by
 intro e;subst e;subst hb;simp at h
theorem VH(s:Za)(k:Nat)(h:k<s.length):s.drop k=s[k]::s.drop (k+1):=ZXl h
theorem ZAn(s:Za)(k:Nat)(h:k<s.length):(s.drop k).take 1= [s[k]]:=by rw[VH s k h];rfl
def JO(n:Int):Za->Option Int
 | []=>some n
 |c::r=>if n<(-9223372036854775808+((c.toNat:Int)-48)).tdiv 10 then none else JO (10*n-((c.toNat:Int)-48)) r
def YN(s:Za)(neg:Bool):Int×Bool:=
 match JO 0 s with
 |none=>(0,false)
 |some n=>if neg then(n,true)else(if n= -9223372036854775808 then n else -n,decide (n≠ -9223372036854775808))
theorem Zjj{c:UInt8}(h:Zi.contains c=true):48<=c.toNat/\c.toNat<=57:=by
 simp[Zi]at h;rcases h with h|h|h|h|h|h|h|h|h|h<;>subst h<;>decide
theorem Zro{set s:Za}(hd:Zk set s=s.length)(k:Nat)(hk:k<s.length):set.contains s[k]=true:=by
 induction s generalizing k with
 |nil=>simp at hk
 |cons c s ih=>
  rw[ZaB]at hd;by_cases h:set.contains c=true
  ·rw[ZWR h]at hd;cases k with
   |zero=>exact h
   |succ k=>exact ih (by simp at hd;exact hd) k ZQD
  ·rw[ZWQ h]at hd;simp at hd
theorem Zz0{s:Za}(hd:Zk Zi s=s.length)(k:Nat)(hk:k<s.length):48<=s[k].toNat/\s[k].toNat<=57:=Zjj (Zro hd k hk)
theorem Zmo(d:Int)(h0:0<=d)(h9:d<=9):(-9223372036854775808+d).tdiv 10= -((9223372036854775808-d)/10):=by
 have e:(-9223372036854775808+d)= -(9223372036854775808-d):=U
 rw[e,Int.neg_tdiv,Int.tdiv_eq_ediv_of_nonneg U]
theorem Zjk(n:Int)(c:UInt8)(r:Za):JO n (c::r)=if n<(-9223372036854775808+((c.toNat:Int)-48)).tdiv 10 then none else JO (10*n-((c.toNat:Int)-48)) r:=by
 rw[JO]
theorem Zmm{s:Za}(neg:Bool)(h:JO 0 s=none):YN s neg=(0,false):=by
 unfold YN;rw[h]
theorem Zjl{s:Za}{n:Int}(h:JO 0 s=some n):YN s false=(if n= -9223372036854775808 then n else -n,decide (n≠ -9223372036854775808)):=by
 unfold YN;rw[h];rfl
theorem Zrr{s:Za}{n:Int}(h:JO 0 s=some n):YN s true=(n,true):=by
 unfold YN;rw[h];rfl
theorem Zz9(x:Int)(h1: -9223372036854775808<=x)(h2:x<=0):wrap64 (-x)=if x= -9223372036854775808 then x else -x:=by
 unfold wrap64;split<;>omega
end Go.Proofs.YthmlacabmlghbaaGreatDoor
