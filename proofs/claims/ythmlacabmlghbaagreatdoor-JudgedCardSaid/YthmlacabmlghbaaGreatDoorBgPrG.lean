import Derived.Test.YthmlacabmlghbaaGreatDoorBgJa06
import Derived.Test.YthmlacabmlghbaaGreatDoorBgPrF
set_option maxRecDepth 100000
set_option maxHeartbeats 8000000
set_option linter.unusedSimpArgs false
set_option linter.unusedVariables false
namespace Go.Proofs.YthmlacabmlghbaaGreatDoor
open NT
theorem Zvf:∀(s:Za) (n m:Int),(∀c∈s,48<=c.toNat/\c.toNat<=57)-> -9223372036854775808<=n->n<=0->JO n s=some m-> -9223372036854775808<=m/\m<=0
 | [],n,m,_,h1,h2,h=>by unfold JO at h;cases h;exact⟨h1,h2⟩
 |c::r,n,m,hd,h1,h2,h=>by
  rw[Zjk]at h;obtain⟨d1,d2⟩:=hd c ZPm;split at h
  ·cases h
  ·rename_i hlt;rw[Zmo _ U U]at hlt;exact Zvf r _ m (fun x hx=>hd x (by simp[hx])) U U h
theorem Zvj{d:Za}(hd:∀c∈d,48<=c.toNat/\c.toNat<=57): -9223372036854775808<=(YN d false).1/\(YN d false).1<=9223372036854775807:=by
 cases h:JO 0 d with
 |none=>rw[Zmm false h];decide
 |some n=>
  obtain⟨h1,h2⟩:=Zvf d 0 n hd U U h;rw[Zjl h];show -9223372036854775808<=(if n= -9223372036854775808 then n else -n)/\(if n= -9223372036854775808 then n else -n)<=9223372036854775807;split<;>omega
theorem ZJv(m:Nat):∀(l:Za),l.length<=m->∀acc n,(Qk acc n l).1.length<=acc.length+l.length:=by
 induction m with
 |zero=>
  intro l hl acc n;cases l with
  |nil=>rw[Zci];simp
  |cons c r=>simp at hl
 |succ m ih=>
  intro l hl acc n;cases l with
  |nil=>rw[Zci];simp
  |cons c r=>
   simp only[List.length_cons]at hl ⊢;by_cases h10:c=10
   ·subst h10;rw[Zg1];simp
   ·by_cases Xh:c=39
    ·subst Xh;cases r with
     |nil=>rw[Zdh _ _ _ (fun r' e=>ZPF)];simp
     |cons d r=>
      by_cases hd:d=39
      ·subst hd;rw[Zg3];have:=ih r ZQT (acc++ [39]) (n+2);exact ZWG
      ·rw[Zdh _ _ _ (fun r' e=>by cases e;exact hd rfl)];first|(simp;done)|(simp;omega)
    ·rw[Zg2 _ _ _ _ h10 Xh];have:=ih r U (acc++ [c]) (n+1);exact ZWH
theorem ZJx(s:Za):(Yn s).1.length<=s.length:=by
 unfold Yn;have:=ZJv (s.drop 1).length (s.drop 1) (ZWS _) [] 1;exact ZWG
theorem ZJE(s:Za)(hs:s.length<=400):WOk (Z9 s).1:=by
 unfold Z9;split
 ·split
  ·refine⟨ZPm,?_,?_⟩
   ·exact(Zvj (fun c hc=>Zjj (Zf5 _ s c hc))).1
   ·exact(Zvj (fun c hc=>Zjj (Zf5 _ s c hc))).2
  ·exact⟨ZQn,ZQn,ZQn⟩
 ·split
  ·exact⟨ZRA,ZPm,ZPm⟩
  ·split
   ·exact⟨by have:=ZJx s;show(Yn s).1.length<=400;omega,ZPm,ZPm⟩
   ·split
    ·exact⟨ZRA,ZPm,ZPm⟩
    ·split
     ·exact⟨ZRA,ZPm,ZPm⟩
     ·exact⟨ZQn,ZQn,ZQn⟩
theorem ZJH(s:Za)(hs:s.length<=400)(f:Nat):∀(i:Nat) (l:List RW),YK s f i= .ok l->∀w∈l,WOk w:=by
 induction f with
 |zero=>intro i l h w hw;unfold YK at h;cases h;cases hw
 |succ f ih=>
  intro i l h;unfold YK at h;split at h
  ·cases h;intro w hw;cases hw
  ·rename_i c r e;have hl:=congrArg List.length e;rw[ZXo]at hl;split at h
   ·exact ih _ _ h
   ·split at h
    ·exact ih _ _ h
    ·split at h
     ·cases h
     ·cases hr:YK s f (i+(Z9 (c::r)).2)with
      |error e=>rw[hr]at h;cases h
      |ok l'=>
       rw[hr]at h;cases h;intro w hw;rcases ZW3.1 hw with rfl|hw
       ·exact ZJE _ U
       ·exact ih _ _ hr w hw
theorem ZJJ{s:Za}{l:List RW}(h:XB s= .ok l):∀w∈l,WOk w:=by
 unfold XB at h;split at h
 ·cases h
 ·exact ZJH s U _ _ _ h
theorem ZJ0{s:Za}{l:List RW}{t:Tr}(h:XB s= .ok l)(hd:D query l t):Good t:=by
 obtain⟨_,h2,h3⟩:=ZfZ h;exact(hd.db (ZJJ h) U).1.1
end Go.Proofs.YthmlacabmlghbaaGreatDoor
