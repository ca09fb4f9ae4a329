import Derived.Test.YtncnkiabjhhclaaGreatDoorBgAns
import Derived.Test.YtncnkiabjhhclaaGreatDoorBgJa05
import Derived.Test.YtncnkiabjhhclaaGreatDoorBgPT
import Derived.Test.YtncnkiabjhhclaaGreatDoorBgShelf2
set_option maxRecDepth 100000
set_option maxHeartbeats 8000000
set_option linter.all false
namespace Go.Proofs.YtncnkiabjhhclaaGreatDoor
open Go.Proofs.Tryz
variable{ps:Array Tmp}{cur:Array Value}{assign body:Code}{Q:Exit->Act->World->Prop}{Y5:Func}{bf:FuncId}{ws:List RW}{xs:List Value}{ks pre ss:List vS}{B B' Kb M N Pb S cap k' k0 k1 k5 n0 n1 n2 size sz:Nat}{fr:Nat×Nat}{tf ti ts tt tw:Tr}{ty:TypeId}{v0 y2:Value}{A A' W W' W1 w':World}
def rG:=@Go.World.ownsMap.look_ok
def kr{p:Prop}(h:p:=by go_wp2;exact⟨rfl,.inr ⟨wO.out,b,rfl,Bj,yz,hB.trans (wH.mono hB.size)⟩⟩):p:=h
def qo:=@Go.World.size_alloc
def tq:=@Go.World.frozen?_of_block
def oZ:=@Go.bodyPost_ret
def Z0G{p:Prop}(h:p:=by
 refine⟨h.1,?_⟩;rcases h.2 with h0|⟨g,cap,cu,rfl,hg,hh,r⟩
 ·exact jg
 ·have GH:g≠b:=by
   intro e1;subst e1;rw[hb]at hh;exact wF gV
  exact jk):p:=h
def qG:=@Go.RoundIn.mono
def jU{p:Prop}(h:p:=by gi_wp2;exact⟨rfl,.inr ⟨ch,rfl,hp⟩⟩):p:=h
def Z0F{p:Prop}(h:p:=by
 obtain⟨fn,tmps,I8,bd,U4,hR⟩:=hy;refine⟨fn,tmps,I8,bd,U4,qG hR ?_⟩;rintro e W' (⟨rfl,h1,h4,h5⟩|h)
 ·exact .inl ⟨rfl,h1,h4,h5⟩
 ·exact .inr h):p:=h
def Z0C{p:Prop}(h:p:=by
 intro j u h;match j with
 |0=>simp at h;subst h;simp[Addr.add]
 |1=>simp at h;subst h;simp[Addr.add]
 |n+2=>simp at h):p:=h
def Z0D{p:Prop}(h:p:=by
 have HL8:Hid (w8.heap[W.heap.size+4]? =some (.loop rb)):=(Gn _ Z Z).trans hL;have TI:=wN ((Gn _ Z Z).trans hD);clear hT zL xK hL hD NY Fs Gn k0 k1 k2;refine Ie rfl aA ?_;go_wp2;try refine⟨trivial,?_⟩
 exact mo):p:=h
def mo{p:Prop}(h:p:=by refine wpIn_block ?_;refine Ie rfl aA ?_;go_wp2;have y1:=HL8.out;have y2:=TI.out;refine⟨by first|exact y1|(rw[C8];exact y1),by first|exact y2|(rw[C8];exact y2),λA' hO=>?_⟩;exact HT8.out.same (Nat.le_of_eq hO.size.symm) hO.os hO.tape hO.output (λb hb=>hO.block b (by first|omega|(rw[C8];omega)))):p:=h
def gX{p:Prop}(h:p:=by simp[results,Tryz.results106,go_sem,r0,r1,r2]):p:=h
def kP{p:Prop}(h:p:=by go_wp2_with fail;go_ret;exact⟨rfl,yK _⟩):p:=h
def rU:=@Go.World.ownsRow_lit
def mM{p:Prop}(h:p:=by rintro e w1 ⟨rfl,hB⟩;go_wp2_with fail;go_ret;exact⟨rfl,hB⟩):p:=h
def gY{p:Prop}(h:p:=by simp[results,Tryz.results108,go_sem,r0,r1,r2]):p:=h
def gZ{p:Prop}(h:p:=by simp[results,Tryz.results110,go_sem,r0,r1,r2]):p:=h
def fJ{p:Prop}(h:p:=by simp[results,Tryz.results44,go_sem,r0,r1,r2]):p:=h
def nJ{p:Prop}(h:p:=by rw[<-he]at q;clear he;go_wp2_with fail;go_ret;exact⟨⟨k,rfl,Z,Z,⟨λ_=>HM.out,λ_=>Z⟩⟩,rfl⟩):p:=h
def kR{p:Prop}(h:p:=by go_wp2_with fail;go_ret;exact⟨⟨-1,rfl,Z,Z,⟨λh=>Z,λh=>absurd h HM.out⟩⟩,rfl⟩):p:=h
def mP{p:Prop}(h:p:=by rintro e w2 ⟨rfl,wK⟩;go_wp2_with fail;go_ret;exact⟨rfl,wE.trans (wK.mono wE.size)⟩):p:=h
def ib{p:Prop}(h:p:=by simp[results,Tryz.results172,go_sem,r0,r1,r2,KR]):p:=h
def iW{p:Prop}(h:p:=by clear Ad za;go_wp2;exact⟨rfl,.inr ⟨HA.out,b,rfl,h1,h2,h3⟩⟩):p:=h
def kG{p:Prop}(h:p:=by go_wp2_with fail;go_ret;exact .inl ⟨k',_,hle,HA.out,rfl,⟨t,hD,hR⟩,hP2,wY⟩):p:=h
def jc{p:Prop}(h:p:=by clear hA;go_wp2;exact⟨rfl,.inr ⟨HA.out,b,rfl,h1,h2,h3⟩⟩):p:=h
def ja{p:Prop}(h:p:=by clear hA;go_wp2;exact⟨rfl,.inr ⟨HA.out,b,rfl,h1,h2,(wU.alloc Pb _ _).trans h3⟩⟩):p:=h
def kF{p:Prop}(h:p:=by go_wp2_with fail;go_ret;exact .inl ⟨k',_,Z,HA.out,rfl,HR.out,hP2,wZ.trans wY⟩):p:=h
def jd{p:Prop}(h:p:=by clear hl;go_wp2;exact⟨rfl,.inr ⟨HA.out,b,rfl,h1,h2,(wZ.trans wY).trans h3⟩⟩):p:=h
def kE{p:Prop}(h:p:=by go_wp2_with fail;go_ret;exact .inl ⟨k',_,Z,HA.out,rfl,HQ.out,Du,Zm.trans AO⟩):p:=h
def j5{p:Prop}(h:p:=by go_wp2;exact⟨rfl,.inr ⟨HA.out,b,rfl,h1,h2,((wY.trans xP).trans zt).trans h3⟩⟩):p:=h
def j6{p:Prop}(h:p:=by go_wp2;exact⟨rfl,.inr ⟨HA.out,b,rfl,h1,h2,(wY.trans xP).trans h3⟩⟩):p:=h
def iZ{p:Prop}(h:p:=by clear hA xC;go_wp2_with fail;go_ret;exact .inl ⟨k',_,Z,HA.out,rfl,HQ.out,hP2,wZ.trans wY⟩):p:=h
def ig{p:Prop}(h:p:=by simp[results,Tryz.results171,go_sem,c0,c1,xW]):p:=h
def je{p:Prop}(h:p:=by clear hn;go_wp2;exact⟨rfl,.inr ⟨HA.out,b,rfl,h1,h2,(wU.alloc Pb _ _).trans h3⟩⟩):p:=h
def ik{p:Prop}(h:p:=by simp[results,Tryz.results234,go_sem,c0,xW]):p:=h
def kW{p:Prop}(h:p:=by have HA:=wN (xC.out.trans hA);clear hA xC;go_wp2;exact⟨rfl,.inr ⟨HA.out,b,rfl,h1,h2,wZ.trans h3⟩⟩):p:=h
def ko{p:Prop}(h:p:=by go_wp2;exact⟨rfl,.inr ⟨HA.out,b,rfl,h1,h2,h3⟩⟩):p:=h
def iY{p:Prop}(h:p:=by clear hA xC hQ e3;go_wp2_with fail;go_ret;exact .inl ⟨k',_,Z,HA.out,rfl,HQ.out,Du,zt.trans AO⟩):p:=h
def kX{p:Prop}(h:p:=by have HA:=wN (xC.out.trans hA);clear hA xC;go_wp2;exact⟨rfl,.inr ⟨HA.out,b,rfl,h1,h2,zt.trans h3⟩⟩):p:=h
def kg{p:Prop}(h:p:=by go_wp2;exact⟨rfl,.inr ⟨HA.out,b,rfl,h1,h2,AO.trans h3⟩⟩):p:=h
def jf{p:Prop}(h:p:=by clear za zF;go_wp2;exact⟨rfl,.inr ⟨HA.out,b,rfl,h1,h2,hK.trans (wY.trans h3)⟩⟩):p:=h
def j4{p:Prop}(h:p:=by go_wp2;exact⟨rfl,.inl ⟨HN.out,b,rfl,h1,h2,h3⟩⟩):p:=h
section
open Go.RowKit
def ZBu(w):(zeroValue 126).run prog w= .ok (.int .i64 0) w:=by kernel_rfl
def SY(xN:List vS)(s:vS):Bool:= !xN.contains s&& !s.isEmpty&&decide (((if 0<ze yT s then 0 else ze (Iq++yT) s:Nat):Int)=s.length)
def ZOq{w}{n}(h:IL w Kb n ks)(s)(hs:s.length<=100000):
  ∃v,(Instr.lookup 86 (.map (some Kb)) (.string ⟨s.toArray⟩) true).run prog w= .ok (.tuple #[v,.bool (ks.contains s)]) w:=by
 obtain⟨v,ps,Ba,_⟩:=rG (R:=ZlZ) (D:=Oa ks) h K8 underlying86 (ZBu w) rfl (K7 s hs);rw[ZnH]at Ba;exact⟨v,Ba⟩
def ZZl{p:Prop}(h:p:=by
 go_enter func89,ntmps89;go_wp2_with fail;go_ret;exact⟨PE (by unfold SY;rw[HK.out];rfl),rfl⟩):p:=h
def ZzU(R Kb n)(xN)(s)(w)(hs:s.length<=90000)(hk:w.cell? ⟨R,3,none⟩=some (.map (some Kb)))(hK:IL w Kb n xN):
  Calls prog 89 #[.pointer (some ⟨R,0,none⟩),.string ⟨s.toArray⟩] w λe w'=>e= .returned (.bool (SY xN s))/\w=w':=by
 obtain⟨v,hl⟩:=ZOq hK s Z;obtain⟨kc,NN⟩:∃kc,xN.contains s=kc:=⟨_,rfl⟩;rw[NN]at hl;have HK:=wN NN;clear NN;cases kc
 ·cases s with
  |nil=>
   exact ZZl
  |cons c s=>
   go_enter func89,ntmps89;go_wp2_with fail;refine(ZA7 (c::s) _ hs).mono ?_;rintro e w' ⟨rfl,rfl⟩;generalize hm:(if 0<ze yT (c::s)then 0 else ze (Iq++yT) (c::s))=m;have HM:=wN hm;clear hm;go_wp2;go_ret;refine⟨PE ?_,rfl⟩;unfold SY;rw[HK.out,HM.out];rw[p9];simp
 ·exact ZZl
def bad(n0:Nat)(line:Int)(w:World)(e:Ending)(w':World):Prop:=
 ∃b,e= .panicked (Ky b)/\w'.cell? ⟨b,0,none⟩=some (.int .i64 1)/\w'.cell? ⟨b,1,none⟩=some (.int .i64 line)/\Below n0 w w'
def Vw(p)(w):
  Calls prog 62 #[.pointer (some p),.bool true] w λe w'=>e= .returned (.tuple #[])/\w=w':=by
 go_enter func62,ntmps62;go_wp2_with fail;go_end0;exact⟨rfl,rfl⟩
def Zko(R)(line)(w)(hc:w.cell? ⟨R,0,none⟩=some (.int .i64 line)):
  Calls prog 62 #[.pointer (some ⟨R,0,none⟩),.bool false] w λe w'=>bad w.heap.size line w e w':=by
 go_enter func62,ntmps62;go_wp2_with fail;refine(ZgJ 1 line _).mono ?_;rintro e w' ⟨rfl,rfl⟩;go_wp2;exact⟨rfl,w.heap.size,rfl,ae,ae,(nW _ _).alloc (nV _) _⟩
end
section
open Go.RowKit
structure Zbj (w:World):Prop where
 syn:∃tp p,w.var? prog "strconv.ErrSyntax"=some #[.iface tp p]
 rng:∃tp p,w.var? prog "strconv.ErrRange"=some #[.iface tp p]
def ZIz:prog.globalNamed "strconv.ErrSyntax"=some 8:=by kernel_rfl
def ZIy:prog.globalNamed "strconv.ErrRange"=some 9:=by kernel_rfl
def Zbj.below{n}{w}(h:Zbj w)(hB:Below n w w')(hn:13<=n):Zbj w':=by
 obtain⟨⟨a,b,h1⟩,⟨c,d,h2⟩⟩:=h;exact⟨⟨a,b,var?_below hB ZIz Z h1⟩,⟨c,d,var?_below hB ZIy Z h2⟩⟩
def ZQR(s:vS)(w)(hs:s.length<=90000)(hv:Zbj w):
  Calls prog 163 #[.string ⟨s.toArray⟩,.int .i64 10,.int .i64 64] w λe w'=>vV w w'/\
   ((∃v,Lib.parseIntB 64 s= .ok v/\e= .returned (.tuple #[.int .i64 v,.nilIface]))\/
    ((∀v,Lib.parseIntB 64 s≠.ok v)/\∃v t p,e= .returned (.tuple #[.int .i64 v,.iface t p]))):=by
 obtain⟨⟨a,b,h1⟩,⟨c,d,h2⟩⟩:=hv;cases hp:Lib.parseIntB 64 s with
 |ok v=>
  refine(Tryz.strconv_ParseInt_10_at64_ok ⟨s.toArray⟩ dh v hp w).mono ?_;rintro e w' ⟨rfl,hw⟩;refine⟨?_,.inl ⟨v,rfl,rfl⟩⟩;rcases hw with rfl|⟨t,rfl⟩
  ·exact nW _ _
  ·exact Lib.bytesWorld_below _ _ _
 |«syntax»=>
  refine(Tryz.strconv_ParseInt_10_at64_syntax_var ⟨s.toArray⟩ dh hp a b w h1).mono ?_;exact mF
 |range=>
  refine(Tryz.strconv_ParseInt_10_at64_range_var ⟨s.toArray⟩ dh hp c d w h2).mono ?_;exact mF
def Uj(c:UInt8)(s:vS):vS:=s.takeWhile λx=>x≠c
def G8(s:vS):Option Nat:=
 if s.head? =some 39 then
  (let n:=(EX s).2
   if 0<n/\(n=s.length\/s[n]? =some 32)then some n else none)
 else some (Uj 32 s).length
def Nq{a w}(h:Below B a w)(n):Below B a (w.drewN n):=h.trans ⟨rfl,rfl,rfl,nV _,λ_ _=>rfl⟩
theorem Zek(c):∀s:vS,(Lib.indexByte s c= -1/\(s.takeWhile λx=>x≠c)=s)\/(∃k,k<s.length/\Lib.indexByte s c=k/\(s.takeWhile λx=>x≠c)=s.take k/\s[k]? =some c)
 | []=>.inl ⟨rfl,rfl⟩
 |b::l=>by
  by_cases h:b=c
  ·subst h;refine .inr ⟨0,ae,by simp[Lib.indexByte],?_,rfl⟩;simp[qB]
  ·rcases Zek c l with⟨h1,h2⟩|⟨k,hk,h1,h2,h3⟩
   ·refine .inl ⟨?_,?_⟩
    ·unfold Lib.indexByte;rw[nU ay,h1];rfl
    ·rw[qB,nY ay,h2]
   ·refine .inr ⟨k+1,bH,?_,?_,di⟩
    ·unfold Lib.indexByte;rw[nU ay,h1,nU (by rw[si];omega)];rfl
    ·rw[qB,nY ay,h2];rfl
def ZGH(s)(w)(hs:s.length<=90000):
  Calls prog 204 #[.string ⟨s.toArray⟩,.string ⟨#[32]⟩] w λe w'=>∃x b,e= .returned (.tuple #[.string ⟨(Uj 32 s).toArray⟩,.string x,.bool b])/\vV w w':=by
 have hex:=OJ;go_enter func204,ntmps204;go_wp2_with fail;refine(Tryz.stringslite_Index_one _ 32 _).mono ?_;rintro e w' ⟨rfl,hw⟩;obtain rfl:=hw.symm;rw[show(ByteArray.mk s.toArray).data.toList=s from rfl];rcases Zek 32 s with⟨h1,h2⟩|⟨k,hk,h1,h2,h3⟩
 ·have H2:Hid (Uj 32 s=s):=h2;rw[h1];clear h1 h2;go_wp2;go_ret3;exact⟨_,_,by rw[H2.out];rfl,nW _ _⟩
 ·have H2:Hid (Uj 32 s=s.take k):=h2;rw[h1];clear h1 h2 h3;go_wp2;go_quiet (fail);go_wp2;go_ret3;exact⟨_,_,by rw[H2.out];rfl,Nq (nW _ _) _⟩
def ZGI(s)(w)(hs:s.length<=90000):
  Calls prog 138 #[.string ⟨s.toArray⟩,.string ⟨#[32]⟩] w λe w'=>∃x b,e= .returned (.tuple #[.string ⟨(Uj 32 s).toArray⟩,.string x,.bool b])/\vV w w':=by
 have hex:=OJ;go_enter func138,ntmps138;go_wp2_with fail;refine(ZGH s _ hs).mono ?_;rintro e w' ⟨x,b,rfl,hB⟩;go_wp2;go_ret3;exact⟨_,_,rfl,hB⟩
def ZRO(R)(line)(s:vS)(w)(hs:s.length<=90000)(wF:s≠ [])(hc:w.cell? ⟨R,0,none⟩=some (.int .i64 line)):
  Calls prog 88 #[.pointer (some ⟨R,0,none⟩),.string ⟨s.toArray⟩] w λe w'=>
   (∃n,G8 s=some n/\e= .returned (.int .i64 n)/\vV w w')\/(G8 s=none/\bad w.heap.size line w e w'):=by
 have hlt:R<w.heap.size:=oH w ⟨R,0,none⟩ hc;obtain⟨c,r,rfl⟩:∃c r,s=c::r:=by cases s with|nil=>exact absurd rfl wF|cons c r=>exact⟨c,r,rfl⟩
 clear wF;go_enter func88,ntmps88;go_wp2_with fail
 ·have h39:((((ByteArray.mk (c::r).toArray)[0]'(rH _)).toNat:Int) != 39)=true:=by assumption
  have n39:c≠39:=ZEJ 39 h39 rfl;refine(ZGI (c::r) _ hs).mono ?_;rintro e w1 ⟨x,b,rfl,hB⟩;have HF:Hid (G8 (c::r)=some (Uj 32 (c::r)).length):=by
   show G8 (c::r)=_;unfold G8;rw[nU (by simpa using n39)]
  have zW:(Uj 32 (c::r)).length<=90000:=om (sH _).length_le hs;generalize Uj 32 (c::r)=t at HF zW ⊢;clear n39;go_wp2;go_ret;exact .inl ⟨_,HF.out,rfl,hB⟩
 ·have h39:((((ByteArray.mk (c::r).toArray)[0]'(rH _)).toNat:Int) != 39)=false:=by assumption
  have e39:c=39:=ZEI 39 h39 rfl;refine(ZqP (c::r) _ hs).mono ?_;rintro e w1 ⟨rfl,hB⟩;have yV:=wT hB hlt hc;have hql:=Zl6 c r;have HF:Hid (G8 (c::r)=if 0<(EX (c::r)).2/\((EX (c::r)).2=(c::r).length\/(c::r)[(EX (c::r)).2]? =some 32)then some (EX (c::r)).2 else none):=by
   show G8 (c::r)=_;unfold G8;rw[nY (by rw[e39];rfl)]
  generalize (EX (c::r)).2=n at HF hql ⊢;generalize (EX (c::r)).1=q;clear e39;by_cases h0:0<n
  ·by_cases h1:n=(c::r).length
   ·have wQ:Hid (G8 (c::r)=some n):=by show _=some n;rw[HF.out,nY ⟨h0,.inl h1⟩]
    clear HF;subst h1;go_wp2_with fail;refine(Vw _ _).mono ?_;rintro e w3 ⟨rfl,rfl⟩;go_wp2;go_ret;exact .inl ⟨_,wQ.out,ZaB ae,hB⟩
   ·have hn:n<(c::r).length:=by omega
    have yA:n<(ByteArray.mk (c::r).toArray).size:=hn;have hn':n<r.length+1:=bO
    have hb:((n:Int)==(r.length:Int)+1)=false:=by simp at h1 ⊢;omega
    have Bz:Hid (G8 (c::r)=if(c::r)[n]=32 then some n else none):=by
     show G8 (c::r)=_;rw[HF.out,oW hn];by_cases h2:(c::r)[n]=32
     ·rw[nY ⟨h0,.inr (by rw[h2])⟩,nY h2]
     ·rw[nU (λh=>h2 (by rcases h.2 with h|h;exact absurd h h1;exact oN h)),nU h2]
    clear HF h1;go_wp2_with fail;show Calls prog _ #[.pointer (some ⟨R,0,none⟩),.bool ((((c::r)[n]'hn).toNat:Int)==32)] w1 _;by_cases h32:(c::r)[n]=32
    ·have wQ:Hid (G8 (c::r)=some n):=by show _=some n;rw[Bz.out,nY h32]
     rw[show((((c::r)[n]'hn).toNat:Int)==32)=true from by rw[h32];rfl];refine(Vw _ _).mono ?_;rintro e w3 ⟨rfl,rfl⟩;clear h32 Bz;go_wp2;go_ret;exact .inl ⟨_,wQ.out,rfl,hB⟩
    ·have wO:Hid (G8 (c::r)=none):=by show _=none;rw[Bz.out,nU h32]
     rw[show((((c::r)[n]'hn).toNat:Int)==32)=false from by rw[pQ];intro e;exact h32 (ZhR (b:=32) e)];refine(Zko R line _ yV).mono ?_;rintro e w3 ⟨b,rfl,Bj,yz,wH⟩;clear h32 Bz;exact kr
  ·have h0':n=0:=by omega
   have wO:Hid (G8 (c::r)=none):=by show _=none;rw[HF.out,nU Z]
   clear HF;subst h0';go_wp2_with fail;refine(Zko R line _ yV).mono ?_;rintro e w3 ⟨b,rfl,Bj,yz,wH⟩;exact kr
end
section
open Go.RowKit
def JB(s:vS):vS:=Lib.trimLeftB s 32
def Zta(s:vS):JB (32::s)=JB s:=by simp[JB,Lib.trimLeftB]
def Zs9(c)(s:vS)(h:c≠32):JB (c::s)=c::s:=by simp[JB,Lib.trimLeftB,h]
def Ztb:JB []= []:=by simp[JB,Lib.trimLeftB]
theorem ZbA:∀s,(JB s).length<=s.length
 | []=>by rw[Ztb];exact jo
 |c::s=>by
  by_cases h:c=32
  ·subst h;rw[Zta];have:=ZbA s;simp;omega
  ·rw[Zs9 c s h];exact jo
theorem Zel:∀s c (r:vS),JB s=c::r->c≠32
 | [],c,r,h=>by rw[Ztb]at h;cases h
 |d::s,c,r,h=>by
  by_cases hd:d=32
  ·subst hd;rw[Zta]at h;exact Zel s c r h
  ·rw[Zs9 d s hd]at h;rw[<-(rE h).1];exact hd
def Zia{c:UInt8}{r:vS}(h:c≠32){n:Nat}(hn:G8 (c::r)=some n):0<n/\n<=(c::r).length:=by
 unfold G8 at hn;by_cases h39:c=39
 ·rw[nY (by simp[h39])]at hn;simp only at hn;split at hn
  ·rename_i h2;cases hn;exact⟨h2.1,Zl6 c r⟩
  ·cases hn
 ·rw[nU (by simpa using h39)]at hn;cases hn;refine⟨?_,(sH _).length_le⟩;unfold Uj;rw[qB,nY ay];simp
def Ns:Nat->vS->Option (List vS)
 |0,_=>some []
 |f+1,s=>
  match JB s with
  | []=>some []
  |c::r=>
   match G8 (c::r)with
   |none=>none
   |some n=>(Ns f ((c::r).drop n)).map ((c::r).take n::·)
def fieldsOf(s:vS):Option (List vS):=Ns (s.length+1) s
def ZHU(f):∀s g,s.length<f->s.length<g->Ns f s=Ns g s:=by
 induction f with
 |zero=>intro s g h;omega
 |succ f ih=>
  intro s g hf hg;obtain⟨g,rfl⟩:∃g',g=g'+1:=⟨g-1,Z⟩;rw[Ns,Ns];have zW:=ZbA s;cases ht:JB s with
  |nil=>rfl
  |cons c r=>
   have hc:=Zel s c r ht;rw[ht]at zW;simp only;cases hl:G8 (c::r)with
   |none=>rfl
   |some n=>
    have hp:=Zia hc hl;simp only;rw[ih ((c::r).drop n) g aL aL]
def ZHZ{s:vS}(h:JB s= []):fieldsOf s=some []:=by
 unfold fieldsOf;rw[Ns,h]
def ZH0{s:vS}{c:UInt8}{r:vS}(h:JB s=c::r)(hl:G8 (c::r)=none):fieldsOf s=none:=by
 unfold fieldsOf;rw[Ns,h];simp only;rw[hl]
def ZH1{s:vS}{c:UInt8}{r:vS}(h:JB s=c::r){n:Nat}(hl:G8 (c::r)=some n):
  fieldsOf s=(fieldsOf ((c::r).drop n)).map ((c::r).take n::·):=by
 have hp:=Zia (Zel s c r h) hl;have zW:=ZbA s;rw[h]at zW;unfold fieldsOf;rw[Ns,h];simp only;rw[hl];simp only;rw[ZHU s.length ((c::r).drop n) (((c::r).drop n).length+1) aL Z]
def ZHW(w:World)(line:Int):Option (List vS)->Ending->World->Prop
 |none,e,w'=>bad w.heap.size line w e w'
 |some l,e,w'=>∃v,e= .returned v/\w'.ownsRow w.heap.size 9 1 v l.length (l.map Ij)/\vV w w'
def Zgk{w:World}{e n:Nat}{v:Value}(h:w.ownsRow B e size v n xs)(hb:vV w w'):w'.ownsRow B e size v n xs:=by
 refine⟨h.1,?_⟩;rcases h.2 with h0|⟨g,cap,cur,rfl,hg,hh,r⟩
 ·exact jg
 ·exact lh
def Zku:Value->Nat| .string s=>s.size|_=>0
def trimLeft(s)(w):
  Calls prog 87 #[.string ⟨s.toArray⟩,.string ⟨#[32]⟩] w λe w'=>e= .returned (.string ⟨(JB s).toArray⟩)/\w=w':=
 (Tryz.strings_TrimLeft_one ⟨s.toArray⟩ 32 O w).mono λe w' h=>⟨h.1,h.2.symm⟩
def ZRP(R)(line)(s)(w)(hs:s.length<=90000)(hc:w.cell? ⟨R,0,none⟩=some (.int .i64 line)):
  Calls prog 59 #[.pointer (some ⟨R,0,none⟩),.string ⟨s.toArray⟩] w λe w'=>ZHW w line (fieldsOf s) e w':=by
 have hlt:R<w.heap.size:=oH w ⟨R,0,none⟩ hc;have hex:=OJ;obtain⟨i0,hi,hz0,yo,hz2⟩:=oM Tryz.ZMJ;go_enter func59,ntmps59;go_wp2_with fail;refine(trimLeft s _).mono ?_;rintro e w' ⟨rfl,rfl⟩;go_wp2;go_loopw [5,6,7] (λv t _ wr=>∃(x:vS) (out:List vS),x.length<=s.length/\out.length+x.length<=s.length/\t= .string ⟨(JB x).toArray⟩/\wr.ownsRow w.heap.size 9 1 v out.length (out.map Ij)/\vV w wr/\Hid ((fieldsOf x).map (out++·)=fieldsOf s))
  (λ_ t _ _=>Zku t)
 case atStart=>exact⟨s, [],nV _,ae,rfl,pV _ _ _ _,nW _ _,by simp[Hid]⟩
 case round=>
  obtain⟨x,out,hx,ho,rfl,wD,hB,hq⟩:=hrel;have ZI:=wT hB hlt hc;have zW:=ZbA x;cases ht:JB x with
  |nil=>
   have HR:Hid (fieldsOf s=some out):=by show _=some out;rw[<-hq.out,ZHZ ht];simp
   clear ht;go_wp2_with fail;go_ret;rw[HR.out];exact⟨_,rfl,wD,hB⟩
  |cons c r=>
   rw[ht]at zW;have ZnQ:=Zel x c r ht;have HT:=wN ht;clear ht;go_wp2_with fail;refine(ZRO R line (c::r) _ Z ae ZI).mono ?_;rintro e w1 (⟨n,hn,rfl,wE⟩|⟨hn,b,rfl,Bj,yz,wH⟩)
   ·have hp:=Zia ZnQ hn;have HN:=wN hn;clear hn ZnQ;obtain⟨CZ,yY⟩:=hp;have CY:=Zgk wD wE;have wK:=hB.trans (wE.mono hB.size);simp only[List.length_cons]at yY zW;clear wD hB wE ZI;go_wp2_with (at_builtin;refine pE _ rfl _ _ 24 rfl w.heap.size 9 i0 (.string ⟨#[]⟩) 1 16 underlying24 hi hz0 yo hz2 rfl O _ _ _ rfl (CY.alloc _) ⟨w1.heap.size,0,none⟩ 1 1 [Ij ((c::r).take n)] rfl rfl (rq _ _ _) (by simp[Value.oneCell',Ij]) aj Z (by have:=wK.size;simp;omega) ?_;intro v' w2 zm xQ _);rw[oO (by rw[qD,List.length_cons];exact nV _)];have wH:=R6 wK wK.size CY xQ;have HS:Hid (fieldsOf s=(fieldsOf ((c::r).drop n)).map ((out++ [(c::r).take n])++·)):=by
     show fieldsOf s=_;rw[<-hq.out,ZH1 HT.out HN.out,tZ];congr 1;funext l;simp
    clear xQ CY wK;have LC:((c::r).drop n).length=r.length+1-n:=by rw[qD,List.length_cons]
    generalize (c::r).drop n=y at LC HS ⊢;refine(trimLeft y _).mono ?_;rintro e w3 ⟨rfl,rfl⟩;go_wp2;have hyl:=ZbA y;refine⟨⟨y,out++ [(c::r).take n],Z,ah,rfl,dm,wH,HS.out.symm⟩,?_⟩;simp only[Zku,Wv,List.length_cons];omega
   ·have HR:Hid (fieldsOf s=none):=by show _=none;rw[<-hq.out,ZH0 HT.out hn];rfl
    clear hn ZnQ;go_wp2;refine⟨rfl,?_⟩;rw[HR.out];exact⟨b,rfl,Bj,yz,hB.trans (wH.mono hB.size)⟩
end
section
open Go.RowKit
def Tt(k:vS):Option Int:=if k= [105,110,116]then some 1 else if k= [116,101,120,116]then some 2 else none
def ZVB(w):(zeroValue 117).run prog w= .ok (.int .i64 0) w:=by kernel_rfl
def ZjX{w}{b n}(h:IL w b n ks)(hB:vV w w'):IL w' b n ks:=by
 obtain⟨es,clock,hb,r⟩:=h;exact⟨es,clock,xq hB hb,r⟩
abbrev Y1(w:World):World:=(w.alloc (.cells #[.string ⟨#[]⟩,.int .i64 0] 119)).alloc (.map #[] 0)
def ZUp(w)(kind)(zl:kind.length<=90000):
  ∃w1 w2 ty,
    (Instr.mapUpdate 316 (.map (some (w.heap.size+1))) (.string ⟨#[105,110,116]⟩) (.int .i64 1)).run prog (Y1 w)= .ok () w1/\
    (Instr.mapUpdate 316 (.map (some (w.heap.size+1))) (.string ⟨#[116,101,120,116]⟩) (.int .i64 2)).run prog w1= .ok () w2/\
    (Instr.lookup 316 (.map (some (w.heap.size+1))) (.string ⟨kind.toArray⟩) true).run prog w2= .ok (.tuple #[.int .i64 ty,.bool (Tt kind).isSome]) w2/\
    (∀t,Tt kind=some t->ty=t)/\vV w w2/\w.heap.size+2<=w2.heap.size/\
    w2.cell? ⟨w.heap.size,0,none⟩=some (.string ⟨#[]⟩)/\w2.cell? ⟨w.heap.size,1,none⟩=some (.int .i64 0)/\w2.frozen? ⟨w.heap.size,0,none⟩=false/\w2.frozen? ⟨w.heap.size,1,none⟩=false:=by
 have h0:=World.ownsMap_made (H:=Unit) (w.alloc (.cells #[.string ⟨#[]⟩,.int .i64 0] 119)) prog 9 (plainElem prog 117);rw[qo]at h0;obtain⟨w1,Em,CY,Fq⟩:=h0.update K8 underlying316 aj (K7 [105,110,116] ae) (plainElem_int underlying117 (a:=1) O);obtain⟨w2,EA,zI,Cj⟩:=CY.update K8 underlying316 aj (K7 [116,101,120,116] ae) (plainElem_int underlying117 (a:=2) O);obtain⟨v,ps,hl,hv⟩:=zI.look_ok K8 underlying316 (ZVB w2) (plainElem_int underlying117 (a:=0) O) (K7 kind Z);obtain⟨ty,rfl,hz,_⟩:=plainElem_int_inv underlying117 hv;have ZE:=congrArg Prod.fst hz;simp only at ZE;have x8:vV w (Y1 w):=((nW _ w).alloc (nV _) _).alloc ae _;have wE:=x8.grown Fq ah (λk e=>dn);have wK:=wE.grown Cj wE.size (λk e=>dn);have En:=Fq.size;have Ay:=Cj.size;have UH:w2.heap[w.heap.size]? =(Y1 w).heap[w.heap.size]? :=(Cj.block w.heap.size (by simp at En;omega) gU).trans (Fq.block w.heap.size ah gU);refine⟨w1,w2,ty,Em,EA,?_,?_,wK,by simp at En;omega,?_,?_,?_,?_⟩
 ·have hh:Maps.has (((DataW.map []).put (AB [105,110,116]) (DataW.lit (Lit.int IntKind.i64 1))).put (AB [116,101,120,116]) (DataW.lit (Lit.int IntKind.i64 2)):DataW Unit) (AB kind)=(Tt kind).isSome:=by
   unfold Tt;by_cases e1:kind= [105,110,116]
   · rw[nY e1,e1];rfl
   · by_cases e2:kind= [116,101,120,116]
     ·rw[nU e1,nY e2,e2];rfl
     ·rw[nU e1,nU e2,Maps.has_put_other (show AB kind≠AB [116,101,120,116] from λe=>e2 (Lit.string.inj e)),Maps.has_put_other (show AB kind≠AB [105,110,116] from λe=>e1 (Lit.string.inj e))];rfl
  rw[hl,hh]
 ·intro t ht;unfold Tt at ht;by_cases e1:kind= [105,110,116]
  · rw[nY e1]at ht;rw[e1,Maps.atKey_put_other (show AB [105,110,116]≠AB [116,101,120,116] from by intro e;cases e),Maps.atKey_put_same Maps.isMap_empty (show WideAt.IsKeyLit (AB [105,110,116]) from trivial)]at ZE;cases ht;cases ZE;rfl
  · by_cases e2:kind= [116,101,120,116]
    · rw[nU e1,nY e2]at ht;rw[e2,Maps.atKey_put_same (Maps.isMap_empty.put _ _) (show WideAt.IsKeyLit (AB [116,101,120,116]) from trivial)]at ZE;cases ht;cases ZE;rfl
    · rw[nU e1,nU e2]at ht;cases ht
 ·rw[pK UH];simp[Y1]
 ·rw[pK UH];simp[Y1]
 ·rw[tq UH];simp[Y1]
 ·rw[tq UH];simp[Y1]
def ZzS(R Kb nK)(xN)(line)(name kind)(w)(hn:name.length<=90000)(zl:kind.length<=90000)(hc:w.cell? ⟨R,0,none⟩=some (.int .i64 line))(hk:w.cell? ⟨R,3,none⟩=some (.map (some Kb)))(hK:IL w Kb nK xN):
  Calls prog 91 #[.pointer (some ⟨R,0,none⟩),.string ⟨name.toArray⟩,.string ⟨kind.toArray⟩] w λe w'=>
   (∃ty,Tt kind=some ty/\SY xN name=true/\e= .returned (.agg #[.string ⟨name.toArray⟩,.int .i64 ty])/\vV w w')\/
   ((Tt kind=none\/SY xN name=false)/\bad w.heap.size line w e w'):=by
 have Z0:=@run_makeMap prog;have hlt:R<w.heap.size:=oH w ⟨R,0,none⟩ hc;obtain⟨w1,w2,ty,Em,EA,hl,EK,hB,Ay,Ch,yV,IA,Ci⟩:=ZUp w kind zl;have ZI:=wT hB hlt hc;have JG:=wT hB hlt hk;have hKr:=ZjX hK hB;have HTy:=wN EK;clear EK;cases hto:Tt kind with
 |none=>
  rw[hto]at hl;simp only[Option.isSome_none]at hl;go_enter func91,ntmps91;go_wp2_with fail;refine(Zko R line _ ZI).mono ?_;rintro e w3 ⟨b,rfl,Bj,yz,wH⟩;go_wp2;exact⟨rfl,.inr ⟨.inl trivial,b,rfl,Bj,yz,hB.trans (wH.mono hB.size)⟩⟩
 |some t=>
  rw[hto]at hl;simp only[Option.isSome_some]at hl;have HT:=wN (HTy.out t hto);go_enter func91,ntmps91;go_wp2_with fail;refine(ZzU R Kb nK xN name _ hn JG hKr).mono ?_;rintro e w3 ⟨rfl,rfl⟩;generalize Bq:SY xN name=nm;have HN:=wN Bq;clear Bq;cases nm
  ·go_wp2_with fail;refine(Zko R line _ ZI).mono ?_;rintro e w3 ⟨b,rfl,Bj,yz,wH⟩;go_wp2;exact⟨rfl,.inr ⟨.inr (by first|exact HN.out|rfl|trivial),b,rfl,Bj,yz,hB.trans (wH.mono hB.size)⟩⟩
  ·go_wp2_with fail;refine(Vw _ _).mono ?_;rintro e w3 ⟨rfl,rfl⟩;go_wp2;refine oZ (v:=.agg #[.string ⟨name.toArray⟩,.int .i64 ty]) (by simp[results,Tryz.results91,go_sem,Ch,yV]) rfl (.inl ⟨t,rfl,HN.out,by rw[HT.out],?_⟩);exact(hB.setCell (p:=⟨w.heap.size,0,none⟩) (nV _) _).setCell (p:=⟨w.heap.size,1,none⟩) (nV _) _
end
section
open Go.RowKit
def Dt(cs:List (vS×Int)):List Value:=cs.flatMap λc=> [Ij c.1,.int .i64 c.2]
def OM{w:World}{T:Nat}{cv pv rv:Value}(h:w.heap[T]? =some (.cells #[cv,pv,rv] ty)):
  w.cell? ⟨T,0,none⟩=some cv/\w.cell? ⟨T,1,none⟩=some pv/\w.cell? ⟨T,2,none⟩=some rv/\(∀k,w.frozen? ⟨T,k,none⟩=false):=
 ⟨bq,bq,bq,λk=>dO⟩
def ZPW{e n:Nat}{v:Value}(h:W.ownsRow B e sz v (n+1) xs):∃g cap,v= .slice (some ⟨g,0,none⟩) (n+1) cap:=by
 rcases h.2 with⟨_,h0⟩|⟨g,cap,cur,rfl,_⟩
 ·cases h0
 ·exact⟨g,cap,rfl⟩
def Zgl{e n:Nat}{v:Value}(h:W.ownsRow B e sz v n xs):∃a cap,v= .slice a n cap:=by
 rcases h.2 with⟨rfl,rfl⟩|⟨g,cap,cur,rfl,_⟩
 ·exact⟨none,0,rfl⟩
 ·exact⟨_,cap,rfl⟩
theorem ZtX:∀cs k (h:k<cs.length),(Dt cs)[2*k+1]? =some (.int .i64 cs[k].2)
 |c::cs,0,_=>by simp[Dt]
 |c::cs,k+1,h=>by
  have ih:=ZtX cs k ay;have e:Dt (c::cs)=Ij c.1:: .int .i64 c.2::Dt cs:=rfl;rw[e,show 2*(k+1)+1=(2*k+1)+2 from Z];simpa using ih
def Tj{w:World}{b k:Nat}{u:Value}{e:TypeId}(h:w.heap[b]? =some (.cells cur e fr)):(w.setCell ⟨b,k,none⟩ u).heap[b]? =some (.cells (cur.setIfInBounds k u) e fr):=by
 simp[World.setCell,tY,h]
def ZcZ{w:World}{e n:Nat}{v:Value}(h:w.ownsRow B e sz v n xs){b k:Nat}{u:Value}{e':TypeId}(hb:w.heap[b]? =some (.cells cur e' fr))(wF:e≠e'):
  (w.setCell ⟨b,k,none⟩ u).ownsRow B e sz v n xs:=by
 exact Z0G
def ZPN{w:World}{e n:Nat}{v:Value}(h:w.ownsRow B e sz v n xs){row:Option Nat}(hg:w.grownBy w' row)(wF:∀g,v.ownBlock=some g->some g≠row):w'.ownsRow B e sz v n xs:=by
 refine⟨h.1,?_⟩;rcases h.2 with h0|⟨g,cap,cu,rfl,hb,hh,r⟩
 ·exact jg
 ·exact ji
def ZPX{w:World}{e e' sz' n n':Nat}{v v':Value}{xs':List Value}(h:w.ownsRow B e sz v n xs)(h':w.ownsRow B' e' sz' v' n' xs')(wF:e≠e'):∀g,v.ownBlock=some g->some g≠v'.ownBlock:=by
 intro g hg e1;rcases h.2 with⟨rfl,_⟩|⟨g1,cap,cu,rfl,hb,hh,r⟩
 ·cases hg
 ·cases hg;rcases h'.2 with⟨rfl,_⟩|⟨g2,yZ,EZ,rfl,Af,hh2,r2⟩
  ·cases e1
  ·cases e1;rw[hh]at hh2;exact wF (by injection hh2 with h1;injection h1)
def IM{w}{b n}(h:IL w b n ks)(hB:w'.heap[b]? =w.heap[b]?):IL w' b n ks:=by
 exact l6
def Tryz.ZMG:(prog.info? 78).map (λi=>(i.zero,i.size,i.bytes))=some (some (.slice none 0 0),1,24):=by kernel_rfl
end
section
open Go.RowKit
open Go.Shelf
attribute [local go_sem] Oper.semAt_some
def ZGj(l Bs Bn g o m cap)(W)(hm:m<=6)(O3:2*m<=cap)(ZiZ:cap<=maxLen)(h0:W.cell? ⟨Bs,0,none⟩=some (.slice (some ⟨g,o,none⟩) (2*m) cap))(h1:W.cell? ⟨Bn,0,none⟩=some (.int .i64 2))(J:Nat->World->Prop)(Jp:List PanicEntry->World->Prop)(Je:∀k A n,J k A->J k (A.drewN n))(hY:∀k W1,J k W1->k<m->YieldAt Fence.wide 2 prog l #[.slice (some ⟨g,o+2*k,none⟩) 2 2] W1 λe W'=>
   (e= .returned (.bool true)/\J (k+1) W'/\W'.heap[Bs]? =W1.heap[Bs]?/\W'.heap[Bn]? =W1.heap[Bn]?)\/(∃ch,e= .panicked ch/\Jp ch W'))(LU:J 0 W):
  CallsIn Fence.wide 3 prog 140 #[.func (.yield l) #[] #[],.pointer (some ⟨Bs,0,none⟩),.pointer (some ⟨Bn,0,none⟩)] W λe W'=>
   (∃v,e= .returned v/\J m W')\/(∃ch,e= .panicked ch/\Jp ch W'):=by
 unfold maxLen at ZiZ;refine callsIn_of_wp func140 rfl trivial ?_ rfl;simp only[ntmps140,qf,List.length_cons,List.length_nil,Nat.reduceAdd,Nat.reduceSub,qg,Array.replicate_zero,qh,qj,List.nil_append,List.cons_append];have TS:=wN hY;have HJd:=wN Je;clear hY Je;gi_wp2;gi_loopw [4] (λi wr=>∃k:Nat,k<=m/\i= .int .i64 (2*k:Nat)/\wr.cell? ⟨Bs,0,none⟩=some (.slice (some ⟨g,o,none⟩) (2*m) cap)/\wr.cell? ⟨Bn,0,none⟩=some (.int .i64 2)/\J k wr) (λi _=>2*m-(intOf i).toNat);case atStart=>exact⟨0,Z,rfl,h0,h1,LU⟩
 case round=>
  clear h0 h1 LU;obtain⟨k,hk,rfl,h0,h1,hj⟩:=hrel;by_cases hlt:k<m
  ·gi_wp2;refine wpIn_wide.2 ?_;go_quiet (fail);rw[show min (2:Int) ((2*m-2*k:Nat):Int)=2 from Z];have UO:=HJd.out k wr nq hj;obtain⟨fn,tmps,assign,body,hy,hR⟩:=TS.out k _ UO hlt;have HR:Hid _:=hR;clear hR;gi_wp2;refine qG HR.out ?_;rintro e W3 (⟨rfl,He,Bj,yz⟩|⟨ch,rfl,hp⟩)
   ·have c0:=(pK (w:=wr) (a:=⟨Bs,0,none⟩) Bj).trans h0;have c1:=(pK (w:=wr) (a:=⟨Bn,0,none⟩) yz).trans h1;clear Bj yz hy;gi_wp2;refine⟨⟨k+1,Z,?_,c0,c1,He⟩,?_⟩
    ·exact VL Z
    ·simp[intOf];omega
   ·exact jU
  ·gi_wp2;go_end0;obtain rfl:k=m:=by omega
   exact .inl ⟨_,rfl,hj⟩
end
section
open Go.RowKit
open Go.Shelf
attribute [local go_sem] Oper.semAt_some
def ZEQ(x:vS)(h:Lib.indexByte x 10= -1):EW x= [x]:=by
 unfold EW;have key:∀(x cur:vS),Lib.indexByte x 10= -1->I9 cur x= [cur++x]:=by
  intro x;induction x with
  |nil=>intro cur _;simp[I9]
  |cons c r ih=>
   intro cur h;unfold Lib.indexByte at h;by_cases hc:c=10
   ·subst hc;simp at h
   ·rw[nU aD]at h;rw[Zs0 _ _ _ hc,ih (cur++ [c]) (by
     by_cases h2:Lib.indexByte r 10= -1
     ·exact h2
     ·rw[nU bP]at h;rcases Zek 10 r with⟨h3,_⟩|⟨k,_,h3,_⟩
      ·exact h3
      ·rw[h3]at h;omega)]
    simp
 simpa using key x [] h
def ZET(x:vS)(k:Nat)(h:Lib.indexByte x 10=k):EW x=x.take k::EW (x.drop (k+1)):=by
 unfold EW;have key:∀(x cur:vS) (k:Nat),Lib.indexByte x 10=k->I9 cur x=(cur++x.take k)::I9 [] (x.drop (k+1)):=by
  intro x;induction x with
  |nil=>intro cur k h;simp[Lib.indexByte]at h<;>omega
  |cons c r ih=>
   intro cur k h;unfold Lib.indexByte at h;by_cases hc:c=10
   ·subst hc;rw[nY (by rfl)]at h;obtain rfl:k=0:=by omega
    rw[ZEP];simp
   ·rw[nU aD]at h;by_cases h2:Lib.indexByte r 10= -1
    ·rw[nY bP]at h;omega
    ·rw[nU bP]at h;obtain⟨k,rfl⟩:∃k',k=k'+1:=⟨k-1,by
      rcases Zek 10 r with⟨h3,_⟩|⟨j,_,h3,_⟩
      ·exact absurd h3 h2
      ·rw[h3]at h;omega⟩
     rw[Zs0 _ _ _ hc,ih (cur++ [c]) k Z];simp
 simpa using key x [] k h
def ZSL(l Bs Bp Bv)(s)(W)(hs:s.length<=90000)(Hz:Bs≠Bp)(CL:Bs≠Bv)(h0:W.cell? ⟨Bs,0,none⟩=some (.string ⟨s.toArray⟩))(IA:W.frozen? ⟨Bs,0,none⟩=false)(h1:W.cell? ⟨Bp,0,none⟩=some (.string ⟨#[10]⟩))(h2:W.cell? ⟨Bv,0,none⟩=some (.int .i64 0))(J:List vS->World->Prop)(Jp:List PanicEntry->World->Prop)(hJ:∀pre A v,J pre A->J pre (A.setCell ⟨Bs,0,none⟩ v))(Je:∀pre A n,J pre A->J pre (A.drewN n))(hY:∀pre x post W1,J pre W1->pre++x::post=EW s->YieldAt Fence.wide 2 prog l #[Ij x] W1 λe W'=>
   (e= .returned (.bool true)/\J (pre++ [x]) W'/\W'.heap[Bs]? =W1.heap[Bs]?/\W'.heap[Bp]? =W1.heap[Bp]?/\W'.heap[Bv]? =W1.heap[Bv]?)\/(∃ch,e= .panicked ch/\Jp ch W'))(LU:J [] W):
  CallsIn Fence.wide 3 prog 85 #[.func (.yield l) #[] #[],.pointer (some ⟨Bp,0,none⟩),.pointer (some ⟨Bs,0,none⟩),.pointer (some ⟨Bv,0,none⟩)] W λe W'=>
   (∃v,e= .returned v/\J (EW s) W')\/(∃ch,e= .panicked ch/\Jp ch W'):=by
 have hex:=OJ;refine callsIn_of_wp func85 rfl trivial ?_ rfl;simp only[ntmps85,qf,List.length_cons,List.length_nil,Nat.reduceAdd,Nat.reduceSub,qg,Array.replicate_zero,qh,qj,List.nil_append,List.cons_append];have HY:=hY;have TS:=wN HY;have HJ:=wN hJ;have HJd:=wN Je;clear hY HY hJ Je;gi_wp2;gi_loopw [7,8] (λ_ _ wr=>∃(x:vS) (pre:List vS),x.length<=s.length/\wr.cell? ⟨Bs,0,none⟩=some (.string ⟨x.toArray⟩)/\wr.frozen? ⟨Bs,0,none⟩=false/\wr.cell? ⟨Bp,0,none⟩=some (.string ⟨#[10]⟩)/\wr.cell? ⟨Bv,0,none⟩=some (.int .i64 0)/\J pre wr/\Hid (pre++EW x=EW s))
  (λ_ _ wr=>match wr.cell? ⟨Bs,0,none⟩with|some v=>Zku v|none=>0)
 case atStart=>exact⟨s, [],nV _,h0,IA,h1,h2,LU,rfl⟩
 case round=>
  clear h0 IA h1 h2 LU;obtain⟨x,pre,hx,h0,IA,h1,h2,hj,hl⟩:=hrel;rcases Zek 10 x with⟨hi,_⟩|⟨k,hk,hi,_,_⟩
  ·have HL:Hid (pre++ [x]=EW s):=by show _=_;rw[<-hl.out,ZEQ x hi]
   obtain⟨fn,tmps,assign,body,hy0,hR⟩:=TS.out pre x [] wr hj HL.out;have hy:(Instr.yield l #[.string ⟨x.toArray⟩]).run prog wr= .ok (.round l fn tmps assign body) wr:=hy0;have HR:Hid _:=hR;clear hy0 hR;gi_wp2_with (refine⟨trivial,?_⟩;gi_at_call 86;refine((qK (n:=2)).2 (Tryz.strings_Index_one ⟨x.toArray⟩ 10 _)).mono ?_;rintro e w' ⟨rfl,hw⟩;obtain rfl:=hw.symm);refine qG HR.out ?_;rintro e W3 (⟨rfl,He,_⟩|⟨ch,rfl,hp⟩)
   ·gi_wp2;go_end0;rw[HL.out]at He;exact .inl ⟨_,rfl,He⟩
   ·exact jU
  ·have HL:Hid (pre++x.take k::EW (x.drop (k+1))=EW s):=by show _=_;rw[<-hl.out,ZET x k hi]
   obtain⟨fn,tmps,assign,body,hy0,hR⟩:=TS.out pre (x.take k) _ wr hj HL.out;have hy:(Instr.yield l #[.string ⟨(x.take k).toArray⟩]).run prog wr= .ok (.round l fn tmps assign body) wr:=hy0;have HR:Hid _:=hR;clear hy0 hR;gi_wp2_with (refine⟨trivial,?_⟩;gi_at_call 86;refine((qK (n:=2)).2 (Tryz.strings_Index_one ⟨x.toArray⟩ 10 _)).mono ?_;rintro e w' ⟨rfl,hw⟩;obtain rfl:=hw.symm);refine qG HR.out ?_;rintro e W3 (⟨rfl,He,Bj,yz,Af⟩|⟨ch,rfl,hp⟩)
   ·have c0:=yP Bj h0;have f0:=(tq (a:=⟨Bs,0,none⟩) Bj).trans IA;have c1:=yP yz h1;have c2:=yP Af h2;clear Bj yz Af hy;gi_wp2;have et:List.take (List.length x-(k+1)) (List.drop (k+1) x)=x.drop (k+1):=oO gW;rw[et];have cn:(W3.setCell ⟨Bs,0,none⟩ (.string ⟨(x.drop (k+1)).toArray⟩)).cell? ⟨Bs,0,none⟩=some (.string ⟨(x.drop (k+1)).toArray⟩):=rT _ _ _ (by rw[c0];rfl);have q1:(W3.setCell ⟨Bs,0,none⟩ (.string ⟨(x.drop (k+1)).toArray⟩)).cell? ⟨Bp,0,none⟩=some (.string ⟨#[10]⟩):=
     (pK (w:=W3) (a:=⟨Bp,0,none⟩) (ou W3 ⟨Bs,0,none⟩ _ Bp (λe=>Hz e.symm))).trans c1
    have q2:(W3.setCell ⟨Bs,0,none⟩ (.string ⟨(x.drop (k+1)).toArray⟩)).cell? ⟨Bv,0,none⟩=some (.int .i64 0):=
     (pK (w:=W3) (a:=⟨Bv,0,none⟩) (ou W3 ⟨Bs,0,none⟩ _ Bv (λe=>CL e.symm))).trans c2
    refine⟨⟨x.drop (k+1),pre++ [x.take k],aL,cn,by rw[World.frozen?_setCell];exact f0,q1,q2,HJ.out _ _ _ He,?_⟩,?_⟩
    ·show(pre++ [x.take k])++EW (x.drop (k+1))=EW s;rw[<-HL.out];simp
    ·rw[cn,h0];simp only[Zku,Wv,qD];omega
   ·exact jU
end
section
open Go.RowKit
def ZZm{p:Prop}(h:p:=by
 rintro e W' (⟨v,rfl,hj,hL,hD⟩|⟨ch,rfl,hp⟩)
 ·exact jQ
 ·exact Z8 ch W' hp):p:=h
def ZZn{p:Prop}(h:p:=by
 rintro k A n ⟨h1,h2,h3⟩;exact⟨Je k A n h1,fD,fE⟩):p:=h
def ZUT{a:Act}{w:World}{g:Operand}(Bs Bn gb o m cap:Nat)(J:Nat->World->Prop)(Jp)(Bo:prog.funcs[bf]? =some Y5)(hg:a.eval g= .func (.func 140) #[] #[.pointer (some ⟨Bs,0,none⟩),.pointer (some ⟨Bn,0,none⟩)])(II:ps.size=1)(hm:m<=6)(O3:2*m<=cap)(ZiZ:cap<=maxLen)(h0:w.cell? ⟨Bs,0,none⟩=some (.slice (some ⟨gb,o,none⟩) (2*m) cap))(h1:w.cell? ⟨Bn,0,none⟩=some (.int .i64 2))(Je:∀k A n,J k A->J k (A.drewN n))(Ny:J 0 (Dz w bf a.tmps ps assign body))(Zad:∀k A rb A2,J k A->k<m->FM (w.heap.size+1) A A2->A2.heap[w.heap.size+1]? =some (.loop rb)->A2.heap[w.heap.size]? =some (.deferred (some []))->
   assign.wpIn (Fence.wide.inRound (w.heap.size+1)) 2 prog (Exit.then (λa₁ w₁=>w₁=A/\body.wpIn (Fence.wide.inRound (w.heap.size+1)) 2 prog
    (Zem (w.heap.size+1) w.heap.size rb (λA'=>J (k+1) A'/\A'.heap[Bs]? =A.heap[Bs]?/\A'.heap[Bn]? =A.heap[Bn]?) Jp) a₁ A2) (λ_ _ _=>False))
    {tmps:=(ps.zip #[.slice (some ⟨gb,o+2*k,none⟩) 2 2]).foldl (λtmps (t,a)=>tmps.setIfInBounds t a) a.tmps,defers:= []} A)(Hq:∀A A2,J m A->FM (w.heap.size+1) A A2->A2.heap[w.heap.size]? =some (.deferred (some []))->
   Q .normal {a with defers:={target:=.collected w.heap.size,args:=#[]}::a.defers} A2)(Z8:∀ch A,Jp ch A->Q (.panic ch) {a with defers:={target:=.collected w.heap.size,args:=#[]}::a.defers} A):
  Js bf prog (Code.rangeFunc g ps assign body) Q a w:=by
 have MF:Bs<w.heap.size:=oH w _ h0;have Qp:Bn<w.heap.size:=oH w _ h1;refine ZgX (gf:=140) hg (λ_ _=>rfl) ?_;refine Calls.mono ((qK (n:=3)).1 (ZGj (w.heap.size+1) Bs Bn gb o m cap (Dz w bf a.tmps ps assign body) hm O3 ZiZ ?_ ?_
  (λk A=>J k A/\A.heap[w.heap.size+1]? =some (.loop (PD bf a.tmps ps assign body w.heap.size .ready))/\A.heap[w.heap.size]? =some (.deferred (some []))) Jp ?_ ?_ ?_)) ?_
 ·exact(pK (Rc MF)).trans h0
 ·exact(pK (Rc Qp)).trans h1
 ·exact ZZn
 ·rintro k A ⟨hj,hL,hD⟩ hk;have hy:=Zg1 (P:=prog) (n:=2) (l:=w.heap.size+1) (D:=w.heap.size) (args:=#[.slice (some ⟨gb,o+2*k,none⟩) 2 2]) hL hD Z fF rfl rfl Bo (λrb A2 h1 h2 h3=>Zad k A rb A2 hj hk h1 h2 h3);obtain⟨fn,tmps,I8,bd,U4,hR⟩:=hy;refine⟨fn,tmps,I8,bd,U4,qG hR ?_⟩;rintro e W' (⟨rfl,⟨h1,h2,h3⟩,h4,h5⟩|h)
  ·exact .inl ⟨rfl,⟨h1,h4,h5⟩,h2,h3⟩
  ·exact .inr h
 ·exact⟨Ny,Zgw ..,Zgv ..⟩
 ·exact ZZm
def ZUU{a:Act}{w:World}{g:Operand}(Bs Bp Bv:Nat)(s:vS)(J:List vS->World->Prop)(Jp)(Bo:prog.funcs[bf]? =some Y5)(hg:a.eval g= .func (.func 85) #[] #[.pointer (some ⟨Bp,0,none⟩),.pointer (some ⟨Bs,0,none⟩),.pointer (some ⟨Bv,0,none⟩)])(II:ps.size=1)(hs:s.length<=90000)(Hz:Bs≠Bp)(CL:Bs≠Bv)(h0:w.cell? ⟨Bs,0,none⟩=some (.string ⟨s.toArray⟩))(IA:w.frozen? ⟨Bs,0,none⟩=false)(h1:w.cell? ⟨Bp,0,none⟩=some (.string ⟨#[10]⟩))(h2:w.cell? ⟨Bv,0,none⟩=some (.int .i64 0))(hJs:∀pre A v,J pre A->J pre (A.setCell ⟨Bs,0,none⟩ v))(Je:∀pre A n,J pre A->J pre (A.drewN n))(Ny:J [] (Dz w bf a.tmps ps assign body))(Zad:∀pre x post A rb A2,J pre A->pre++x::post=EW s->FM (w.heap.size+1) A A2->A2.heap[w.heap.size+1]? =some (.loop rb)->A2.heap[w.heap.size]? =some (.deferred (some []))->
   assign.wpIn (Fence.wide.inRound (w.heap.size+1)) 2 prog (Exit.then (λa₁ w₁=>w₁=A/\body.wpIn (Fence.wide.inRound (w.heap.size+1)) 2 prog
    (Zem (w.heap.size+1) w.heap.size rb (λA'=>J (pre++ [x]) A'/\A'.heap[Bs]? =A.heap[Bs]?/\A'.heap[Bp]? =A.heap[Bp]?/\A'.heap[Bv]? =A.heap[Bv]?) Jp) a₁ A2) (λ_ _ _=>False))
    {tmps:=(ps.zip #[Ij x]).foldl (λtmps (t,a)=>tmps.setIfInBounds t a) a.tmps,defers:= []} A)(Hq:∀A A2,J (EW s) A->FM (w.heap.size+1) A A2->A2.heap[w.heap.size]? =some (.deferred (some []))->
   Q .normal {a with defers:={target:=.collected w.heap.size,args:=#[]}::a.defers} A2)(Z8:∀ch A,Jp ch A->Q (.panic ch) {a with defers:={target:=.collected w.heap.size,args:=#[]}::a.defers} A):
  Js bf prog (Code.rangeFunc g ps assign body) Q a w:=by
 have MF:Bs<w.heap.size:=oH w _ h0;have xA:Bp<w.heap.size:=oH w _ h1;have hBv:Bv<w.heap.size:=oH w _ h2;refine ZgX (gf:=85) hg (λ_ _=>rfl) ?_;refine Calls.mono ((qK (n:=3)).1 (ZSL (w.heap.size+1) Bs Bp Bv s (Dz w bf a.tmps ps assign body) hs Hz CL ?_ ?_ ?_ ?_
  (λk A=>J k A/\A.heap[w.heap.size+1]? =some (.loop (PD bf a.tmps ps assign body w.heap.size .ready))/\A.heap[w.heap.size]? =some (.deferred (some []))) Jp ?_ ?_ ?_ ?_)) ?_
 ·exact(pK (Rc MF)).trans h0
 ·exact(tq (Rc MF)).trans IA
 ·exact(pK (Rc xA)).trans h1
 ·exact(pK (Rc hBv)).trans h2
 ·rintro pre A v ⟨h1,h2,h3⟩;exact⟨hJs pre A v h1,(ou A ⟨Bs,0,none⟩ _ _ (by show _≠Bs;omega)).trans h2,(ou A ⟨Bs,0,none⟩ _ _ (by show _≠Bs;omega)).trans h3⟩
 ·exact ZZn
 ·rintro pre x post A ⟨hj,hL,hD⟩ hk;have hy:=Zg1 (P:=prog) (n:=2) (l:=w.heap.size+1) (D:=w.heap.size) (args:=#[Ij x]) hL hD Z fF rfl rfl Bo (λrb A2 h1 h2 h3=>Zad pre x post A rb A2 hj hk h1 h2 h3);obtain⟨fn,tmps,I8,bd,U4,hR⟩:=hy;refine⟨fn,tmps,I8,bd,U4,qG hR ?_⟩;rintro e W' (⟨rfl,⟨h1,h2,h3,h6⟩,h4,h5⟩|h)
  ·exact .inl ⟨rfl,⟨h1,h4,h5⟩,h2,h3,h6⟩
  ·exact .inr h
 ·exact⟨Ny,Zgw ..,Zgv ..⟩
 ·exact ZZm
end
section
open Go.RowKit
def ZEO(s):∀cur x,x∈I9 cur s->x.length<=cur.length+s.length:=by
 induction s with
 |nil=>intro cur x hx;simp[I9]at hx;subst hx;simp
 |cons c r ih=>
  intro cur x hx;rw[I9]at hx;split at hx
  ·rcases oQ.1 hx with rfl|hx
   ·simp
   ·have:=ih [] x hx;simp at this ⊢;omega
  ·have:=ih _ x hx;simp at this ⊢;omega
def ZES{s}{x:vS}(h:x∈EW s):x.length<=s.length:=by have:=ZEO s [] x h;simpa using this
def ZER(s):(EW s).length<=s.length+1:=ZEN s []
def Zz6:vS:= [116,97,98,108,101]
def Zz5:vS:= [114,111,119]
end
section
open Go.RowKit
open Go.Shelf
attribute [local go_sem] Oper.semAt_some
def ZVA(w):(zeroValue 88).run prog w= .ok (.pointer none) w:=by kernel_rfl
def ZOt{w}{n}(h:IL w M n ks)(s)(hs:s.length<=100000):
  ∃v,(Instr.lookup 48 (.map (some M)) (.string ⟨s.toArray⟩) true).run prog w= .ok (.tuple #[v,.bool (ks.contains s)]) w:=by
 obtain⟨v,ps,Ba,_⟩:=rG (R:=ZlZ) (D:=Oa ks) h K8 underlying48 (ZVA w) rfl (K7 s hs);rw[ZnH]at Ba;exact⟨v,Ba⟩
def Zyw(n:Nat):Bool:=decide (3<=n/\n%2=1/\n<=13)
end
section
open Go.RowKit
def Mt(acc:Nat)(s:vS):Nat:=s.foldl (λa c=>a*10+(c.toNat-48)) acc
def Zl8(acc):Mt acc []=acc:=by unfold Mt;rw[List.foldl_nil]
def Zl7(acc)(c)(r:vS):Mt acc (c::r)=Mt (acc*10+(c.toNat-48)) r:=by unfold Mt;rw[List.foldl_cons]
def Ztc(s):∀acc,acc<=Mt acc s:=by
 induction s with
 |nil=>intro acc;rw[Zl8];exact jo
 |cons c r ih=>intro acc;have:=ih (acc*10+(c.toNat-48));rw[Zl7];omega
def Zej:vS->Prop
 | []=>True
 |c::r=>(48<=c.toNat/\c.toNat<=57)/\Zej r
def ZEF{s:vS}(h:ze yT s=s.length):Zej s:=by
 induction s with
 |nil=>trivial
 |cons c r ih=>
  rw[Zbz]at h;by_cases hc:yT.contains c=true
  ·rw[nY hc]at h;exact⟨ZEL hc,ih ay⟩
  ·rw[nU hc]at h;simp at h
def Zs1(s):∀(acc:Nat),Zej s->acc<=9223372036854775808->R7 (-(acc:Int)) s=if Mt acc s<=9223372036854775808 then some (-(Mt acc s:Int))else none:=by
 induction s with
 |nil=>intro acc _ h;rw[R7,Zl8,nY h]
 |cons c r ih=>
  intro acc hd h;obtain⟨⟨h0,h9⟩,hr⟩:=hd;rw[ZEV,Zl7];have e:=ZE3 ((c.toNat:Int)-48) Z Z;rw[e];have UN:=Ztc r (acc*10+(c.toNat-48));by_cases hlt: -(acc:Int)< -((9223372036854775808-((c.toNat:Int)-48))/10)
  ·rw[nY hlt,nU Z]
  ·rw[nU hlt];have hn:=ih (acc*10+(c.toNat-48)) hr Z;rw[<-hn];congr 1;omega
def ZE4(s):∀acc,Zej s->acc<=18446744073709551615->Lib.parseUintM 18446744073709551615 acc s=if Mt acc s<=18446744073709551615 then .ok (Mt acc s)else .range:=by
 induction s with
 |nil=>intro acc _ h;rw[Lib.parseUintM,Zl8,nY h]
 |cons c r ih=>
  intro acc hd h;obtain⟨⟨h0,h9⟩,hr⟩:=hd;have UN:=Ztc r (acc*10+(c.toNat-48));rw[Lib.parseUintM,Zl7,nY ⟨h0,h9⟩];by_cases h1:1844674407370955162<=acc
  ·rw[nY h1,nU Z]
  ·rw[nU h1];by_cases h2:18446744073709551615<acc*10+(c.toNat-48)
   ·rw[nY h2,nU Z]
   ·rw[nU h2];exact ih _ hr Z
def ZEY{d}(hd:Zej d)(neg):(JA d neg).2=decide (Mt 0 d<9223372036854775808\/(neg=true/\Mt 0 d=9223372036854775808)):=by
 have h:=Zs1 d 0 hd Z;rw[show -((0:Nat):Int)=0 from rfl]at h;by_cases hv:Mt 0 d<=9223372036854775808
 ·rw[nY hv]at h;cases neg
  ·rw[Zs2 h,p9];simp only[oL,rF,false_and,pW];omega
  ·rw[ZEW h];symm;apply su;simp only[sP];omega
 ·rw[nU hv]at h;rw[ZEX neg h];simp;omega
def ZEK{c:UInt8}(h:48<=c.toNat):c≠45/\c≠43/\c≠39:=by
 refine⟨?_,?_,?_⟩<;>(intro e;subst e;revert h;decide)
def LZ:vS:= [115,101,108,101,99,116,32,100,105,115,116,105,110,99,116,32,102,114,111,109,32,119,104,101,114,101,32,103,114,111,117,112,32,98,121,32,104,97,118,105,110,103,32,97,115,32,117,110,105,111,110,32,105,110,116,101,114,115,101,99,116,32,101,120,99,101,112,116,32,97,108,108,32,97,110,121,32,97,110,100,32,111,114,32,110,111,116,32,101,120,105,115,116,115,32,105,110,32,105,115,32,110,117,108,108,32,99,111,117,110,116,32,115,117,109,32,109,105,110,32,109,97,120]
def splitB(cur:vS):vS->List vS
 | []=> [cur]
 |c::r=>if c=32 then cur::splitB [] r else splitB (cur++ [c]) r
def IP:List vS:=splitB [] LZ
def ZUm(s r:vS)(h:(32:UInt8)∉s):(s++32::r).takeWhile (λc=>c != 32)=s:=by
 induction s with
 |nil=>rfl
 |cons c s ih=>
  have hc:c≠32:=λe=>h cO;rw[List.cons_append,qB,nY aD,ih (λe=>h (qb _ e))]
def ZNc:((List.range 124).all λi=>(G5.drop i).head? != some 32||IP.contains ((G5.drop (i+1)).takeWhile λc=>c != 32))=true:=by decide +kernel
def ZNd:(IP.all OL)=true:=by decide +kernel
def ZNe(s)(h:(32:UInt8)∉s):IP.contains s=OL s:=by
 rw[p9];constructor
 ·intro h1;exact pR.1 ZNd s bQ
 ·intro h1;unfold OL Wu at h1;obtain⟨i,hi,he⟩:=rR.1 h1;rw[ru]at hi;have hl:G5.length=125:=rfl;rw[hl]at hi;simp only[List.length_cons,o6,List.length_nil]at hi;have O5:(G5.drop i).take (s.length+2)=32::(s++ [32]):=by
   have:=eq_of_beq he;exact nR
  have hd:G5.drop i=32::(s++ [32])++(G5.drop i).drop (s.length+2):=by rw[<-O5,sS]
  have O4:G5.drop (i+1)=s++32::(G5.drop i).drop (s.length+2):=by
   have:G5.drop (i+1)=(G5.drop i).drop 1:=fB
   rw[this];conv=>lhs;rw[hd]
   simp
  have hc:=pR.1 ZNc i (by rw[ru];omega);rw[O4,ZUm _ _ h,hd]at hc;simpa using hc
def Vr(xN:List vS)(p:vS×vS):Bool:=(Tt p.2).isSome&&SY xN p.1
def Di(ps:List (vS×vS)):List (vS×Int):=ps.map λp=>(p.1,(Tt p.2).getD 0)
end
section
open Go.RowKit
open Go.Shelf
attribute [local go_sem] Oper.semAt_some
def isSp(c:UInt8):Bool:=c==9||c==10||c==11||c==12||c==13||c==32
def Cs(s:vS):Nat->List vS×Int
 |0=>([], -1)
 |k+1=>if isSp (s.getD k 0)then(if 0<=(Cs s k).2 then((Cs s k).1++ [(s.drop (Cs s k).2.toNat).take (k-(Cs s k).2.toNat)], -1)else Cs s k)else((Cs s k).1,if(Cs s k).2<0 then(k:Int)else(Cs s k).2)
def ZmO(s)(k):Cs s (k+1)=if isSp (s.getD k 0)then(if 0<=(Cs s k).2 then((Cs s k).1++ [(s.drop (Cs s k).2.toNat).take (k-(Cs s k).2.toNat)], -1)else Cs s k)else((Cs s k).1,if(Cs s k).2<0 then(k:Int)else(Cs s k).2):=rfl
def Zie(s:vS):List vS:=if 0<=(Cs s s.length).2 then(Cs s s.length).1++ [s.drop (Cs s s.length).2.toNat]else(Cs s s.length).1
theorem ZuB(s):∀k,(Cs s k).2= -1\/∃j:Nat,(Cs s k).2=j/\j<k
 |0=>.inl rfl
 |k+1=>by
  have ih:=ZuB s k;rw[ZmO];split
  ·split
   ·exact .inl rfl
   ·rcases ih with h|⟨j,h,h2⟩
    ·exact .inl h
    ·exact .inr ⟨j,h,Z⟩
  ·rcases ih with h|⟨j,h,h2⟩
   ·rw[h];exact .inr ⟨k,rfl,Z⟩
   ·rw[h];refine .inr ⟨j,?_,Z⟩;show(if(j:Int)<0 then(k:Int)else j)=j;rw[nU Z]
theorem ZuA(s):∀k,(Cs s k).1.length<=k
 |0=>nV _
 |k+1=>by
  have ih:=ZuA s k;rw[ZmO];split
  ·split
   ·simp;omega
   ·omega
  ·show(Cs s k).1.length<=k+1;omega
def ZuC:Zie LZ=IP:=by decide +kernel
def Zyt:∀c∈LZ,c.toNat<128:=by decide +kernel
def ZHX(l Bs)(s)(W)(hs:s.length<=90000)(ZiU:∀c∈s,c.toNat<128)(J:List vS->World->Prop)(Jp:List PanicEntry->World->Prop)(Je:∀pre A n,J pre A->J pre (A.drewN n))(Ny:∀pre A,J pre A->A.cell? ⟨Bs,0,none⟩=some (.string ⟨s.toArray⟩)/\∀c,c.toNat<128->A.cell? ⟨1,c.toNat,none⟩=some (.int .u8 (if isSp c then 1 else 0)))(hY:∀pre x W1,J pre W1->pre.length<=s.length->x.length<=s.length->YieldAt Fence.wide 2 prog l #[Ij x] W1 λe W'=>(e= .returned (.bool true)/\J (pre++ [x]) W')\/(∃ch,e= .panicked ch/\Jp ch W'))(LU:J [] W):
  CallsIn Fence.wide 3 prog 82 #[.func (.yield l) #[] #[],.pointer (some ⟨Bs,0,none⟩)] W λe W'=>
   (∃v,e= .returned v/\J (Zie s) W')\/(∃ch,e= .panicked ch/\Jp ch W'):=by
 have hex:=OJ;refine callsIn_of_wp func82 rfl trivial ?_ rfl;simp only[ntmps82,qf,List.length_cons,List.length_nil,Nat.reduceAdd,Nat.reduceSub,qg,Array.replicate_zero,qh,qj,List.nil_append,List.cons_append];have TS:=wN hY;have HJd:=wN Je;have Yw:=wN Ny;have ZBE:=wN ZiU;clear hY Je Ny ZiU;gi_wp2;gi_loopw [3,4] (λst i wr=>∃k:Nat,k<=s.length/\i= .int .i64 k/\st= .int .i64 (Cs s k).2/\J (Cs s k).1 wr) (λ_ i _=>s.length-(intOf i).toNat);case atStart=>exact⟨0,Z,rfl,rfl,LU⟩
 case round=>
  clear LU;obtain⟨k,hk,rfl,rfl,hj⟩:=hrel;obtain⟨Fp,Qy⟩:=Yw.out _ _ hj;have yI:=ZuB s k;have hle:=ZuA s k;by_cases hlt:k<s.length
  ·have yA:k<(ByteArray.mk s.toArray).size:=hlt;obtain⟨c,hc⟩:∃c,(ByteArray.mk s.toArray)[k]'yA=c:=⟨_,rfl⟩;have ZJ0:c.toNat<128:=by rw[<-hc];exact ZBE.out _ (oC (l:=s) hlt)
   have HC:Hid (s.getD k 0=c):=by
    show s.getD k 0=c;rw[<-hc,qI,oW hlt];rfl
   have Cv:=Qy c ZJ0;have Z5:¬(128:Int)<=(c.toNat:Int):=Z
   clear Qy;have N8:=ZmO s k;rw[HC.out]at N8;obtain⟨q,hq⟩:∃q,Cs s k=q:=⟨_,rfl⟩;rw[hq]at yI hle hj N8 ⊢;obtain⟨pre,stt⟩:=q;simp only at yI hle hj N8 ⊢;cases Hz:isSp c
   ·rw[Hz]at Cv N8;simp only[rF,qE]at Cv N8;have RF:=wN N8;clear N8 Hz hq;rcases yI with rfl|⟨j,rfl,LD⟩
    ·gi_wp2;refine⟨⟨k+1,Z,ak,?_,?_⟩,aT⟩
     ·rw[RF.out];rfl
     ·rw[RF.out];exact hj
    ·have Xo:¬(j:Int)<0:=by omega
     gi_wp2;refine⟨⟨k+1,Z,ak,?_,?_⟩,aT⟩
     ·rw[RF.out,nU Xo]
     ·rw[RF.out];exact hj
   ·rw[Hz]at Cv N8;simp only[pX]at Cv N8;rcases yI with rfl|⟨j,rfl,LD⟩
    ·have RF:Hid (Cs s (k+1)=(pre, -1)):=by show _=_;rw[N8,nU Z]
     clear N8 Hz hq;gi_wp2;refine⟨⟨k+1,Z,ak,?_,?_⟩,aT⟩
     ·rw[RF.out]
     ·rw[RF.out];exact hj
    ·have RF:Hid (Cs s (k+1)=(pre++ [(s.drop j).take (k-j)], -1)):=by show _=_;rw[N8,nY Z];rfl
     clear N8 Hz hq;have Xo:(0:Int)<=(j:Int):=Z
     obtain⟨fn,tmps,assign,body,hy0,hR⟩:=TS.out pre ((s.drop j).take (k-j)) wr hj Z (by rw[sw,qD];omega);have hy:(Instr.yield l #[.string ⟨((s.drop j).take (k-j)).toArray⟩]).run prog wr= .ok (.round l fn tmps assign body) wr:=hy0;have HR:Hid _:=hR;clear hy0 hR;gi_wp2;refine qG HR.out ?_;rintro e W3 (⟨rfl,He⟩|⟨ch,rfl,hp⟩)
     ·clear hy;gi_wp2;refine⟨⟨k+1,Z,ak,?_,?_⟩,aT⟩
      ·rw[RF.out]
      ·rw[RF.out];exact He
     ·exact jU
  ·obtain rfl:k=s.length:=by omega
   have HE:Hid (Zie s=if 0<=(Cs s s.length).2 then(Cs s s.length).1++ [s.drop (Cs s s.length).2.toNat]else(Cs s s.length).1):=rfl;obtain⟨q,hq⟩:∃q,Cs s s.length=q:=⟨_,rfl⟩;rw[hq]at yI hle hj HE ⊢;obtain⟨pre,stt⟩:=q;simp only at yI hle hj HE ⊢;clear Qy hq;rcases yI with rfl|⟨j,rfl,LD⟩
   ·gi_wp2;go_end0;refine .inl ⟨_,rfl,?_⟩;rw[HE.out,nU Z];exact hj
   ·have Xo:(0:Int)<=(j:Int):=by omega
    obtain⟨fn,tmps,assign,body,hy0,hR⟩:=TS.out pre (s.drop j) wr hj Z aL;have hy:(Instr.yield l #[.string ⟨(s.drop j).toArray⟩]).run prog wr= .ok (.round l fn tmps assign body) wr:=hy0;have HR:Hid _:=hR;clear hy0 hR;have et:List.take (s.length-j) (List.drop j s)=s.drop j:=oO gW;gi_wp2;refine qG HR.out ?_;rintro e W3 (⟨rfl,He⟩|⟨ch,rfl,hp⟩)
    ·clear hy;gi_wp2;go_end0;refine .inl ⟨_,rfl,?_⟩;rw[HE.out,nY Xo];exact He
    ·exact jU
def ZBd{a:Act}{w}{g:Operand}(Bs:Nat)(s:vS)(J:List vS->World->Prop)(Jp)(Bo:prog.funcs[bf]? =some Y5)(hg:a.eval g= .func (.func 82) #[] #[.pointer (some ⟨Bs,0,none⟩)])(II:ps.size=1)(hs:s.length<=90000)(ZiU:∀c∈s,c.toNat<128)(Je:∀pre A n,J pre A->J pre (A.drewN n))(Ny:∀pre A,J pre A->A.cell? ⟨Bs,0,none⟩=some (.string ⟨s.toArray⟩)/\∀c:UInt8,c.toNat<128->A.cell? ⟨1,c.toNat,none⟩=some (.int .u8 (if isSp c then 1 else 0)))(ZJk:J [] (Dz w bf a.tmps ps assign body))(Zad:∀pre x A rb A2,J pre A->pre.length<=s.length->x.length<=s.length->FM (w.heap.size+1) A A2->A2.heap[w.heap.size+1]? =some (.loop rb)->A2.heap[w.heap.size]? =some (.deferred (some []))->
   assign.wpIn (Fence.wide.inRound (w.heap.size+1)) 2 prog (Exit.then (λa₁ w₁=>w₁=A/\body.wpIn (Fence.wide.inRound (w.heap.size+1)) 2 prog
    (Zem (w.heap.size+1) w.heap.size rb (λA'=>J (pre++ [x]) A') Jp) a₁ A2) (λ_ _ _=>False))
    {tmps:=(ps.zip #[Ij x]).foldl (λtmps (t,a)=>tmps.setIfInBounds t a) a.tmps,defers:= []} A)(Hq:∀A A2,J (Zie s) A->FM (w.heap.size+1) A A2->A2.heap[w.heap.size]? =some (.deferred (some []))->
   Q .normal {a with defers:={target:=.collected w.heap.size,args:=#[]}::a.defers} A2)(Z8:∀ch A,Jp ch A->Q (.panic ch) {a with defers:={target:=.collected w.heap.size,args:=#[]}::a.defers} A):
  Js bf prog (Code.rangeFunc g ps assign body) Q a w:=by
 refine ZgX (gf:=82) hg (λ_ _=>rfl) ?_;refine Calls.mono ((qK (n:=3)).1 (ZHX (w.heap.size+1) Bs s (Dz w bf a.tmps ps assign body) hs ZiU
  (λk A=>J k A/\A.heap[w.heap.size+1]? =some (.loop (PD bf a.tmps ps assign body w.heap.size .ready))/\A.heap[w.heap.size]? =some (.deferred (some []))) Jp ?_ ?_ ?_ ?_)) ?_
 ·exact mQ
 ·rintro pre A ⟨h1,_,_⟩;exact Ny pre A h1
 ·rintro pre x A ⟨hj,hL,hD⟩ Br Dx;have hy:=Zg1 (P:=prog) (n:=2) (l:=w.heap.size+1) (D:=w.heap.size) (args:=#[Ij x]) hL hD Z fF rfl rfl Bo (λrb A2 h1 h2 h3=>Zad pre x A rb A2 hj Br Dx h1 h2 h3);exact Z0F
 ·exact⟨ZJk,Zgw ..,Zgv ..⟩
 ·rintro e W' (⟨v,rfl,hj,hL,hD⟩|⟨ch,rfl,hp⟩)
  ·exact jQ
  ·exact Z8 ch W' hp
end
section
open Go.RowKit
def X3(w:World)(r)(o):(w.putObj r o).heap.size=w.heap.size:=by simp[World.putObj]
def Tryz.ZcJ:(prog.info? 119).map (λi=>(i.zero,i.size,i.bytes))=some (some (.agg #[.string ⟨#[]⟩,.int .i64 0]),2,24):=by kernel_rfl
def ZhX(w:World)(a b)(ty):∀j u, [a,b][j]? =some u->(w.alloc (.cells #[a,b] ty)).cell? ((⟨w.heap.size,0,none⟩:Addr).add j)=some u:=by
 exact Z0C
def Vu{h:Array Obj}{o:Obj}{i:Nat}(e:i=h.size):(h.push o)[i]? =some o:=by subst e;simp
def JQ{h:Array Obj}{o:Obj}{i:Nat}(hi:i<h.size):(h.push o)[i]? =h[i]? :=by rw[tu,nU Z]
def Zda(h:Array Obj)(o0 o1 o2 o3 o4 o5):
  ((((((h.push o0).push o1).push o2).push o3).push o4).push o5)[h.size]? =some o0/\((((((h.push o0).push o1).push o2).push o3).push o4).push o5)[h.size+1]? =some o1/\((((((h.push o0).push o1).push o2).push o3).push o4).push o5)[h.size+2]? =some o2/\
  ((((((h.push o0).push o1).push o2).push o3).push o4).push o5)[h.size+3]? =some o3/\((((((h.push o0).push o1).push o2).push o3).push o4).push o5)[h.size+4]? =some o4/\((((((h.push o0).push o1).push o2).push o3).push o4).push o5)[h.size+5]? =some o5:=by
 refine⟨?_,?_,?_,?_,?_,?_⟩
 ·rw[JQ aC,JQ aC,JQ aC,JQ aC,JQ aC,Vu aM]
 ·rw[JQ aC,JQ aC,JQ aC,JQ aC,Vu aM]
 ·rw[JQ aC,JQ aC,JQ aC,Vu aM]
 ·rw[JQ aC,JQ aC,Vu aM]
 ·rw[JQ aC,Vu aM]
 ·rw[Vu aM]
structure Mj (B R M:Nat) (w w':World):Prop where
 os:w'.os=w.os
 tape:w'.tape=w.tape
 output:w'.output=w.output
 size:w.heap.size<=w'.heap.size
 block:∀b,b<B->b≠R->b≠M->w'.heap[b]? =w.heap[b]?
def Mj.vZ{R}{w}(h:Below B w w'):Mj B R M w w':=⟨h.os,h.tape,h.output,h.size,λb hb _ _=>h.block b hb⟩
theorem Mj.trans{R}{w GU}(h:Mj B R M w w')(h':Mj B R M w' GU):Mj B R M w GU:=
 ⟨h'.os.trans h.os,h'.tape.trans h.tape,h'.output.trans h.output,om h.size h'.size,λb h1 h2 h3=>(h'.block b h1 h2 h3).trans (h.block b h1 h2 h3)⟩
def ZGw(xN:List vS)(l:List vS):Prop:=(zn l).all (Vr xN)=true/\((zn l).map (·.1)).Nodup
structure J3 (N R g o cap:Nat) (xN:List vS) (l:List vS) (k:Nat) (W A:World):Prop where
 low:Below N W A
 bR:A.heap[N]? =some (.cells #[.pointer (some ⟨R,0,none⟩)] 85)
 bT:A.heap[N+3]? =some (.cells #[.pointer (some ⟨N+2,0,none⟩)] 88)
 bF:A.heap[N+4]? =some (.cells #[.slice (some ⟨g,o+1,none⟩) l.length (cap-1)] 24)
 b2:A.heap[N+5]? =some (.cells #[.int .i64 2] 3)
 sz:N+8<=A.heap.size
 pl:IL A (N+1) k (((zn l).take k).map (·.1))
 pv:JS A (N+1) k (placesOf (((zn l).take k).map (·.1)))
 tb:∃cv,A.heap[N+2]? =some (.cells #[cv,.map (some (N+1)),.slice none 0 0] 232)/\A.ownsRow (N+8) 119 2 cv k (Dt (Di ((zn l).take k)))
 ok:((zn l).take k).all (Vr xN)=true
section
variable {N R g o cap:Nat} {xN:List vS} {l:List vS} {k:Nat} {W A A':World}
def J3.same(h:J3 N R g o cap xN l k W A)(hs:A.heap.size<=A'.heap.size)(h1:A'.os=A.os)(h2:A'.tape=A.tape)(h3:A'.output=A.output)(hb:∀b,b<A.heap.size->b≠N+7->A'.heap[b]? =A.heap[b]?):J3 N R g o cap xN l k W A':=by
 obtain⟨cv,t1,t2⟩:=h.tb;have yA:=h.sz;have lo:=λb (Cg:b<N+7)=>hb b Z Z;refine⟨⟨h1.trans h.low.os,h2.trans h.low.tape,h3.trans h.low.output,om h.low.size hs,λb Cg=>(lo b Z).trans (h.low.block b Cg)⟩,
  (lo _ Z).trans h.bR,(lo _ Z).trans h.bT,(lo _ Z).trans h.bF,(lo _ Z).trans h.b2,om yA hs,IM h.pl (lo _ Z),Il h.pv (lo _ Z),⟨cv,(lo _ Z).trans t1,?_⟩,h.ok⟩
 refine⟨t2.1,?_⟩;rcases t2.2 with h0|⟨g,cap,cu,rfl,hg,hh,r⟩
 ·exact jg
 ·exact .inr ⟨g,cap,cu,rfl,hg,(hb g (wo hh) Z).trans hh,r⟩
def J3.put(h:J3 N R g o cap xN l k W A)(ob):J3 N R g o cap xN l k W (A.putObj (N+7) ob):=
 h.same (by rw[X3];exact nV _) rfl rfl rfl (λb _ hb=>pF hb)
def J3.grow(h:J3 N R g o cap xN l k W A)(hB:vV A A'):J3 N R g o cap xN l k W A':=
 h.same hB.size hB.os hB.tape hB.output (λb hb _=>hB.block b hb)
theorem J3.drewN(h:J3 N R g o cap xN l k W A)(n):J3 N R g o cap xN l k W (A.drewN n):=
 h.grow (Nq (nW _ _) n)
end
theorem Zzs:∀(l:List vS) (k:Nat) (h:2*k+1<l.length),(zn l)[k]? =some (l[2*k]' Z,l[2*k+1]'h)
 | [],k,h=>ax
 | [_],k,h=>ax
 |n::t::r,0,h=>rfl
 |n::t::r,k+1,h=>by
  have ih:=Zzs r k (by simp at h;omega);rw[zn,List.getElem?_cons_succ,ih];congr 1
theorem Zzt:∀l,(zn l).length=l.length/2
 | []=>rfl
 | [_]=>by simp[zn]
 |n::t::r=>by rw[zn,List.length_cons,Zzt r];simp;omega
theorem ZgI{α:Type}:∀(l:List α) k (x:α),l[k]? =some x->l.take (k+1)=l.take k++ [x]
 | [],k,x,h=>ax
 |a::l,0,x,h=>by simp at h;subst h;rfl
 |a::l,k+1,x,h=>by
  rw[List.getElem?_cons_succ]at h;rw[List.take_succ_cons,ZgI l k x h];rfl
end
section
open Go.RowKit
open Go.Shelf
attribute [local go_sem] Oper.semAt_some
def I5(w:World):Prop:=1<w.heap.size/\∀c:UInt8,c.toNat<128->w.cell? ⟨1,c.toNat,none⟩=some (.int .u8 (if isSp c then 1 else 0))
structure ZdS (N:Nat) (pre:List vS) (W A:World):Prop where
 low:Below N W A
 b1:A.heap[N+1]? =some (.cells #[.map (some N)] 86)
 b2:A.heap[N+2]? =some (.cells #[.string ⟨LZ.toArray⟩] 9)
 sz:N+5<=A.heap.size
 ks:IL A N pre.length pre
def ZdS.same(h:ZdS N pre W A)(hs:A.heap.size<=A'.heap.size)(h1:A'.os=A.os)(h2:A'.tape=A.tape)(h3:A'.output=A.output)(hb:∀b,b<N+4->A'.heap[b]? =A.heap[b]?):ZdS N pre W A':=
 ⟨⟨h1.trans h.low.os,h2.trans h.low.tape,h3.trans h.low.output,om h.low.size hs,λb Cg=>(hb b Z).trans (h.low.block b Cg)⟩,(hb _ Z).trans h.b1,(hb _ Z).trans h.b2,om h.sz hs,IM h.ks (hb _ Z)⟩
def VI(h:Array Obj)(o0 o1 o2):(((h.push o0).push o1).push o2)[h.size]? =some o0/\(((h.push o0).push o1).push o2)[h.size+1]? =some o1/\(((h.push o0).push o1).push o2)[h.size+2]? =some o2:=by
 refine⟨?_,?_,?_⟩
 ·rw[JQ aC,JQ aC,Vu aM]
 ·rw[JQ aC,Vu aM]
 ·rw[Vu aM]
def ZUD(W)(hS:I5 W):
  Calls prog 30 #[] W λe W'=>e= .returned (.map (some W.heap.size))/\IL W' W.heap.size 100 IP/\vV W W'/\W.heap.size<W'.heap.size:=by
 have Z0:=@run_makeMap prog;have BD:∀(fn:Fn) (first cap:Array Value) (w:World),(Instr.makeFunc fn first cap).run prog w= .ok (.func fn first cap) w:=λ_ _ _ _=>rfl;refine WE func30 rfl ?_;simp only[ntmps30,qf,List.length_cons,List.length_nil,Nat.reduceAdd,Nat.reduceSub,qg,Array.replicate_zero,qh,qj,List.nil_append,List.cons_append];refine Ag (AJ ?_);go_wp2;refine Ag (AJ ?_);go_wp2;refine Ag (Ag (AJ ?_));go_wp2;refine VM ?_;change Js _ _ _ _ _ (((W.alloc (.map #[] 0)).alloc (.cells #[.map (some W.heap.size)] 86)).alloc (.cells #[.string ⟨LZ.toArray⟩] 9));obtain⟨w3,Da⟩:∃w3,((W.alloc (.map #[] 0)).alloc (.cells #[.map (some W.heap.size)] 86)).alloc (.cells #[.string ⟨LZ.toArray⟩] 9)=w3:=⟨_,rfl⟩;rw[Da];have C8:w3.heap.size=W.heap.size+3:=by rw[<-Da];simp
 have wH:vV W w3:=by
  exact nH
 have k0:w3.heap[W.heap.size]? =some (.map #[] 0):=by rw[<-Da];exact(VI W.heap _ _ _).1
 have k1:w3.heap[W.heap.size+1]? =some (.cells #[.map (some W.heap.size)] 86):=by rw[<-Da];exact(VI W.heap _ _ _).2.1
 have k2:w3.heap[W.heap.size+2]? =some (.cells #[.string ⟨LZ.toArray⟩] 9):=by rw[<-Da];exact(VI W.heap _ _ _).2.2
 clear Da;refine ZBd (W.heap.size+2) LZ (λpre A=>ZdS W.heap.size pre W A) (λ_ _=>False) func30 rfl rfl O Zyt ?_ ?_ ?_ ?_ ?_ (λ_ _ h=>h.elim)
 ·exact lJ
 ·exact lI
 ·have lo:∀b,b<W.heap.size+3->∀(tmps:Array Value) (ps:Array Tmp) (I8 bd:Code),(Dz w3 30 tmps ps I8 bd).heap[b]? =w3.heap[b]? :=λb hb _ _ _ _=>Rc Z;refine⟨⟨wH.os,wH.tape,wH.output,?_,λb hb=>(lo _ Z ..).trans (wH.block b hb)⟩,(lo _ Z ..).trans k1,(lo _ Z ..).trans k2,?_,?_⟩
  ·simp[Dz];omega
  ·simp[Dz];omega
  ·refine IM (w:=w3) ?_ (lo _ Z ..);exact jB
 ·intro pre x A rb A2 hT Br Dx xK hL hD;rw[C8]at xK hL hD;have zl:LZ.length<=200:=by decide
  have zL:=hT.same (qp xK.size.symm) xK.os xK.tape xK.output (λb hb=>xK.block b Z);obtain⟨w8,Gl,NY,Fs⟩:=rZ (w:=A2) (val:=.int .i64 1) zL.ks K8 underlying86 aj (K7 x Z) rfl;have ZLA:(Instr.mapUpdate 86 (.map (some W.heap.size)) (Ij x) (.int .i64 1)).run prog A2= .ok () w8:=Gl;have p1:=xH zL.b1;have Gn:=λb (hb:b<A2.heap.size) (wF:b≠W.heap.size)=>Fs.block b hb (λe=>wF (oN e));have Ay:=zL.sz;have HT8:Hid (ZdS W.heap.size (pre++ [x]) W w8):=by
   exact mD
  exact Z0D
 ·intro A A2 hT xK hD;rw[C8]at xK hD;rw[ZuC]at hT;have zL:=hT.same (qp xK.size.symm) xK.os xK.tape xK.output (λb hb=>xK.block b Z);have p1:=xH zL.b1;have Dq:=wN zL;have FL:=wN hD;clear hT zL xK hD k0 k1 k2;refine AJ ?_;go_wp2;have BQ:=Dq.out.low;have yA:=Dq.out.sz;refine Zaq (v:=.map (some W.heap.size)) FL.out (by simp[results,Tryz.results30]) ⟨rfl,?_,?_,?_⟩
  ·exact IM (Dq.out.ks.mono O) (pF Z)
  ·exact jC
  ·rw[X3];omega
end
section
open Go.RowKit
open Go.Shelf
attribute [local go_sem] Oper.semAt_some
def Zpn:Value->Option (DataW Unit×List MemPlace)
 | .int .i64 1=>some (.agg [], [])
 | .int .i64 0=>some (.lit (.bool false), [])
 |_=>none
def Od(w:World)(b n:Nat)(ks:List vS):Prop:=w.ownsMap prog 9 Zpn b n (Oa ks)
def ZjW{w}{b n}(h:Od w b n ks)(hB:w'.heap[b]? =w.heap[b]?):Od w' b n ks:=by
 exact l6
def ZQ9{D:DataW Unit}(h:Maps.IsMap D)(k)(d):Maps.IsMap (D.put k d):=by
 obtain⟨es,rfl⟩:=h;exact⟨_,rfl⟩
theorem ZsL(u z)(k)(hk:WideAt.IsKeyLit k):∀(acc:List Lit) (m:DataW Unit),Maps.IsMap m->k∈acc\/m.atKey k z=u->(acc.foldl (λm x=>m.put x u) m).atKey k z=u
 | [],m,_,h=>by
  rcases h with h|h
  ·cases h
  ·exact h
 |x::r,m,hm,h=>by
  rw[List.foldl_cons];refine ZsL u z k hk r _ (ZQ9 hm x u) ?_;by_cases hx:k=x
  ·subst hx;exact .inr (Maps.atKey_put_same hm hk u z)
  ·rcases h with h|h
   ·rcases oQ.1 h with h|h
    ·exact absurd h hx
    ·exact .inl h
   ·exact .inr ((Maps.atKey_put_other hx u z).trans h)
def ZOr{w}{n}(h:Od w Kb n ks)(s)(hs:s.length<=100000):
  ∃v,(Instr.lookup 86 (.map (some Kb)) (.string ⟨s.toArray⟩) true).run prog w= .ok (.tuple #[v,.bool (ks.contains s)]) w/\(ks.contains s=true->v= .int .i64 1):=by
 obtain⟨v,ps,Ba,hv⟩:=rG (R:=Zpn) (D:=Oa ks) h K8 underlying86 (ZBu w) rfl (K7 s hs);rw[ZnH]at Ba;refine⟨v,Ba,λhc=>?_⟩;unfold Oa Maps.setOf at hv;rw[ZsL (.agg []) _ (AB s) (show WideAt.IsKeyLit (AB s) from trivial) _ _ ⟨[],rfl⟩ (.inl (qm.2 ⟨s,aD,rfl⟩))]at hv;unfold Zpn at hv;split at hv
 ·rfl
 ·cases hv
 ·cases hv
structure ZdT (N:Nat) (pre:List vS) (W A:World):Prop where
 low:Below N W A
 b1:A.heap[N+1]? =some (.cells #[.map (some N)] 86)
 b2:A.heap[N+2]? =some (.cells #[.string ⟨LZ.toArray⟩] 9)
 sz:N+5<=A.heap.size
 ks:Od A N pre.length pre
def ZdT.same(h:ZdT N pre W A)(hs:A.heap.size<=A'.heap.size)(h1:A'.os=A.os)(h2:A'.tape=A.tape)(h3:A'.output=A.output)(hb:∀b,b<N+4->A'.heap[b]? =A.heap[b]?):ZdT N pre W A':=
 ⟨⟨h1.trans h.low.os,h2.trans h.low.tape,h3.trans h.low.output,om h.low.size hs,λb Cg=>(hb b Z).trans (h.low.block b Cg)⟩,(hb _ Z).trans h.b1,(hb _ Z).trans h.b2,om h.sz hs,ZjW h.ks (hb _ Z)⟩
def ZUE(W)(hS:I5 W):
  Calls prog 30 #[] W λe W'=>e= .returned (.map (some W.heap.size))/\Od W' W.heap.size 100 IP/\vV W W'/\W.heap.size<W'.heap.size:=by
 have Z0:=@run_makeMap prog;have BD:∀(fn:Fn) (first cap:Array Value) (w:World),(Instr.makeFunc fn first cap).run prog w= .ok (.func fn first cap) w:=λ_ _ _ _=>rfl;refine WE func30 rfl ?_;simp only[ntmps30,qf,List.length_cons,List.length_nil,Nat.reduceAdd,Nat.reduceSub,qg,Array.replicate_zero,qh,qj,List.nil_append,List.cons_append];refine Ag (AJ ?_);go_wp2;refine Ag (AJ ?_);go_wp2;refine Ag (Ag (AJ ?_));go_wp2;refine VM ?_;change Js _ _ _ _ _ (((W.alloc (.map #[] 0)).alloc (.cells #[.map (some W.heap.size)] 86)).alloc (.cells #[.string ⟨LZ.toArray⟩] 9));obtain⟨w3,Da⟩:∃w3,((W.alloc (.map #[] 0)).alloc (.cells #[.map (some W.heap.size)] 86)).alloc (.cells #[.string ⟨LZ.toArray⟩] 9)=w3:=⟨_,rfl⟩;rw[Da];have C8:w3.heap.size=W.heap.size+3:=by rw[<-Da];simp
 have wH:vV W w3:=by
  exact nH
 have k0:w3.heap[W.heap.size]? =some (.map #[] 0):=by rw[<-Da];exact(VI W.heap _ _ _).1
 have k1:w3.heap[W.heap.size+1]? =some (.cells #[.map (some W.heap.size)] 86):=by rw[<-Da];exact(VI W.heap _ _ _).2.1
 have k2:w3.heap[W.heap.size+2]? =some (.cells #[.string ⟨LZ.toArray⟩] 9):=by rw[<-Da];exact(VI W.heap _ _ _).2.2
 clear Da;refine ZBd (W.heap.size+2) LZ (λpre A=>ZdT W.heap.size pre W A) (λ_ _=>False) func30 rfl rfl O Zyt ?_ ?_ ?_ ?_ ?_ (λ_ _ h=>h.elim)
 ·exact lJ
 ·exact lI
 ·have lo:∀b,b<W.heap.size+3->∀(tmps:Array Value) (ps:Array Tmp) (I8 bd:Code),(Dz w3 30 tmps ps I8 bd).heap[b]? =w3.heap[b]? :=λb hb _ _ _ _=>Rc Z;refine⟨⟨wH.os,wH.tape,wH.output,?_,λb hb=>(lo _ Z ..).trans (wH.block b hb)⟩,(lo _ Z ..).trans k1,(lo _ Z ..).trans k2,?_,?_⟩
  ·simp[Dz];omega
  ·simp[Dz];omega
  ·refine ZjW (w:=w3) ?_ (lo _ Z ..);exact jB
 ·intro pre x A rb A2 hT Br Dx xK hL hD;rw[C8]at xK hL hD;have zl:LZ.length<=200:=by decide
  have zL:=hT.same (qp xK.size.symm) xK.os xK.tape xK.output (λb hb=>xK.block b Z);obtain⟨w8,Gl,NY,Fs⟩:=rZ (w:=A2) (val:=.int .i64 1) zL.ks K8 underlying86 aj (K7 x Z) rfl;have ZLA:(Instr.mapUpdate 86 (.map (some W.heap.size)) (Ij x) (.int .i64 1)).run prog A2= .ok () w8:=Gl;have p1:=xH zL.b1;have Gn:=λb (hb:b<A2.heap.size) (wF:b≠W.heap.size)=>Fs.block b hb (λe=>wF (oN e));have Ay:=zL.sz;have HT8:Hid (ZdT W.heap.size (pre++ [x]) W w8):=by
   exact mD
  exact Z0D
 ·intro A A2 hT xK hD;rw[C8]at xK hD;rw[ZuC]at hT;have zL:=hT.same (qp xK.size.symm) xK.os xK.tape xK.output (λb hb=>xK.block b Z);have p1:=xH zL.b1;have Dq:=wN zL;have FL:=wN hD;clear hT zL xK hD k0 k1 k2;refine AJ ?_;go_wp2;have BQ:=Dq.out.low;have yA:=Dq.out.sz;refine Zaq (v:=.map (some W.heap.size)) FL.out (by simp[results,Tryz.results30]) ⟨rfl,?_,?_,?_⟩
  ·exact ZjW (Dq.out.ks.mono O) (pF Z)
  ·exact jC
  ·rw[X3];omega
end
section
open Go.RowKit
def Be(w:RW):Int:=if w.sort=AQ then 2 else if w.sort=Bu\/w.sort=BH then 3 else 1
def Cn(w:RW):vS:=if w.sort=Bu\/w.sort=BH then[]else w.text
def FZ(w:RW):Value:=if w.sort=Bu then .iface 142 (.int .i64 w.num)else if w.sort=BH then .iface 82 (.string ⟨w.text.toArray⟩)else .nilIface
def ZzJ(w:RW):Value:=.agg #[.int .i64 (Be w),.string ⟨(Cn w).toArray⟩,FZ w]
def Yi(rest:vS)(v:Value)(n:Int):Prop:=n=(Dc rest).2/\(∃(a:Int) (b:vS) (c:Value),v= .agg #[.int .i64 a,.string ⟨b.toArray⟩,c]/\(c= .nilIface\/∃t x,c= .iface t x))/\((Dc rest).2≠0->v=ZzJ (Dc rest).1)
def ZQT(c)(r:vS)(hd:ze yT (c::r)=(c::r).length):
  (∃v,Lib.parseIntB 64 (c::r)= .ok v/\JA (c::r) false=(v,true))\/((∀v,Lib.parseIntB 64 (c::r)≠.ok v)/\(JA (c::r) false).2=false):=by
 have had:=ZEF hd;have hn:=ZEK had.1.1;have n1:¬c.toNat=43:=λe=>hn.2.1 (sJ.1 e);have n2:¬c.toNat=45:=λe=>hn.1 (sJ.1 e);have hp:Lib.parseIntB 64 (c::r)=(match Lib.parseUintM 18446744073709551615 0 (c::r)with
   | .syntax=>.syntax
   | .range=>.range
   | .ok u=>if 9223372036854775808<=u then .range else .ok (u:Int)):=by
  simp[Lib.parseIntB,Lib.parseUintB,n1,n2];generalize Lib.parseUintM 18446744073709551615 0 (c::r)=q;cases q<;>rfl
 rw[ZE4 _ 0 had Z]at hp;have h:=Zs1 (c::r) 0 had Z;rw[show -((0:Nat):Int)=0 from rfl]at h;have wQ:=ZEY had false;generalize Mt 0 (c::r)=V at hp h wQ;by_cases h2:9223372036854775808<=V
 ·right;refine⟨λv e=>?_,by rw[wQ];simp;omega⟩;rw[hp]at e;by_cases h1:V<=18446744073709551615
  ·rw[nY h1]at e;simp only at e;rw[nY h2]at e;cases e
  ·rw[nU h1]at e;cases e
 ·left;refine⟨(V:Int),?_,?_⟩
  ·rw[hp,nY Z];simp only;rw[nU h2]
  ·rw[nY Z]at h;rw[Zs2 h,nU Z];simp;omega
def ZRJ{s}(hd:0<ze yT s):Dc s=if(JA (s.take (ze yT s)) false).2 then(⟨Bu, [],(JA (s.take (ze yT s)) false).1⟩,ze yT s)else Zc6:=by
 unfold Dc WK;rw[nY hd]
def ZRI{s}(hd:¬0<ze yT s)(hn:0<ze (Iq++yT) s):Dc s=(⟨if OL (s.take (ze (Iq++yT) s))then Cm else AQ,s.take (ze (Iq++yT) s),0⟩,ze (Iq++yT) s):=by
 unfold Dc WK Td;rw[nU hd,nY hn]
def yK{w}(o):vV w (w.alloc o):=(nW _ w).alloc (nV _) o
def ZUH(s)(w)(hs:s.length<=400)(hd:0<ze yT s)(hv:Zbj w)(hG:13<=w.heap.size):
  Calls prog 106 #[.string ⟨s.toArray⟩] w λe w'=>vV w w'/\∃v n,e= .returned (.tuple #[v,.int .i64 n])/\Yi s v n:=by
 have hex:=OJ;have Zi5:ze yT s<=s.length:=ZhO _ _;have HF:Hid (ze yT (s.take (ze yT s))=(s.take (ze yT s)).length):=by
  show _=_;exact Zs8 yT _ (λj hj=>Zqd yT s _ (oC hj))
 have HR:=(show Hid _ from ZRJ hd);go_enter func106,ntmps106;go_wp2_with fail;refine(ZkG s _ Z).mono ?_;rintro e w' ⟨rfl,rfl⟩;have HP:Hid ((∃v,Lib.parseIntB 64 (s.take (ze yT s))= .ok v/\JA (s.take (ze yT s)) false=(v,true))\/((∀v,Lib.parseIntB 64 (s.take (ze yT s))≠.ok v)/\(JA (s.take (ze yT s)) false).2=false)):=by
  have hF:=HF.out;cases ht:s.take (ze yT s)with
  |nil=>
   have:=congrArg List.length ht;rw[sw,List.length_nil]at this;omega
  |cons c r=>rw[ht]at hF;exact ZQT c r hF
 generalize ze yT s=d at *;go_wp2_with fail;refine(ZQR (s.take d) _ fH (hv.below (yK _) hG)).mono ?_;rintro e w1 ⟨wE,ZJ4⟩;have hB:=(yK _).trans (wE.mono ae);have hlt:w.heap.size<w1.heap.size:=oU ae wE.size;obtain⟨r0,r1,r2,rf⟩:=OM ((wE.block w.heap.size ae).trans (oK w _));have Re:=rf 0;have Rf:=rf 1;have Rh:=rf 2;rcases ZJ4 with⟨v,yB,rfl⟩|⟨yB,v,t,p,rfl⟩
 ·have HX:Hid (JA (s.take d) false=(v,true)):=by
   rcases HP.out with⟨v',e1,e2⟩|⟨e1,_⟩
   ·rw[yB]at e1;cases e1;exact e2
   ·exact absurd yB (e1 v)
  clear yB;go_wp2_with fail;refine oZ (v:=.tuple #[.agg #[.int .i64 3,.string ⟨#[]⟩,.iface 142 (.int .i64 v)],.int .i64 d]) gX rfl ⟨?_,_,_,rfl,?_⟩
  ·exact jA
  ·have e:=HR.out;rw[HX.out]at e;exact⟨by rw[e];rfl,⟨3, [],_,rfl,.inr ⟨_,_,rfl⟩⟩,λ_=>by rw[e];rfl⟩
 ·have HX:Hid ((JA (s.take d) false).2=false):=by
   rcases HP.out with⟨v',e1,e2⟩|⟨_,e2⟩
   ·exact absurd e1 (yB v')
   ·exact e2
  clear yB;go_wp2_with fail;refine oZ (v:=.tuple #[.agg #[.int .i64 0,.string ⟨#[]⟩,.nilIface],.int .i64 0]) gX rfl ⟨?_,_,_,rfl,?_⟩
  ·exact jA
  ·have e:=HR.out;rw[HX.out]at e;exact⟨by rw[e];rfl,⟨0, [],_,rfl,.inl rfl⟩,λh=>absurd (by rw[e];rfl) h⟩
end
section
open Go.RowKit
def TW(f:Nat)(args:Array Value)(s:vS)(W:World):Prop:=Calls prog f args W λe w'=>e= .returned (.string ⟨s.toArray⟩)/\vV W w'
def KD(w:World):Prop:=Lib.TabIs prog w "internal/strconv.uint64pow10" .u64 Lib.pow10Tab
def ZuE:prog.globalNamed "internal/strconv.uint64pow10"=some 7:=by kernel_rfl
def KD.below{n}{w}(h:KD w)(hB:Below n w w')(hn:13<=n):KD w':=by
 unfold KD Lib.TabIs World.var? at *;rw[ZuE]at *;simp only[Option.bind_some]at *;rw[hB.block _ (oU O hn)];exact h
def ZbE:Nat->Nat->vS
 |0,_=> []
 |k+1,n=>if n<10 then[UInt8.ofNat (48+n)]else ZbE k (n/10)++ [UInt8.ofNat (48+n%10)]
theorem Zmv:∀k n,n<10^k->ZbE (k+1) n=Lib.decDigits n
 |0,n,h=>by
  have:n=0:=ay
  subst this;rw[ZbE,Lib.decDigits];rfl
 |k+1,n,h=>by
  rw[ZbE,Lib.decDigits];by_cases Nv:n<10
  ·rw[nY Nv,dif_pos Nv]
  ·rw[nU Nv,dif_neg Nv,Zmv k (n/10) (by rw[Nat.pow_succ]at h;omega)]
def Zev(n:Int):vS:=if n<0 then 45::ZbE 20 n.natAbs else ZbE 20 n.natAbs
def ZGP(n)(h0: -9223372036854775808<=n)(h1:n<=9223372036854775807):Zev n=Lib.itoa n:=by
 have h:n.natAbs<10^19:=Z
 unfold Zev Lib.itoa;split
 ·rw[Zmv 19 _ h]
 ·rw[Zmv 19 _ h,show n.natAbs=n.toNat from Z]
def ZEE(w)(q)(os):vV w (Sort.grow (w.drewN q) os):=
 ⟨rfl,rfl,rfl,by simp[Sort.grow,World.drewN],λi hi=>by unfold Sort.grow;exact Array.getElem?_append_left hi⟩
def ZUG(W0):TW 53 #[.agg #[]] [110,117,108,108] W0:=by
 unfold TW;go_enter func53,ntmps53;exact kP
def ZUB(n)(h0: -9223372036854775808<=n)(h1:n<=9223372036854775807)(W0)(hp:KD W0):TW 54 #[.int .i64 n] (Zev n) W0:=by
 unfold TW;rw[ZGP n h0 h1];go_enter func54,ntmps54;go_wp2_with fail;refine(Tryz.strconv_FormatInt_10 n h0 h1 _ hp).mono ?_;rintro e w1 ⟨rfl,k,os,rfl⟩;go_wp2_with fail;go_ret;exact⟨rfl,ZEE _ _ _⟩
theorem ZzP(c):∀s,Rb (s++ [c])=Rb s++(if c=39 then[39,39]else[c])
 | []=>by by_cases h:c=39<;>simp[Rb,h]
 |d::s=>by
  have ih:=ZzP c s;by_cases h:d=39<;>simp[Rb,h,ih]
def Zpw(acc:vS):(acc++ [39]).map Eh=acc.map Eh++ [.int .u8 39]:=by rw[oo];rfl
def ZUM(s)(hs : s.length <= 90000)(w) : TW 55 #[.string ⟨s.toArray⟩] (quote s) w := by
  have hex := OJ
  obtain ⟨i0, hi, hz0, yo, hz2⟩ := oM Tryz.ZxX
  have UZ : (w.alloc (.cells #[Eh 39] 5)).ownsRow w.heap.size 5 1 (.slice (some ⟨w.heap.size, 0, none⟩) 1 1) 1 [Eh 39] := rU w #[Eh 39] 1 (nV _) (by unfold maxLen; omega) rfl
  unfold TW
  go_enter func55, ntmps55
  go_wp2_with fail
  go_loopw [3, 4] (λv i wr => ∃ (k : Nat) (acc : vS), k <= s.length /\ acc.length <= 2 * k + 1 /\ i = .int .i64 k /\ wr.ownsRow w.heap.size 5 1 v acc.length (acc.map Eh) /\ vV w wr /\ Hid (acc = 39 :: Rb (s.take k))) (λ_ i _ => s.length - (intOf i).toNat)
  case atStart => exact ⟨0, [39], by omega, by simp, rfl, UZ, yK _, rfl⟩
  case round =>
    obtain ⟨k, acc, hk, hacc, rfl, wD, hB, hq⟩ := hrel
    by_cases hlt : k < s.length
    · have yA : k < (ByteArray.mk s.toArray).size := hlt
      have HT : Hid (39 :: Rb (s.take (k + 1)) = acc ++ (if s[k] = 39 then [39, 39] else [s[k]])) := by
        show _ = _
        rw [o8 hlt, ZzP, hq.out]; rfl
      clear hq
      by_cases hc : s[k] = 39
      · have LA : (((ByteArray.mk s.toArray)[k]'yA).toNat : Int) = 39 := by
          have : (ByteArray.mk s.toArray)[k]'yA = 39 := hc
          rw [this]; rfl
        have Dq : Hid (39 :: Rb (s.take (k + 1)) = acc ++ [39] ++ [39]) := by show _ = _; rw [HT.out, nY hc]; simp
        have yz : (((ByteArray.mk s.toArray)[k]'yA).toNat : Int) == 39 := by rw [LA]; rfl
        clear HT hc
        go_wp2_with (at_builtin; first | (refine pE _ rfl _ _ 220 rfl w.heap.size 5 i0 (.int .u8 0) 1 1 underlying220 hi hz0 yo hz2 rfl O _ _ _ rfl (wD.alloc _) ⟨wr.heap.size, 0, none⟩ 1 1 [.int .u8 39] rfl rfl (rq _ _ _) dP dQ dR fI ?_; intro v1 w1 CY Fq _; have CY : w1.ownsRow w.heap.size 5 1 v1 (acc ++ [39]).length ((acc ++ [39]).map Eh) := (by rw [Zpw]; simpa using CY); have wE := R6 hB hB.size wD Fq) | (refine pE _ rfl _ _ 220 rfl w.heap.size 5 i0 (.int .u8 0) 1 1 underlying220 hi hz0 yo hz2 rfl O _ _ _ rfl (CY.alloc _) ⟨w1.heap.size, 0, none⟩ 1 1 [.int .u8 39] rfl rfl (rq _ _ _) dP dQ dR (by have := wE.size; simp; omega) ?_; intro v2 w2 zI Cj _))
        have Gi : w2.ownsRow w.heap.size 5 1 v2 (acc ++ [39] ++ [39]).length ((acc ++ [39] ++ [39]).map Eh) := by
          rw [Zpw]; simpa using zI
        exact ⟨⟨k + 1, acc ++ [39] ++ [39], by omega, by simp; omega, by go_num, Gi, R6 wE wE.size CY Cj, Dq.out.symm⟩, by simp [intOf] <;> omega⟩
      · have LA : ((((ByteArray.mk s.toArray)[k]'yA).toNat : Int) == 39) = false := by
          have h1 : (s[k]).toNat ≠ 39 := λe => hc (sJ.1 e)
          have h2 : (((ByteArray.mk s.toArray)[k]'yA).toNat : Int) ≠ 39 := λe => h1 (show (((ByteArray.mk s.toArray)[k]'yA)).toNat = 39 by omega)
          simpa using h2
        have Dq : Hid (39 :: Rb (s.take (k + 1)) = acc ++ [s[k]]) := by show _ = _; rw [HT.out, nU hc]
        clear HT hc
        go_wp2_with (at_builtin; refine pE _ rfl _ _ 220 rfl w.heap.size 5 i0 (.int .u8 0) 1 1 underlying220 hi hz0 yo hz2 rfl O _ _ _ rfl (wD.alloc _) ⟨wr.heap.size, 0, none⟩ 1 1 [Eh ((ByteArray.mk s.toArray)[k]'yA)] rfl rfl (rq _ _ _) dP dQ dR fI ?_; intro v1 w1 CY Fq _)
        have Gi : w1.ownsRow w.heap.size 5 1 v1 (acc ++ [s[k]]).length ((acc ++ [s[k]]).map Eh) := by
          have h2 : w1.ownsRow w.heap.size 5 1 v1 (acc.length + 1) (acc.map Eh ++ [Eh s[k]]) := CY
          simpa using h2
        exact ⟨⟨k + 1, acc ++ [s[k]], by omega, by simp; omega, by go_num, Gi, R6 hB hB.size wD Fq, Dq.out.symm⟩, by simp [intOf] <;> omega⟩
    · obtain rfl : k = s.length := by omega
      have HF : Hid (quote s = acc ++ [39]) := by show _ = _; rw [hq.out]; unfold quote; rw [oO (nV _)]; rfl
      clear hq
      go_wp2_with (at_builtin; refine pE _ rfl _ _ 220 rfl w.heap.size 5 i0 (.int .u8 0) 1 1 underlying220 hi hz0 yo hz2 rfl O _ _ _ rfl (wD.alloc _) ⟨wr.heap.size, 0, none⟩ 1 1 [.int .u8 39] rfl rfl (rq _ _ _) dP dQ dR fI ?_; intro v1 w1 CY Fq _; have CY : w1.ownsRow w.heap.size 5 1 v1 (acc ++ [39]).length ((acc ++ [39]).map Eh) := (by rw [Zpw]; simpa using CY); have ZJ6 := Zzf CY)
      go_ret
      exact ⟨by first | (rw [HF.out]; done) | (rw [HF.out]; rfl) | simp [HF.out], R6 hB hB.size wD Fq⟩
def Rq:wG->vS
 | .null=> [110,117,108,108]
 | .int n=>Zev n
 | .text s=>quote s
def okV:wG->Bool
 | .null=>true
 | .int n=>decide (-9223372036854775808<=n)&&decide (n<=9223372036854775807)
 | .text s=>decide (s.length<=90000)
def ZRe(w):(Instr.typeAssert (.iface 140 (.agg #[])) 80 140 true).run prog w= .ok (.tuple #[.agg #[],.bool true]) w:=by kernel_rfl
def ZRd(n)(w):(Instr.typeAssert (.iface 142 (.int .i64 n)) 80 140 true).run prog w= .ok (.tuple #[.agg #[],.bool false]) w:=by kernel_rfl
def ZRg(s)(w):(Instr.typeAssert (.iface 82 s) 80 140 true).run prog w= .ok (.tuple #[.agg #[],.bool false]) w:=by kernel_rfl
def ZRc(n)(w):(Instr.typeAssert (.iface 142 (.int .i64 n)) 80 142 true).run prog w= .ok (.tuple #[.int .i64 n,.bool true]) w:=by kernel_rfl
def ZRf(s)(w):(Instr.typeAssert (.iface 82 s) 80 142 true).run prog w= .ok (.tuple #[.int .i64 0,.bool false]) w:=by kernel_rfl
def ZRh(s)(w):(Instr.typeAssert (.iface 82 s) 80 82 true).run prog w= .ok (.tuple #[s,.bool true]) w:=by kernel_rfl
def ZQP(v)(W)(hp:KD W)(hv:okV v=true):TW 27 #[xe v] (Rq v) W:=by
 have t1:=ZRe;have t2:=ZRd;have t3:=ZRg;have t4:=ZRc;have t5:=ZRf;have t6:=ZRh;have hx:=ZUG;unfold TW at *;cases v with
 |null=>
  unfold xe Rq;go_enter func27,ntmps27;go_wp2_with fail;refine(hx _).mono ?_;rintro e w1 ⟨rfl,hB⟩;go_wp2_with fail;go_ret;exact⟨rfl,(yK _).trans (hB.mono ae)⟩
 |int n=>
  unfold okV at hv;simp only[oJ,oL]at hv;have hi:∀w,KD w->Calls prog 54 #[.int .i64 n] w λe w'=>e= .returned (.string ⟨(Zev n).toArray⟩)/\vV w w':=λw h=>ZUB n hv.1 hv.2 w h;unfold xe Rq;go_enter func27,ntmps27;go_wp2_with fail;refine(hi _ hp).mono ?_;exact mM
 |text s=>
  unfold okV at hv;have hi:∀w,Calls prog 55 #[.string ⟨s.toArray⟩] w λe w'=>e= .returned (.string ⟨(quote s).toArray⟩)/\vV w w':=λw=>ZUM s (qw hv) w;unfold xe Rq;go_enter func27,ntmps27;go_wp2_with fail;refine(hi _).mono ?_;exact mM
end
section
open Go.RowKit
def ZHV(f):∀s l,Ns f s=some l->(∀x∈l,x≠ []/\x.length<=s.length)/\l.length<=s.length:=by
 induction f with
 |zero=>intro s l h;rw[Ns]at h;cases h;exact⟨λx hx=>(by cases hx),pI _⟩
 |succ f ih=>
  intro s l h;rw[Ns]at h;have zW:=ZbA s;cases ht:JB s with
  |nil=>rw[ht]at h;cases h;exact⟨λx hx=>(by cases hx),pI _⟩
  |cons c r=>
   rw[ht]at h zW;simp only at h;cases hl:G8 (c::r)with
   |none=>rw[hl]at h;cases h
   |some n=>
    rw[hl]at h;simp only at h;have hp:=Zia (Zel s c r ht) hl;cases hf:Ns f ((c::r).drop n)with
    |none=>rw[hf]at h;cases h
    |some m=>
     rw[hf]at h;cases h;obtain⟨h1,h2⟩:=ih _ m hf;rw[qD]at h1 h2;refine⟨?_,by simp only[List.length_cons]at *;omega⟩;intro x hx;rcases oQ.1 hx with rfl|hx
     ·refine⟨?_,?_⟩
      ·intro e;have:=congrArg List.length e;rw[sw,List.length_nil]at this;omega
      ·rw[sw];omega
     ·exact⟨(h1 x hx).1,by have:=(h1 x hx).2;omega⟩
def ZHY{s:vS}{l:List vS}(h:fieldsOf s=some l):(∀x∈l,x≠ []/\x.length<=s.length)/\l.length<=s.length:=ZHV _ s l h
def bad.from{line}{e}(h:bad B line W1 e W')(hB:Below B W W1):bad B line W e W':=by
 obtain⟨b,h1,h2,h3,h4⟩:=h;exact⟨b,h1,h2,h3,hB.trans h4⟩
end
section
open Go.RowKit
open Go.Shelf
attribute [local go_sem] Oper.semAt_some
def I5.below{n}{w}(h:I5 w)(hB:Below n w w')(hn:13<=n):I5 w':=
 ⟨oU h.1 hB.size,λc hc=>wT hB (show 1<n from oU O hn) (h.2 c hc)⟩
end
section
open Go.RowKit
open Go.Shelf
attribute [local go_sem] Oper.semAt_some
def ZAt(s:vS)(w)(hs:s.length<=90000):
  Calls prog 32 #[.string ⟨s.toArray⟩] w λe w'=>e= .returned (.string ⟨s.toArray⟩)/\Below w.heap.size w w':=by
 go_enter func32,ntmps32;go_wp2_with fail;refine(Tryz.stringslite_Clone ⟨s.toArray⟩ _ dh).mono ?_;rintro e w' ⟨rfl,hB⟩;go_wp2;go_ret;exact⟨rfl,hB⟩
end
section
open Go.RowKit
def cell_of_heap{w:World}{b:Nat}{v:Value}(h:w.heap[b]? =some (.cells #[v] ty fr)):w.cell? ⟨b,0,none⟩=some v:=by simp[World.cell?,h]
end
section
open T NT PT
def EE{α:Type}(a b:Option α):Prop:=∀q,a=some q->b=some q
def EE.refl{α:Type}(a:Option α):EE a a:=λ_ h=>h
theorem EE.bind{α β:Type}{a b:Option α}{f g:α->Option β}(h:EE a b)(hf:∀p,EE (f p) (g p)):EE (a.bind f) (b.bind g):=by
 intro q hq;cases a with
 |none=>cases hq
 |some p=>rw[h p rfl];exact hf p q hq
def EE.ite{α:Type}{c:Prop}[Decidable c]{a b d e:Option α}(h:EE a b)(h':EE d e):EE (if c then a else d) (if c then b else e):=by
 split
 ·exact h
 ·exact h'
theorem Zzx:∀n pk l,EE (wM n pk l) (wM (n+1) pk l)
 |0,_,_=>λq h=>by rw[wM]at h;cases h
 |n+1,pk,l=>by
  have ih:=Zzx n;rw[wM.eq_def (n+1),wM.eq_def (n+1+1)];cases pk with
  |P k=>cases k<;>(dsimp only;repeat' first|exact EE.refl _|exact ih _ _|refine EE.bind ?_ (λp=>?_)|refine EE.ite ?_ ?_|split)
  |R k x=>cases k<;>(dsimp only;repeat' first|exact EE.refl _|exact ih _ _|refine EE.bind ?_ (λp=>?_)|refine EE.ite ?_ ?_|split)
  |ask x=>dsimp only;repeat' first|exact EE.refl _|exact ih _ _|refine EE.bind ?_ (λp=>?_)|refine EE.ite ?_ ?_|split
  |round k=>dsimp only;repeat' first|exact EE.refl _|exact ih _ _|refine EE.bind ?_ (λp=>?_)|refine EE.ite ?_ ?_|split
  |alias=>exact EE.refl _
def ZQS{n m:Nat}(h:n<=m)(pk)(l):EE (wM n pk l) (wM m pk l):=by
 obtain⟨d,rfl⟩:∃d,m=n+d:=⟨m-n,Z⟩;induction d with
 |zero=>exact EE.refl _
 |succ d ih=>exact λq hq=>Zzx _ _ _ q (ih Z q hq)
def D.tree{l}{t}{t0:Tr}{n}(h:D query l t)(h0:wM n (P query) l=some (t0, [])):t=t0:=by
 obtain⟨N,hN⟩:=zq (ZRV h) (r:= []) (λu r' e=>ai);have h1:=hN (N+n) Z;rw[sD,ZQS (show n<=N+n by omega) _ _ _ h0]at h1;exact((qJ (oN h1)).1).symm
end
section
open Go.RowKit
def Od.below{w}{b n}(h:Od w b n ks)(hB:vV w w'):Od w' b n ks:=ZjW h (hB.block _ h.lt)
def ZUF(s)(Kb nk)(w)(hs:s.length<=400)(hd:¬0<ze yT s)(hn:0<ze (Iq++yT) s)(hK:Od w Kb nk IP):
  Calls prog 108 #[.string ⟨s.toArray⟩,.map (some Kb)] w λe w'=>vV w w'/\∃v n,e= .returned (.tuple #[v,.int .i64 n])/\Yi s v n:=by
 have hex:=OJ;have ZXA:ze (Iq++yT) s<=s.length:=ZhO _ _;have HR:=(show Hid _ from ZRI hd hn);have Jh:=λw=>ZA7 s w Z;rw[nU hd]at Jh;have ZwK:(32:UInt8)∉s.take (ze (Iq++yT) s):=λhx=>absurd (Zqd _ s _ hx) O;have HKW:=wN (ZNe _ ZwK);clear ZwK;generalize ze (Iq++yT) s=n at *;obtain⟨v,hl,yB⟩:=ZOr (Od.below hK (yK (.cells #[.int .i64 0,.string ⟨#[]⟩,.nilIface] 128))) (s.take n) fH;rw[HKW.out]at hl yB;obtain⟨r0,r1,r2,rf⟩:=OM (oK w (.cells #[.int .i64 0,.string ⟨#[]⟩,.nilIface] 128));cases hk:OL (s.take n)with
 |true=>
  rw[hk]at hl;have Fx:=yB hk;subst Fx;have HX:Hid (Dc s=(⟨Cm,s.take n,0⟩,n)):=by show _=_;rw[HR.out,hk];rfl
  clear yB HR HKW hk;go_enter func108,ntmps108;go_wp2_with fail;refine(Jh _).mono ?_;rintro e w' ⟨rfl,rfl⟩;go_wp2_with fail;refine oZ (v:=.tuple #[.agg #[.int .i64 1,.string ⟨(s.take n).toArray⟩,.nilIface],.int .i64 n]) gY rfl ⟨?_,_,_,rfl,?_⟩
  ·exact yK _
  ·exact jJ
 |false=>
  rw[hk]at hl;have HX:Hid (Dc s=(⟨AQ,s.take n,0⟩,n)):=by show _=_;rw[HR.out,hk];rfl
  clear yB HR HKW hk;go_enter func108,ntmps108;go_wp2_with fail;refine(Jh _).mono ?_;rintro e w' ⟨rfl,rfl⟩;go_wp2_with fail;refine oZ (v:=.tuple #[.agg #[.int .i64 2,.string ⟨(s.take n).toArray⟩,.nilIface],.int .i64 n]) gY rfl ⟨?_,_,_,rfl,?_⟩
  ·exact yK _
  ·exact⟨by rw[HX.out],⟨2,_,_,rfl,.inl rfl⟩,λ_=>aI⟩
def BZ:List vS:= [[60,62], [60,61], [62,61], [40], [41], [44], [46], [42], [43], [45], [47], [37], [61], [60], [62]]
def YS(w:World):Prop:=∀k (h:k<BZ.length),w.cell? ⟨3,k,none⟩=some (.string ⟨BZ[k].toArray⟩)
structure YQ (c:UInt8) (r:vS):Prop where
 d:¬0<ze yT (c::r)
 n:¬0<ze (Iq++yT) (c::r)
 q:c≠39
def YQ.word{c}{r}(h:YQ c r):Dc (c::r)=if two (c::r)then(⟨CQ,(c::r).take 2,0⟩,2)else if X0.contains c then(⟨CQ, [c],0⟩,1)else Zc6:=by
 unfold Dc WK Td;rw[nU h.d,nU h.n,nU (by simpa using h.q)];simp only[List.take_succ_cons,List.take_zero,Zs3]
def ZzF(c)(r:vS)(a):Lib.hasPrefix (c::r) [a]=(c==a):=by
 simp[Lib.hasPrefix,List.isPrefixOf,sQ (a:=c)]
def Zql{c}{r}(h:YQ c r){x y:UInt8}(hxy: [x,y]∈ [[60,62], [60,61], [62,61]])(hp:Lib.hasPrefix (c::r) [x,y]=true):Dc (c::r)=(⟨CQ, [x,y],0⟩,2):=by
 rw[ZpS]at hp;have e:(c::r).take 2= [x,y]:=by simpa using hp
 have ht:two (c::r)=true:=by
  unfold two;rw[e];simp only[oQ,ql,pW]at hxy;rcases hxy with h|h|h<;>rw[h]<;>rfl
 rw[h.word,nY ht,e]
def ZAV{c:UInt8}{r:vS}(h2:∀k (hk:k<BZ.length),k<3->Lib.hasPrefix (c::r) BZ[k]=false):¬two (c::r)=true:=by
 have a0:=h2 0 O O;have a1:=h2 1 O O;have a2:=h2 2 O O;simp only[BZ,List.getElem_cons_zero,List.getElem_cons_succ,ZpS]at a0 a1 a2;unfold two;rw[a0,a1,a2];decide
def sign_one{c}{r}(h:YQ c r)(h2:∀k (hk:k<BZ.length),k<3->Lib.hasPrefix (c::r) BZ[k]=false){x:UInt8}(hx:X0.contains x=true)(hp:Lib.hasPrefix (c::r) [x]=true):Dc (c::r)=(⟨CQ, [x],0⟩,1):=by
 rw[ZzF]at hp;obtain rfl:c=x:=by simpa using hp
 rw[h.word,nU (ZAV h2),nY hx]
def ZSE{c}{r}(h:YQ c r)(SC:∀k (hk:k<BZ.length),Lib.hasPrefix (c::r) BZ[k]=false):Dc (c::r)=Zc6:=by
 rw[h.word,nU (ZAV (λk hk _=>SC k hk)),nU];intro hc;have hm:c∈X0:=aD
 have:∀x∈X0,∃k,∃hk:k<BZ.length,BZ[k]= [x]:=O
 obtain⟨k,hk,e⟩:=this c hm;have:=SC k hk;rw[e,ZzF]at this;simp at this
def ZMs(k:Nat)(hk:k<15)(w):(Instr.index 379 (.agg #[.string ⟨#[60,62]⟩,.string ⟨#[60,61]⟩,.string ⟨#[62,61]⟩,.string ⟨#[40]⟩,.string ⟨#[41]⟩,.string ⟨#[44]⟩,.string ⟨#[46]⟩,.string ⟨#[42]⟩,.string ⟨#[43]⟩,.string ⟨#[45]⟩,.string ⟨#[47]⟩,.string ⟨#[37]⟩,.string ⟨#[61]⟩,.string ⟨#[60]⟩,.string ⟨#[62]⟩]) (.int .i64 k)).run prog w= .ok (.string ⟨(BZ.getD k []).toArray⟩) w:=by
 rcases k with _|_|_|_|_|_|_|_|_|_|_|_|_|_|_|k<;>first|omega|kernel_rfl
def ZUL(c)(r:vS)(w)(hs:(c::r).length<=400)(hO:YQ c r)(hS:YS w):
  Calls prog 110 #[.string ⟨(c::r).toArray⟩] w λe w'=>vV w w'/\∃v n,e= .returned (.tuple #[v,.int .i64 n])/\Yi (c::r) v n:=by
 have hex:=OJ;have c0:=hS 0 O;have c1:=hS 1 O;have c2:=hS 2 O;have c3:=hS 3 O;have c4:=hS 4 O;have c5:=hS 5 O;have c6:=hS 6 O;have c7:=hS 7 O;have c8:=hS 8 O;have c9:=hS 9 O;have c10:=hS 10 O;have c11:=hS 11 O;have c12:=hS 12 O;have c13:=hS 13 O;have c14:=hS 14 O;have hlt:3<w.heap.size:=oH _ _ c0;simp only[BZ,List.getElem_cons_zero,List.getElem_cons_succ]at c0 c1 c2 c3 c4 c5 c6 c7 c8 c9 c10 c11 c12 c13 c14;obtain⟨r0,r1,r2,rf⟩:=OM (oK w (.cells #[.int .i64 0,.string ⟨#[]⟩,.nilIface] 128));go_enter func110,ntmps110;go_wp2_with fail;clear c0 c1 c2 c3 c4 c5 c6 c7 c8 c9 c10 c11 c12 c13 c14;have hB:vV w (w.alloc (.cells #[.int .i64 0,.string ⟨#[]⟩,.nilIface] 128)):=yK _;have Re:=rf 0;have Rf:=rf 1;have Rh:=rf 2;clear rf;generalize w.alloc (.cells #[.int .i64 0,.string ⟨#[]⟩,.nilIface] 128)=w0 at hB r0 r1 r2 Re Rf Rh ⊢;go_loopg [7] (15+1) (λgk iv wr=>∃k:Nat,k<=15/\gk=15-k+1/\iv= .int .i64 k/\w0=wr/\Hid (∀k' (hk:k'<BZ.length),k'<k->Lib.hasPrefix (c::r) BZ[k']=false));case atStart=>exact⟨0,Z,Z,rfl,rfl,λk' _ h=>Z⟩
 case round=>
  obtain⟨k,hk,rfl,rfl,rfl,wO⟩:=hrel;by_cases zl:k<15
  ·have hq:1<=(BZ.getD k []).length/\(BZ.getD k []).length<=2:=by
    have:∀k<15,1<=(BZ.getD k []).length/\(BZ.getD k []).length<=2:=O
    exact this k zl
   have HW:Hid (Lib.hasPrefix (c::r) (BZ.getD k [])=true->Dc (c::r)=(⟨CQ,BZ.getD k [],0⟩,(BZ.getD k []).length)):=by
    intro hp;by_cases h3:k<3
    ·rcases k with _|_|_|k
     ·exact Zql hO O hp
     ·exact Zql hO O hp
     ·exact Zql hO O hp
     ·omega
    ·have:∀k<15,3<=k->BZ.getD k []= [(BZ.getD k []).headD 0]/\X0.contains ((BZ.getD k []).headD 0)=true:=by decide
     obtain⟨e,hx⟩:=this k zl Z;generalize (BZ.getD k []).headD 0=x at e hx;rw[e]at hp ⊢;exact sign_one hO (λk' hk h=>wO.out k' hk Z) hx hp
   have HG:Hid (∀hk:k<BZ.length,BZ[k]=BZ.getD k []):=λhk=>by rw[qI,oW hk];rfl
   have zH:=ZMs k zl;generalize BZ.getD k []=s at zH hq HW HG;obtain⟨MR,LK⟩:=hq;go_wp2_with fail;refine(Tryz.strings_HasPrefix _ _ _).mono ?_;rintro e w' ⟨rfl,hw⟩;obtain rfl:=hw.symm;rw[show(ByteArray.mk (c::r).toArray).data.toList=c::r from rfl,show(ByteArray.mk s.toArray).data.toList=s from rfl];cases hp:Lib.hasPrefix (c::r) s with
   |true=>
    have HX:=(show Hid _ from HW.out hp);clear hp;go_wp2_with fail;refine oZ (v:=.tuple #[.agg #[.int .i64 1,.string ⟨s.toArray⟩,.nilIface],.int .i64 s.length]) gZ rfl ⟨?_,_,_,rfl,?_⟩
    ·exact jA
    ·exact jJ
   |false=>
    have HN:Hid (∀k' (hk:k'<BZ.length),k'<k+1->Lib.hasPrefix (c::r) BZ[k']=false):=λk' hx h=>by
     by_cases e:k'=k
     ·subst e;rw[HG.out hx];exact hp
     ·exact wO.out k' hx Z
    clear hp;go_wp2_with fail;go_roundg (15-(k+1)+1);case measure=>omega
    case rel=>exact⟨k+1,Z,rfl,rfl,rfl,HN⟩
  ·obtain rfl:k=15:=by omega
   have HX:=wN (ZSE hO (λk' hk=>wO.out k' hk hk));go_wp2_with fail;refine oZ (v:=.tuple #[.agg #[.int .i64 0,.string ⟨#[]⟩,.nilIface],.int .i64 0]) gZ rfl ⟨?_,_,_,rfl,?_⟩
   ·exact jA
   ·exact⟨aI,⟨0, [],_,rfl,.inl rfl⟩,λh=>absurd aI h⟩
end
section
open Go.RowKit
def ZGW(c)(r:vS):Li c=decide (0<ze yT (c::r)):=by
 rw[Zbz];unfold Li;cases h:yT.contains c<;>simp
def ZO5(c)(r:vS):Ms c=decide (0<ze (Iq++yT) (c::r)):=by
 rw[Zbz];unfold Ms;cases h:(Iq++yT).contains c<;>simp
structure Lh (w:World):Prop where
 num:Zbj w
 sg:YS w
 zR:13<=w.heap.size
def YS.below{w}(h:YS w)(hB:vV w w'):YS w':=λk hk=>
 wT hB (oH _ _ (h k hk)) (h k hk)
theorem Lh.below{w}(h:Lh w)(hB:vV w w'):Lh w':=⟨h.num.below hB h.zR,YS.below h.sg hB,om h.zR hB.size⟩
def ZRL{r:vS}:Dc (39::r)=(⟨BH,(EX (39::r)).1,0⟩,(EX (39::r)).2):=by
 have e1:¬0<ze yT (39::r):=by rw[Zbz,nU O];omega
 have e2:¬0<ze (Iq++yT) (39::r):=by rw[Zbz,nU O];omega
 unfold Dc WK Td;rw[nU e1,nU e2,nY ae]
def ZZo{p:Prop}(h:p:=by
 rintro e w1 ⟨wE,v,n,rfl,HF⟩;obtain⟨hB,hh⟩:=fin w1 wE;obtain⟨r0,r1,r2,rf⟩:=OM hh;obtain⟨h1,⟨a,b,x,hva,hx⟩,h3⟩:=HF;have HF':Hid (Yi (c::r) v n):=⟨h1,⟨a,b,x,hva,hx⟩,h3⟩;subst hva;have Re:=rf 0;have Rf:=rf 1;have Rh:=rf 2;clear h1 h3 fin hh;rcases hx with rfl|⟨t,y,rfl⟩<;>
  (go_wp2_with fail
   refine oZ (v:=.tuple #[_,.int .i64 n]) (by simp[results,Tryz.results68,go_sem,r0,r1,r2];first|done|rfl) rfl ⟨?_,_,_,rfl,HF'.out⟩;exact((hB.setCell (p:=⟨w.heap.size,0,none⟩) (nV _) _).setCell (p:=⟨w.heap.size,1,none⟩) (nV _) _).setCell (p:=⟨w.heap.size,2,none⟩) (nV _) _)):p:=h
def ZUA(c)(r:vS)(Kb nk)(w)(hs:(c::r).length<=400)(hE:Lh w)(hK:Od w Kb nk IP):
  Calls prog 68 #[.string ⟨(c::r).toArray⟩,.map (some Kb)] w λe w'=>vV w w'/\∃v n,e= .returned (.tuple #[v,.int .i64 n])/\Yi (c::r) v n:=by
 have Bd:vV w (w.alloc (.cells #[.int .i64 0,.string ⟨#[]⟩,.nilIface] 128)):=yK _;have hE0:=hE.below Bd;have Nz:=Od.below hK Bd;have fin:∀(w1:World),Below (w.alloc (.cells #[.int .i64 0,.string ⟨#[]⟩,.nilIface] 128)).heap.size (w.alloc (.cells #[.int .i64 0,.string ⟨#[]⟩,.nilIface] 128)) w1->vV w w1/\w1.heap[w.heap.size]? =some (.cells #[.int .i64 0,.string ⟨#[]⟩,.nilIface] 128):=λw1 wE=>
  ⟨Bd.trans (wE.mono Bd.size),(wE.block w.heap.size ae).trans (oK w _)⟩
 go_enter func68,ntmps68;go_wp2_with fail;refine(ZqR ((ByteArray.mk (c::r).toArray)[0]'(rH _)) _).mono ?_;rintro e w' ⟨rfl,rfl⟩;have hd:=ZGW c r;have hn:=ZO5 c r;cases hdg:Li ((ByteArray.mk (c::r).toArray)[0]'(rH _))with
 |true=>
  have O4:0<ze yT (c::r):=by
    have:Li c=true:=hdg;rw[this]at hd;exact qw hd.symm
  clear hd hn hdg;go_wp2_with fail;refine(ZUH (c::r) _ hs O4 hE0.num hE0.zR).mono ?_;exact ZZo
 |false=>
  have O4:¬0<ze yT (c::r):=by
    have:Li c=false:=hdg;rw[this]at hd;exact uC hd.symm
  clear hd hdg;go_wp2_with fail;refine(ZA9 ((ByteArray.mk (c::r).toArray)[0]'(rH _)) _).mono ?_;rintro e w' ⟨rfl,rfl⟩;cases hng:Ms ((ByteArray.mk (c::r).toArray)[0]'(rH _))with
  |true=>
    have Gh:0<ze (Iq++yT) (c::r):=by
      have:Ms c=true:=hng;rw[this]at hn;exact qw hn.symm
    clear hn hng;go_wp2_with fail;refine(ZUF (c::r) Kb nk _ hs O4 Gh Nz).mono ?_;exact ZZo
  |false=>
    have Gh:¬0<ze (Iq++yT) (c::r):=by
      have:Ms c=false:=hng;rw[this]at hn;exact uC hn.symm
    clear hn hng;by_cases hq:c=39
    · subst hq;have HR:=(show Hid _ from ZRL (r:=r));go_wp2_with fail;refine(ZqP (39::r) _ Z).mono ?_;rintro e w1 ⟨rfl,wE⟩;obtain⟨hB,hh⟩:=fin w1 wE;obtain⟨r0,r1,r2,rf⟩:=OM hh;have Re:=rf 0;have Rf:=rf 1;have Rh:=rf 2;clear fin hh;go_wp2_with fail;refine oZ (v:=.tuple #[.agg #[.int .i64 3,.string ⟨#[]⟩,.iface 82 (.string ⟨(EX (39::r)).1.toArray⟩)],.int .i64 (EX (39::r)).2]) (by simp[results,Tryz.results68,go_sem,r0,r1,r2]) rfl ⟨?_,_,_,rfl,?_⟩
      · exact jA
      · exact⟨by rw[HR.out],⟨3, [],_,rfl,.inr ⟨_,_,rfl⟩⟩,λ_=>by rw[HR.out];rfl⟩
    · have hO:YQ c r:=⟨O4,Gh,hq⟩;have hq':((((ByteArray.mk (c::r).toArray)[0]'(rH _)).toNat:Int)==39)=false:=by
        rw[pQ];intro e;exact hq (ZhR (by rw[show((39:UInt8).toNat:Int)=39 from rfl,<-e];rfl))
      have HO:=wN hO;clear hO;go_wp2_with fail;refine(ZUL c r _ hs HO.out hE0.sg).mono ?_;exact ZZo
end
section
open Go.RowKit
def Tryz.ZMF:(prog.info? 128).map (λi=>(i.zero,i.size,i.bytes))=some (some (.agg #[.int .i64 0,.string ⟨#[]⟩,.nilIface]),3,40):=by kernel_rfl
def Yg(n0:Nat)(kind at_:Int)(w:World)(e:Ending)(w':World):Prop:=
 ∃b,e= .panicked (Ky b)/\w'.cell? ⟨b,0,none⟩=some (.int .i64 kind)/\w'.cell? ⟨b,1,none⟩=some (.int .i64 at_)/\Below n0 w w'
def Zki(w:RW):List Value:= [.int .i64 (Be w),.string ⟨(Cn w).toArray⟩,FZ w]
def Oo(l:List RW):List Value:=l.flatMap Zki
def ZUY(w:World):Except Nat (List RW)->Ending->World->Prop
 | .error k,e,w'=>Yg w.heap.size 2 k w e w'
 | .ok l,e,w'=>∃v,e= .returned v/\w'.ownsRow w.heap.size 128 3 v l.length (Oo l)/\vV w w'
def ZPP{w:World}{e n:Nat}{v:Value}(h:w.ownsRow B e size v n xs)(hb:B'<=B):w.ownsRow B' e size v n xs:=by
 refine⟨h.1,?_⟩;rcases h.2 with h0|⟨g,cap,cur,rfl,hg,r⟩
 ·exact jg
 ·exact .inr ⟨g,cap,cur,rfl,om hb hg,r⟩
def ZP2(w):(FZ w).oneCell'=true:=by
 unfold FZ;split
 ·rfl
 ·split<;>rfl
def Zgm(w):FZ w= .nilIface\/∃t x,FZ w= .iface t x:=by
 unfold FZ;split
 ·exact .inr ⟨_,_,rfl⟩
 ·split
  ·exact .inr ⟨_,_,rfl⟩
  ·exact .inl rfl
def ZZp{p:Prop}(h:p:=by
  rw[HTn.out];refine(ZqQ (s.drop (k+n)) _ aL).mono ?_;rintro e w' ⟨⟨m,rfl,UB⟩,rfl⟩;have Hu:=UB.le;rw[qD]at Hu;have HSm:Hid (∀h:k+n+m<s.length,blank s[k+n+m]=false/\(s.drop (k+n+m)).take 2≠ [45,45]):=λh=>by
   have:=UB.stop aL;rw[List.getElem_drop,uh]at this;exact this
  have HXm:Hid ((Er s (s.length+1) (k+n+m)).map (λx=>(out++ [w0])++x)=R):=by
   show _=_;rw[UB.same s (k+n) rfl];exact HX.out
  clear UB;go_wp2_with fail;go_roundg (s.length-(k+n+m)+1);case measure=>omega
  case rel=>
   refine⟨k+n+m,out++ [w0],Z,ah,rfl,bN,?_,R6 hBt hBt.size (CY.alloc _) xQ,HSm,HXm⟩;rw[YD.out,o6];exact zm):p:=h
def ZUz(s)(w)(hs:s.length<=90000)(hE:Lh w)(Fg:I5 w):
  Calls prog 42 #[.string ⟨s.toArray⟩] w (ZUY w (Ic s)):=by
 have hex:=OJ;obtain⟨i0,zB,hz0,yo,hz2⟩:=oM Tryz.ZMF;by_cases hl:400<s.length
 ·have HR:Hid (Ic s= .error 400):=by show _=_;unfold Ic;rw[nY hl]
  generalize Ic s=R at HR ⊢;go_enter func42,ntmps42;go_wp2_with fail;refine(ZgJ 2 400 _).mono ?_;rintro e w' ⟨rfl,rfl⟩;go_wp2;refine⟨rfl,?_⟩;rw[HR.out];exact⟨w.heap.size,rfl,ae,ae,(nW _ _).alloc (nV _) _⟩
 ·have HR:Hid ((Er s (s.length+1) 0).map (λx=> []++x)=Ic s):=by show _=_;unfold Ic;rw[nU hl,map_id']
  generalize Ic s=R at HR ⊢;go_enter func42,ntmps42;go_wp2_with fail;refine(ZAt s _ Z).mono ?_;rintro e wc ⟨rfl,Qo⟩;have hEc:=hE.below Qo;have hSc:=Fg.below Qo hE.zR;go_wp2_with fail;refine(ZUE _ hSc).mono ?_;rintro e wk ⟨rfl,hK,Zm3,hKs⟩;have hEk:=hEc.below Zm3;have hBk:=Qo.trans (Zm3.mono Qo.size);clear Zm3;generalize wc.heap.size=Kb at hK hKs ⊢;go_wp2_with fail;refine(ZqQ s _ Z).mono ?_;rintro e w' ⟨⟨g0,rfl,hG0⟩,rfl⟩;have Df:Hid ((Er s (s.length+1) g0).map (λx=> []++x)=R):=by
   have:=hG0.same s 0 rfl;rw[o9]at this;show _=_;rw[this];exact HR.out
  have ZWR:=hG0.le;have HS0:=wN hG0.stop;clear HR hG0;go_wp2_with fail;go_loopg [3,5] (s.length-g0+1) (λgk ov iv wr=>∃(k:Nat) (out:List RW),k<=s.length/\out.length<=k/\gk=s.length-k+1/\iv= .int .i64 k/\wr.ownsRow wk.heap.size 128 3 ov out.length (Oo out)/\vV wk wr/\Hid (∀h:k<s.length,blank s[k]=false/\(s.drop k).take 2≠ [45,45])/\Hid ((Er s (s.length+1) k).map (λx=>out++x)=R));case atStart=>exact⟨g0, [],Z,ae,Z,rfl,pV _ _ _ _,nW _ _,HS0,Df⟩
  case round=>
   obtain⟨k,out,hk,ho,rfl,rfl,wD,hB,yI,hq⟩:=hrel;have Ha:=hBk.trans (hB.mono hBk.size);by_cases hlt:k<s.length
   ·obtain⟨hb,hc⟩:=yI.out hlt;have HC:Hid (Er s (s.length+1) k=if(Dc (s.drop k)).2=0 then .error k else(Er s (s.length+1) (k+(Dc (s.drop k)).2)).map λl=>(Dc (s.drop k)).1::l):=by
     show _=_;rw[Zqf hlt,nU (by rw[hb];simp),nU hc]
    have HD:=wN (ZhM s k hlt);have HT:Hid (List.take (List.length s-k) (List.drop k s)=s.drop k):=by show _=_;rw[oO aL]
    have ZjM:=ZzR s[k] (s.drop (k+1));have hlr:(s[k]::s.drop (k+1)).length<=400:=by rw[List.length_cons,qD];omega
    have DI:=ZUA s[k] (s.drop (k+1)) Kb 100 wr hlr (hEk.below hB) (Od.below hK hB);rw[<-HD.out]at DI ZjM;rw[qD]at ZjM;clear hb hc yI;go_wp2_with fail;rw[HT.out];refine DI.mono ?_;rintro e w1 ⟨wE,v,n,rfl,hF⟩;obtain⟨hFn,⟨a,b,x,hva,hx⟩,hFw⟩:=hF;subst hFn;have HFW:=wN hFw;generalize Pn:Dc (s.drop k)=rw0 at HC HFW ZjM ⊢;obtain⟨w0,n⟩:=rw0;simp only at HC HFW ZjM ⊢;clear DI hFw Pn;by_cases DL:n=0
    ·have HE:Hid (R= .error k):=by
       show _=_;rw[<-hq.out,HC.out,nY DL];rfl
     subst DL;subst hva;rcases hx with rfl|⟨t,y,rfl⟩<;>
      (go_wp2_with fail
       refine(ZgJ 2 k _).mono ?_;rintro e w' ⟨rfl,rfl⟩;go_wp2;refine⟨rfl,?_⟩;rw[HE.out];exact⟨_,rfl,ae,ae,((Ha.trans (wE.mono Ha.size)).alloc (om Ha.size wE.size) _).alloc (by have:=wE.size;have:=Ha.size;simp;omega) _⟩)
    ·have hv:=HFW.out DL;clear hva hx;subst hv;unfold ZzJ;have HX:Hid ((Er s (s.length+1) (k+n)).map (λx=>(out++ [w0])++x)=R):=by
       show _=_;rw[<-hq.out,HC.out,nU DL,ZOI]
     have ZXy:((n:Int)==0)=false:=by simpa using DL
     have Pj:Oo (out++ [w0])=Oo out++ [.int .i64 (Be w0),.string ⟨(Cn w0).toArray⟩,FZ w0]:=by simp[Oo,Zki]
     have NZ:=ZP2 w0;have YD:=wN Pj;have CY:=ZIC wD wE;have wK:=Ha.trans (wE.mono Ha.size);have Zm4:=hB.trans (wE.mono hB.size);have ZLR:=wK.size;have Zxz:=Zm4.size;have HTn:Hid (List.take (List.length s-(k+n)) (List.drop (k+n) s)=s.drop (k+n)):=by show _=_;rw[oO aL]
     clear Pj HFW hq HC;have Gj:=Zgm w0;generalize FZ w0=pv at YD Gj NZ ⊢;generalize Be w0=pk at YD ⊢;generalize Cn w0=ps at YD ⊢;rcases Gj with rfl|⟨t,y,rfl⟩
     · have hBt:vV wk (w1.alloc (.cells #[.int .i64 pk,.string ⟨ps.toArray⟩,.nilIface] 128)):=Zm4.alloc Zxz _;go_wp2_with (at_builtin;go_must (refine pE _ rfl _ _ 121 rfl wk.heap.size 128 i0 (.agg #[.int .i64 0,.string ⟨#[]⟩,.nilIface]) 3 40 underlying121 zB hz0 yo hz2 rfl O _ _ _ rfl ((CY.alloc _).alloc _) ⟨w1.heap.size+1,0,none⟩ 1 1 [.int .i64 pk,.string ⟨ps.toArray⟩,.nilIface] rfl rfl (ZtC _ _ _ _ _ _) au aj Z ah ?_);intro v' w5 zm xQ _);exact ZZp
     · have hBt:vV wk (w1.alloc (.cells #[.int .i64 pk,.string ⟨ps.toArray⟩,.iface t y] 128)):=Zm4.alloc Zxz _;go_wp2_with (at_builtin;go_must (refine pE _ rfl _ _ 121 rfl wk.heap.size 128 i0 (.agg #[.int .i64 0,.string ⟨#[]⟩,.nilIface]) 3 40 underlying121 zB hz0 yo hz2 rfl O _ _ _ rfl ((CY.alloc _).alloc _) ⟨w1.heap.size+1,0,none⟩ 1 1 [.int .i64 pk,.string ⟨ps.toArray⟩,.iface t y] rfl rfl (ZtC _ _ _ _ _ _) au aj Z ah ?_);intro v' w5 zm xQ _);exact ZZp
   ·have hR:R= .ok out:=by rw[<-hq.out,ZSd Z];show Except.ok _=_;simp
    go_wp2_with fail;go_ret;rw[hR];exact⟨_,rfl,ZPP wD hBk.size,Ha⟩
end
section
open Go.RowKit
def Zbk(Pb:Nat)(W:World)(wa:Option Addr)(ws:List RW):Prop:=∀i (h:i<ws.length),∃g,wa=some ⟨g,0,none⟩/\g≠Pb/\W.cell? ⟨g,i*3,none⟩=some (.int .i64 (Be ws[i]))/\W.cell? ⟨g,i*3+1,none⟩=some (.string ⟨(Cn ws[i]).toArray⟩)/\W.cell? ⟨g,i*3+2,none⟩=some (FZ ws[i])
structure PS (Pb:Nat) (ws:List RW) (k:Nat) (W:World):Prop where
 len:ws.length<=400
 ok:∀w∈ws,EU w
 le:k<=ws.length
 obj:∃wa cap,W.heap[Pb]? =some (.cells #[.slice wa ws.length cap,.int .i64 k] 124)/\Zbk Pb W wa ws
 Zeq:∀wa cap,W.heap[Pb]? =some (.cells #[.slice wa ws.length cap,.int .i64 k] 124)->ws.length<=cap
def PS.wJ{k}(h:PS Pb ws k W)(hB:vV W W'):PS Pb ws k W':=by
 obtain⟨wa,cap,h1,h2⟩:=h.obj;have hb:=hB.block _ (wo h1);refine⟨h.len,h.ok,h.le,⟨wa,cap,hb.trans h1,λi hi=>?_⟩,λwa' zY e=>h.Zeq wa' zY (hb.symm.trans e)⟩;obtain⟨g,e,hg,c1,c2,c3⟩:=h2 i hi;have hl:g<W.heap.size:=oH _ _ c1;exact⟨g,e,hg,wT hB hl c1,wT hB hl c2,wT hB hl c3⟩
def PS.cells{k}(h:PS Pb ws k W):∃wa cap,W.cell? ⟨Pb,0,none⟩=some (.slice wa ws.length cap)/\W.cell? ⟨Pb,1,none⟩=some (.int .i64 k)/\(∀o,W.frozen? ⟨Pb,o,none⟩=false)/\Zbk Pb W wa ws:=by
 obtain⟨wa,cap,h1,h2⟩:=h.obj;exact⟨wa,cap,dw,dw,λo=>by simp[World.frozen?,h1],h2⟩
def DU(ws:List RW)(k:Nat):Int:=match ws[k]? with|some w=>Be w|none=>0
def EN(ws:List RW)(k:Nat):vS:=match ws[k]? with|some w=>Cn w|none=> []
def Jo(ws:List RW)(k:Nat):Value:=match ws[k]? with|some w=>FZ w|none=>.nilIface
def Zas{k:Nat}(h:k<ws.length):DU ws k=Be ws[k]/\EN ws k=Cn ws[k]/\Jo ws k=FZ ws[k]:=by
 unfold DU EN Jo;rw[oW h];exact⟨rfl,rfl,rfl⟩
def Zat{k:Nat}(h:¬k<ws.length):DU ws k=0/\EN ws k= []/\Jo ws k= .nilIface:=by
 unfold DU EN Jo;rw[uD Z];exact⟨rfl,rfl,rfl⟩
def Vi(ws)(k):Jo ws k= .nilIface\/∃t x,Jo ws k= .iface t x:=by
 unfold Jo;split
 ·exact Zgm _
 ·exact .inl rfl
def L9(ws:List RW)(k:Nat):Value:=.agg #[.int .i64 (DU ws k),.string ⟨(EN ws k).toArray⟩,Jo ws k]
def Zp4(W)(n):((W.alloc (.cells #[.int .i64 0,.string ⟨#[]⟩,.nilIface] 128)).drewN n).cell? ⟨W.heap.size,0,none⟩=some (.int .i64 0)/\((W.alloc (.cells #[.int .i64 0,.string ⟨#[]⟩,.nilIface] 128)).drewN n).cell? ⟨W.heap.size,1,none⟩=some (.string ⟨#[]⟩)/\((W.alloc (.cells #[.int .i64 0,.string ⟨#[]⟩,.nilIface] 128)).drewN n).cell? ⟨W.heap.size,2,none⟩=some .nilIface/\
  (∀o,((W.alloc (.cells #[.int .i64 0,.string ⟨#[]⟩,.nilIface] 128)).drewN n).frozen? ⟨W.heap.size,o,none⟩=false)/\vV W ((W.alloc (.cells #[.int .i64 0,.string ⟨#[]⟩,.nilIface] 128)).drewN n):=by
 have hh:((W.alloc (.cells #[.int .i64 0,.string ⟨#[]⟩,.nilIface] 128)).drewN n).heap[W.heap.size]? =some (.cells #[.int .i64 0,.string ⟨#[]⟩,.nilIface] 128):=by rw[heap_drewN];exact oK W _
 obtain⟨a,b,c,d⟩:=Y8 hh;exact⟨a,b,c,d,Nq (yK _) n⟩
def ZZq{p:Prop}(h:p:=by
 exact(((Nq wE 1).setCell (p:=⟨W.heap.size,0,none⟩) (nV _) _).setCell (p:=⟨W.heap.size,1,none⟩) (nV _) _).setCell (p:=⟨W.heap.size,2,none⟩) (nV _) _):p:=h
def Zgn(Pb)(ws)(k)(W)(h:PS Pb ws k W):
  Calls prog 44 #[.pointer (some ⟨Pb,0,none⟩)] W λe w'=>e= .returned (L9 ws k)/\vV W w':=by
 have hlen:=h.len;have hle:=h.le;obtain⟨wa,cap,c0,c1,cf,cw⟩:=h.cells;have hlt:Pb<W.heap.size:=oH _ _ c0;by_cases hk:k<ws.length
 ·obtain⟨g,rfl,hg,q1,q2,q3⟩:=cw k hk;have xL:g<W.heap.size:=oH _ _ q1;obtain⟨e1,e2,e3⟩:=Zas hk;have HV:Hid (L9 ws k= .agg #[.int .i64 (Be ws[k]),.string ⟨(Cn ws[k]).toArray⟩,FZ ws[k]]):=by show _=_;unfold L9;rw[e1,e2,e3]
  have Gj:=Zgm ws[k];clear cw e1 e2 e3;generalize FZ ws[k]=pv at HV Gj q3;generalize Be ws[k]=pk at HV q1;generalize Cn ws[k]=ps at HV q2;rcases Gj with rfl|⟨t,y,rfl⟩
  ·skip;go_enter func44,ntmps44;go_wp2_with fail;go_quiet (fail);go_wp2_with fail;obtain⟨r0,r1,r2,rf,wE⟩:=Zp4 W nq;have d0:=wT wE hlt c0;have d1:=wT wE hlt c1;have p1:=wT wE xL q1;have p2:=wT wE xL q2;have p3:=wT wE xL q3;have Re:=rf 0;have Rf:=rf 1;have Rh:=rf 2;clear c0 c1 q1 q2 q3 cf;generalize (W.alloc (.cells #[.int .i64 0,.string ⟨#[]⟩,.nilIface] 128)).drewN nq=w1 at r0 r1 r2 Re Rf Rh wE d0 d1 p1 p2 p3 ⊢;go_region;go_wp2_with fail;refine oZ (v:=.agg #[.int .i64 pk,.string ⟨ps.toArray⟩,.nilIface]) fJ rfl ⟨dz,?_⟩;exact ZZq
  ·skip;go_enter func44,ntmps44;go_wp2_with fail;go_quiet (fail);go_wp2_with fail;obtain⟨r0,r1,r2,rf,wE⟩:=Zp4 W nq;have d0:=wT wE hlt c0;have d1:=wT wE hlt c1;have p1:=wT wE xL q1;have p2:=wT wE xL q2;have p3:=wT wE xL q3;have Re:=rf 0;have Rf:=rf 1;have Rh:=rf 2;clear c0 c1 q1 q2 q3 cf;generalize (W.alloc (.cells #[.int .i64 0,.string ⟨#[]⟩,.nilIface] 128)).drewN nq=w1 at r0 r1 r2 Re Rf Rh wE d0 d1 p1 p2 p3 ⊢;go_region;go_wp2_with fail;refine oZ (v:=.agg #[.int .i64 pk,.string ⟨ps.toArray⟩,.iface t y]) fJ rfl ⟨dz,?_⟩;exact ZZq
 ·obtain⟨e1,e2,e3⟩:=Zat hk;have HV:Hid (L9 ws k= .agg #[.int .i64 0,.string ⟨#[]⟩,.nilIface]):=by show _=_;unfold L9;rw[e1,e2,e3]
  clear cw e1 e2 e3;go_enter func44,ntmps44;go_wp2_with fail;go_quiet (fail);go_wp2_with fail;obtain⟨r0,r1,r2,rf,wE⟩:=Zp4 W nq;generalize (W.alloc (.cells #[.int .i64 0,.string ⟨#[]⟩,.nilIface] 128)).drewN nq=w1 at r0 r1 r2 wE ⊢;refine oZ (v:=.agg #[.int .i64 0,.string ⟨#[]⟩,.nilIface]) fJ rfl ⟨dz,?_⟩;exact((wE.setCell (p:=⟨W.heap.size,0,none⟩) (nV _) _).setCell (p:=⟨W.heap.size,1,none⟩) (nV _) _).setCell (p:=⟨W.heap.size,2,none⟩) (nV _) _
end
section
open Go.RowKit
def KF(W:World)(S:Nat)(ss:List vS):Prop:=∀k (h:k<ss.length),W.cell? ⟨S,k,none⟩=some (.string ⟨ss[k].toArray⟩)
def KF.below(h:KF W S ss)(hB:vV W W'):KF W' S ss:=λk hk=>
 wT hB (oH _ _ (h k hk)) (h k hk)
def ZQn(S cap)(ss)(v)(W)(h:KF W S ss)(hl:ss.length<=400):
  Calls prog 240 #[.slice (some ⟨S,0,none⟩) ss.length cap,.string ⟨v.toArray⟩] W λe w'=>(∃n,e= .returned (.int .i64 n)/\ -1<=n/\n<=400/\(0<=n↔v∈ss))/\W=w':=by
 have HT:=wN h;clear h;go_enter func240,ntmps240;go_wp2_with fail;go_loopg [8] (ss.length+1) (λgk iv wr=>∃k:Nat,k<=ss.length/\gk=ss.length-k+1/\iv= .int .i64 k/\W=wr/\Hid (∀j (hj:j<ss.length),j<k->v≠ss[j]));case atStart=>exact⟨0,Z,Z,rfl,rfl,λj _ h=>Z⟩
 case round=>
  obtain⟨k,hk,rfl,rfl,rfl,wO⟩:=hrel;by_cases hlt:k<ss.length
  ·have q:=HT.out k hlt;by_cases he:v=ss[k]
   ·have HM:Hid (v∈ss):=by show v∈ss;rw[he];exact oC hlt
    exact nJ
   ·have he':(v==ss[k])=false:=by simpa using he
    have HN:Hid (∀j (hj:j<ss.length),j<k+1->v≠ss[j]):=λj hj h=>by
     by_cases e:j=k
     ·subst e;exact he
     ·exact wO.out j hj Z
    clear he;go_wp2_with fail;go_roundg (ss.length-(k+1)+1);case measure=>omega
    case rel=>exact⟨k+1,Z,rfl,bN,rfl,HN⟩
  ·have HM:Hid (v∉ss):=λhm=>by
    exact l9
   exact kR
def Zzn(S cap)(ss)(v)(W)(h:KF W S ss)(hl:ss.length<=400):
  Calls prog 173 #[.slice (some ⟨S,0,none⟩) ss.length cap,.string ⟨v.toArray⟩] W λe w'=>e= .returned (.bool (ss.contains v))/\W=w':=by
 go_enter func173,ntmps173;go_wp2_with fail;refine(ZQn S cap ss v _ h hl).mono ?_;rintro e w' ⟨⟨n,rfl,h1,h2,h3⟩,rfl⟩;have HC:Hid (ss.contains v=decide (0<=n)):=by
  show _=_;rw[p9,oL,h3];simp
 clear h3;go_wp2_with fail;go_ret;exact⟨PE HC.out.symm,rfl⟩
def E8(kd:Int)(sp:vS)(ss:List vS):Bool:=kd==1&&ss.contains sp
def KO(ws:List RW)(k:Nat)(ss:List vS):Bool:=E8 (DU ws k) (EN ws k) ss
def ZZs{p:Prop}(h:p:=by
 have h0:=λo=>h.below (yK (w:=W) o);by_cases hk:kd=1
 ·subst hk;go_enter func116,ntmps116;go_wp2_with fail;refine(Zzn S cap ss sp _ (h0 _) hl).mono ?_;rintro e w' ⟨rfl,rfl⟩;go_wp2_with fail;go_ret;exact⟨PE (by unfold E8;simp),yK _⟩
 ·have BP:(kd==1)=false:=by simpa using hk
  have HF:Hid (E8 kd sp ss=false):=by show _=_;unfold E8;rw[BP];rfl
  go_enter func116,ntmps116;go_wp2_with fail;go_ret;exact⟨PE HF.out.symm,yK _⟩):p:=h
def Zc1(kd)(sp)(x)(hx:x= .nilIface\/∃t y,x= .iface t y)(S cap)(ss)(W)(h:KF W S ss)(hl:ss.length<=400):
  Calls prog 116 #[.agg #[.int .i64 kd,.string ⟨sp.toArray⟩,x],.slice (some ⟨S,0,none⟩) ss.length cap] W λe w'=>e= .returned (.bool (E8 kd sp ss))/\vV W w':=by
 rcases hx with rfl|⟨t,y,rfl⟩
 ·exact ZZs
 ·exact ZZs
def Zkc(Pb)(ws)(k)(S cap)(ss)(W)(hP:PS Pb ws k W)(h:KF W S ss)(hl:ss.length<=400):
  Calls prog 111 #[.pointer (some ⟨Pb,0,none⟩),.slice (some ⟨S,0,none⟩) ss.length cap] W λe w'=>e= .returned (.bool (KO ws k ss))/\vV W w':=by
 go_enter func111,ntmps111;go_wp2_with fail;refine(Zgn Pb ws k _ hP).mono ?_;rintro e w1 ⟨rfl,wE⟩;unfold L9;go_wp2_with fail;refine(Zc1 _ _ _ (Vi ws k) S cap ss _ (h.below wE) hl).mono ?_;exact mP
def wU.Oq{w}(h:wU M W w){b:Nat}(hb:W.heap.size<=b)(o)(v):wU M W (w.setCell ⟨b,o,none⟩ v):=
 ⟨h.os,h.tape,h.output,by have:=h.size;simp[World.setCell];exact this,λg hg hl=>(ou _ _ _ _ (by show g≠b;omega)).trans (h.block g hg hl)⟩
def PS.move{k}(h:PS Pb ws k W)(hK:wU Pb W W')(hk:k'<=ws.length)(hp:∀wa cap,W.heap[Pb]? =some (.cells #[.slice wa ws.length cap,.int .i64 k] 124)->W'.heap[Pb]? =some (.cells #[.slice wa ws.length cap,.int .i64 k'] 124)):PS Pb ws k' W':=by
 obtain⟨wa,cap,h1,h2⟩:=h.obj;refine⟨h.len,h.ok,hk,⟨wa,cap,hp wa cap h1,λi hi=>?_⟩,λwa' zY e=>?_⟩
 ·obtain⟨g,e,hg,c1,c2,c3⟩:=h2 i hi;exact⟨g,e,hg,hK.cell hg c1,hK.cell hg c2,hK.cell hg c3⟩
 ·rw[hp wa cap h1]at e;have:=h.Zeq wa cap h1;simp at e;omega
def wU.of(M){w}(h:vV w w'):wU M w w':=wU.vZ h
def ZZr{p:Prop}(h:p:=by
 refine hP.move ((((((wU.of Pb xX).trans (wU.set Pb _ _ _)).Oq (nV _) _ _).Oq (nV _) _ _).Oq (nV _) _ _).trans (wU.alloc Pb _ _)) Z (λwa cap h1=>?_);have g1:=WR (k:=1) (u:=.int .i64 ((k:Int)+1)) ((xX.block Pb hPW).trans h1);refine((wU.alloc (Pb+1) _ _).obj Z ?_);rw[ou _ _ _ _ fM,ou _ _ _ _ fM,ou _ _ _ _ fM];exact g1):p:=h
def Zkf(Pb)(ws)(k)(W)(hP:PS Pb ws k W)(hk:k<ws.length):
  Calls prog 172 #[.pointer (some ⟨Pb,0,none⟩)] W λe w'=>e= .returned (L9 ws k)/\PS Pb ws (k+1) w'/\wU Pb W w':=by
 have hlen:=hP.len;go_enter func172,ntmps172;go_wp2_with fail;refine(Zgn Pb ws k _ (hP.wJ (yK _))).mono ?_;rintro e w1 ⟨rfl,wE⟩;have wP:=(hP.wJ (yK _)).wJ wE;have xX:=(yK _).trans (wE.mono ae);obtain⟨r0,r1,r2,rf⟩:=Y8 ((wE.block W.heap.size ae).trans (oK W _));have KR:W.heap.size<w1.heap.size:=oU ae wE.size;have Re:=rf 0;have Rf:=rf 1;have Rh:=rf 2;clear rf;obtain⟨wa,cap,d0,d1,df,_⟩:=wP.cells;have df1:=df 1;have Zr:Pb<w1.heap.size:=oH _ _ d0;have hPW:Pb<W.heap.size:=by
  obtain⟨_,_,h1,_⟩:=hP.obj;exact(wo h1)
 have Gv:L9 ws k= .agg #[.int .i64 (DU ws k),.string ⟨(EN ws k).toArray⟩,Jo ws k]:=rfl;have Et:=(show Hid _ from Gv);clear Gv;rw[Et.out];have hx:=Vi ws k;generalize Jo ws k=x at hx Et ⊢;generalize DU ws k=kd at Et ⊢;generalize EN ws k=sp at Et ⊢;have HV:=Et;clear Et;rcases hx with rfl|⟨t,y,rfl⟩
 ·go_wp2_with fail;refine oZ (v:=.agg #[.int .i64 kd,.string ⟨sp.toArray⟩,.nilIface]) ib rfl ⟨dz,?_,?_⟩
  ·exact ZZr
  ·exact jy
 ·go_wp2_with fail;refine oZ (v:=.agg #[.int .i64 kd,.string ⟨sp.toArray⟩,.iface t y]) ib rfl ⟨dz,?_,?_⟩
  ·exact ZZr
  ·exact jy
end
section
open Go.RowKit
def ZH3{k}(h:KO ws k ss=true):k<ws.length:=by
 by_cases hk:k<ws.length
 ·exact hk
 ·unfold KO E8 at h;rw[(Zat hk).1]at h;simp at h
def ZO6{k:Nat}(h:DU ws k=2):k<ws.length:=by
 by_cases hk:k<ws.length
 ·exact hk
 ·rw[(Zat hk).1]at h;cases h
def ZhD(Pb:Nat)(ws:List RW)(k:Nat)(W:World)(c:Bool)(yes no:Value)(e:Ending)(w':World):Prop:=
 wU Pb W w'/\((c=true/\k<ws.length/\e= .returned yes/\PS Pb ws (k+1) w')\/(c=false/\e= .returned no/\PS Pb ws k w'))
def FK(Pb:Nat)(W:World)(e:Ending)(w':World):Prop:=
 ∃b,e= .panicked (Ky b)/\w'.cell? ⟨b,0,none⟩=some (.int .i64 3)/\w'.cell? ⟨b,1,none⟩=some (.int .i64 0)/\wU Pb W w'
def FK.of{w}(hK:wU Pb W w){e}(h:FK Pb w e w'):FK Pb W e w':=by
 obtain⟨b,h1,h2,h3,h4⟩:=h;exact⟨b,h1,h2,h3,hK.trans h4⟩
def ZmM(a)(b)(x)(hx:x= .nilIface\/∃t y,x= .iface t y)(w):(Instr.field 128 (.agg #[.int .i64 a,.string b,x]) 0).run prog w= .ok (.int .i64 a) w:=by
 rcases hx with rfl|⟨t,y,rfl⟩<;>kernel_rfl
def ZmN(a)(b)(x)(hx:x= .nilIface\/∃t y,x= .iface t y)(w):(Instr.field 128 (.agg #[.int .i64 a,.string b,x]) 1).run prog w= .ok (.string b) w:=by
 rcases hx with rfl|⟨t,y,rfl⟩<;>kernel_rfl
def ZpD(Pb)(W):Calls prog 45 #[] W (FK Pb W):=by
 go_enter func45,ntmps45;go_wp2_with fail;refine(ZgJ 3 0 _).mono ?_;rintro e w' ⟨rfl,rfl⟩;go_wp2;exact⟨rfl,W.heap.size,rfl,ae,ae,wU.alloc Pb _ _⟩
def Zkg(Pb)(ws)(k)(S cap)(ss)(W)(hP:PS Pb ws k W)(h:KF W S ss)(hl:ss.length<=400):
  Calls prog 114 #[.pointer (some ⟨Pb,0,none⟩),.slice (some ⟨S,0,none⟩) ss.length cap] W (ZhD Pb ws k W (KO ws k ss) (.string ⟨(EN ws k).toArray⟩) (.string ⟨#[]⟩)):=by
 go_enter func114,ntmps114;go_wp2_with fail;refine(Zkc Pb ws k S cap ss _ hP h hl).mono ?_;rintro e w1 ⟨rfl,wE⟩;have wP:=hP.wJ wE;cases hf:KO ws k ss with
 |false=>
  go_wp2_with fail;go_ret;exact⟨wU.of Pb wE,.inr ⟨hf,rfl,wP⟩⟩
 |true=>
  have hk:=ZH3 hf;go_wp2_with fail;refine(Zkf Pb ws k _ wP hk).mono ?_;rintro e w2 ⟨rfl,hP2,wY⟩;unfold L9;have f1:=λw=>ZmN (DU ws k) ⟨(EN ws k).toArray⟩ (Jo ws k) (Vi ws k) w;go_wp2_with fail;go_ret;exact⟨(wU.of Pb wE).trans wY,.inl ⟨hf,hk,rfl,hP2⟩⟩
def ZkB(W:World)(s):KF (W.alloc (.cells #[.string ⟨s.toArray⟩] 9)) W.heap.size [s]:=λk hk=>by
 obtain rfl:k=0:=by simp only[List.length_cons,List.length_nil]at hk;omega
 have h3:=oK W (.cells #[.string ⟨s.toArray⟩] 9);simp only[World.cell?,h3];rfl
def ZH5{k}{s:vS}(h:KO ws k [s]=true):EN ws k=s:=by
 unfold KO E8 at h;simp at h;exact h.2
def ZpI(Pb)(ws)(k)(s:vS)(W)(hP:PS Pb ws k W)(hs:s≠ []):
  Calls prog 115 #[.pointer (some ⟨Pb,0,none⟩),.string ⟨s.toArray⟩] W (ZhD Pb ws k W (KO ws k [s]) (.bool true) (.bool false)):=by
 go_enter func115,ntmps115;go_wp2_with fail;refine(Zkg Pb ws k W.heap.size 1 [s] _ (hP.wJ (yK _)) (ZkB W s) ae).mono ?_;rintro e w1 ⟨wZ,⟨hf,hk,rfl,wP⟩|⟨hf,rfl,wP⟩⟩
 ·have wF:(EN ws k== [])=false:=by rw[ZH5 hf];simpa using hs
  go_wp2_with fail;go_ret;exact⟨(wU.of Pb (yK _)).trans wZ,.inl ⟨hf,hk,rfl,wP⟩⟩
 ·go_wp2_with fail;go_ret;exact⟨(wU.of Pb (yK _)).trans wZ,.inr ⟨hf,rfl,wP⟩⟩
def Zay(Pb)(ws)(k)(s:vS)(W)(hP:PS Pb ws k W)(hs:s≠ []):
  Calls prog 164 #[.pointer (some ⟨Pb,0,none⟩),.string ⟨s.toArray⟩] W λe w'=>(KO ws k [s]=true/\k<ws.length/\e= .returned (.tuple #[])/\PS Pb ws (k+1) w'/\wU Pb W w')\/(KO ws k [s]=false/\FK Pb W e w'):=by
 go_enter func164,ntmps164;go_wp2_with fail;refine(ZpI Pb ws k s _ hP hs).mono ?_;rintro e w1 ⟨wZ,⟨hf,hk,rfl,wP⟩|⟨hf,rfl,wP⟩⟩
 ·go_wp2_with fail;go_end0;exact .inl ⟨hf,hk,rfl,wP,wZ⟩
 ·go_wp2_with fail;refine(ZpD Pb _).mono ?_;rintro e w2 hb;have Cg:=FK.of wZ hb;obtain⟨b,rfl,h1,h2,h3⟩:=Cg;go_wp2;exact⟨rfl,.inr ⟨hf,b,rfl,h1,h2,h3⟩⟩
def ZQv(Pb)(ws)(k)(W)(hP:PS Pb ws k W):
  Calls prog 235 #[.pointer (some ⟨Pb,0,none⟩)] W λe w'=>(DU ws k=2/\k<ws.length/\e= .returned (.string ⟨(EN ws k).toArray⟩)/\PS Pb ws (k+1) w'/\wU Pb W w')\/(DU ws k≠2/\FK Pb W e w'):=by
 go_enter func235,ntmps235;go_wp2_with fail;refine(Zgn Pb ws k _ hP).mono ?_;rintro e w1 ⟨rfl,wE⟩;have wP:=hP.wJ wE;unfold L9;have f0:=λw=>ZmM (DU ws k) ⟨(EN ws k).toArray⟩ (Jo ws k) (Vi ws k) w;by_cases hn:DU ws k=2
 ·have hk:=ZO6 hn;have hn':(DU ws k==2)=true:=by simpa using hn
  have HN:=wN hn;clear hn;go_wp2_with fail;refine(Zkf Pb ws k _ wP hk).mono ?_;rintro e w2 ⟨rfl,hP2,wY⟩;unfold L9;have f1:=λw=>ZmN (DU ws k) ⟨(EN ws k).toArray⟩ (Jo ws k) (Vi ws k) w;go_wp2_with fail;go_ret;exact .inl ⟨HN.out,hk,rfl,hP2,(wU.of Pb wE).trans wY⟩
 ·have hn':(DU ws k==2)=false:=by simpa using hn
  have HN:Hid (DU ws k≠2):=hn;clear hn;go_wp2_with fail;refine(ZpD Pb _).mono ?_;rintro e w2 hb;have Cg:=FK.of (wU.of Pb wE) hb;obtain⟨b,rfl,h1,h2,h3⟩:=Cg;go_wp2;exact⟨rfl,.inr ⟨HN.out,b,rfl,h1,h2,h3⟩⟩
end
section
open Go.RowKit
def ZAW(W:World)(o)(s):KF ((W.alloc o).alloc (.cells #[.string ⟨s.toArray⟩] 9)) (W.heap.size+1) [s]:=by
 have h:=ZkB (W.alloc o) s;have e:(W.alloc o).heap.size=W.heap.size+1:=ae
 rw[e]at h;exact h
def Eo(kd:Int)(sp:vS):Int:=if E8 kd sp [[40]]then 1 else if E8 kd sp [[41]]then -1 else 0
def ZZt{p:Prop}(h:p:=by
 rintro e w2 ⟨rfl,wK⟩;have MG:=Ha.trans (((yK _).trans (wK.mono ae)).mono Ha.size);cases h2:E8 kd sp [[41]]with
 |true=>
  have HX:Hid (Eo kd sp= -1):=by show _=_;unfold Eo;rw[h1,h2];rfl
  go_wp2_with fail;go_ret;exact⟨aI,MG⟩
 |false=>
  have HX:Hid (Eo kd sp=0):=by show _=_;unfold Eo;rw[h1,h2];rfl
  go_wp2_with fail;go_ret;exact⟨aI,MG⟩):p:=h
def ZZu{p:Prop}(h:p:=by
 have HX:Hid (Eo kd sp=1):=by show _=_;unfold Eo;rw[h1];rfl
 go_wp2_with fail;go_ret;exact⟨aI,Ha⟩):p:=h
def Zzp(kd)(sp)(x)(hx:x= .nilIface\/∃t y,x= .iface t y)(W):
  Calls prog 73 #[.agg #[.int .i64 kd,.string ⟨sp.toArray⟩,x]] W λe w'=>e= .returned (.int .i64 (Eo kd sp))/\vV W w':=by
 rcases hx with rfl|⟨t,y,rfl⟩
 ·go_enter func73,ntmps73;go_wp2_with fail;refine(Zc1 kd sp .nilIface (.inl rfl) (W.heap.size+1) 1 [[40]] _ (ZAW W _ _) ae).mono ?_;rintro e w1 ⟨rfl,wE⟩;have yx:Below (W.alloc (.cells #[.int .i64 kd,.string ⟨sp.toArray⟩,.nilIface] 128)).heap.size (W.alloc (.cells #[.int .i64 kd,.string ⟨sp.toArray⟩,.nilIface] 128)) w1:=(yK _).trans (wE.mono ae);have Ha:=(yK _).trans (yx.mono ae);obtain⟨r0,r1,r2,rf⟩:=Y8 ((yx.block W.heap.size ae).trans (oK W _));have KR:W.heap.size<w1.heap.size:=oU ae yx.size;cases h1:E8 kd sp [[40]]with
  |true=>
   exact ZZu
  |false=>
   go_wp2_with fail;refine(Zc1 kd sp .nilIface (.inl rfl) w1.heap.size 1 [[41]] _ (ZkB w1 _) ae).mono ?_;exact ZZt
 ·go_enter func73,ntmps73;go_wp2_with fail;refine(Zc1 kd sp (.iface t y) (.inr ⟨t,y,rfl⟩) (W.heap.size+1) 1 [[40]] _ (ZAW W _ _) ae).mono ?_;rintro e w1 ⟨rfl,wE⟩;have yx:Below (W.alloc (.cells #[.int .i64 kd,.string ⟨sp.toArray⟩,.iface t y] 128)).heap.size (W.alloc (.cells #[.int .i64 kd,.string ⟨sp.toArray⟩,.iface t y] 128)) w1:=(yK _).trans (wE.mono ae);have Ha:=(yK _).trans (yx.mono ae);obtain⟨r0,r1,r2,rf⟩:=Y8 ((yx.block W.heap.size ae).trans (oK W _));have KR:W.heap.size<w1.heap.size:=oU ae yx.size;cases h1:E8 kd sp [[40]]with
  |true=>
   exact ZZu
  |false=>
   go_wp2_with fail;refine(Zc1 kd sp (.iface t y) (.inr ⟨t,y,rfl⟩) w1.heap.size 1 [[41]] _ (ZkB w1 _) ae).mono ?_;exact ZZt
end
section
open Go.RowKit
def ZGx(s x:vS): [s].contains x=(x==s):=by
 by_cases h:x=s<;>simp[h]
def Zuv{w}(hw:EU w){s:vS}(hs:s∈K6.map Prod.fst):E8 (Be w) (Cn w) [s]=ZgD w s:=by
 have hk:s∉Gm.map Prod.fst:=λh=>by
  have:∀x∈K6.map Prod.fst,x∉Gm.map Prod.fst:=O
  exact this s hs h
 unfold E8 Be Cn ZgD;rcases hw with⟨h,ht⟩|⟨h,ht⟩|h|h|h
 ·have wF:w.text≠s:=λe=>hk (by rw[<-e];exact ht);rw[h];simp[Cm,AQ,Bu,BH,CQ,wF]
 ·rw[h,nU O,nU O,nU O,ZGx];rfl
 ·rw[h];simp[Cm,AQ,Bu,BH,CQ]
 ·rw[h];simp[Cm,AQ,Bu,BH,CQ]
 ·rw[h];simp[Cm,AQ,Bu,BH,CQ]
def Zzj{w}(hw:EU w):Eo (Be w) (Cn w)=opens w:=by
 unfold Eo opens;rw[Zuv hw O,Zuv hw O]
def ZQd(ws)(Pb)(wa)(cap)(W)(hw:Zbk Pb W wa ws)(ok:∀w∈ws,EU w)(hlen:ws.length<=400):
  Calls prog 46 #[.slice wa ws.length cap] W λe w'=>(deep ws=false/\e= .returned (.tuple #[])/\vV W w')\/(deep ws=true/\Yg W.heap.size 4 0 W e w'):=by
 have HW:=wN hw;clear hw;go_enter func46,ntmps46;go_wp2_with fail;go_loopg [2,7] (ws.length+1) (λgk nv iv wr=>∃(k:Nat) (n:Int),k<=ws.length/\gk=ws.length-k+1/\iv= .int .i64 k/\nv= .int .i64 n/\ -(k:Int)<=n/\n<=16/\vV W wr/\Hid (Y2 n (ws.drop k)=deep ws));case atStart=>exact⟨0,0,Z,Z,rfl,rfl,Z,Z,nW _ _,rfl⟩
 case round=>
  obtain⟨k,n,hk,rfl,rfl,rfl,Gh,JI,hB,hq⟩:=hrel;by_cases hlt:k<ws.length
  ·obtain⟨g,rfl,hg,q1,q2,q3⟩:=HW.out k hlt;have xL:g<W.heap.size:=oH _ _ q1;have p1:=wT hB xL q1;have p2:=wT hB xL q2;have p3:=wT hB xL q3;have HO:=Zzj (ok _ (oC hlt));have yG: -1<=Eo (Be ws[k]) (Cn ws[k])/\Eo (Be ws[k]) (Cn ws[k])<=1:=by
    unfold Eo;split
    · omega
    · split<;>omega
   have HD:Hid ((16<n+Eo (Be ws[k]) (Cn ws[k])->deep ws=true)/\(¬16<n+Eo (Be ws[k]) (Cn ws[k])->Y2 (n+Eo (Be ws[k]) (Cn ws[k])) (ws.drop (k+1))=deep ws)):=by
    have e:=hq.out;rw[pM hlt,ZGR,<-HO]at e;exact⟨λh=>by rw[nY h]at e;exact e.symm,λh=>by rw[nU h]at e;exact e⟩
   have hx:=Zgm ws[k];have BC:=λw=>Zzp (Be ws[k]) (Cn ws[k]) (FZ ws[k]) hx w;clear HO q1 q2 q3 hq;generalize Eo (Be ws[k]) (Cn ws[k])=o at *;generalize FZ ws[k]=x at *;generalize Be ws[k]=kd at *;generalize Cn ws[k]=sp at *;obtain⟨Eb,EI⟩:=yG;by_cases ZQ:16<n+o
   ·rcases hx with rfl|⟨t,y,rfl⟩<;>
     (go_wp2_with fail
      refine(BC _).mono ?_;rintro e w1 ⟨rfl,wE⟩;have yx:=hB.trans (((yK _).trans (wE.mono ae)).mono hB.size);go_wp2_with fail;refine(ZgJ 4 0 _).mono ?_;rintro e w' ⟨rfl,rfl⟩;go_wp2;exact⟨rfl,.inr ⟨HD.out.1 ZQ,_,rfl,ae,ae,yx.alloc yx.size _⟩⟩)
   ·rcases hx with rfl|⟨t,y,rfl⟩<;>
     (go_wp2_with fail
      refine(BC _).mono ?_;rintro e w1 ⟨rfl,wE⟩;have yx:=hB.trans (((yK _).trans (wE.mono ae)).mono hB.size);go_wp2_with fail;go_roundg (ws.length-(k+1)+1);case measure=>omega
      case rel=>exact⟨k+1,n+o,Z,rfl,bN,rfl,Z,Z,yx,HD.out.2 ZQ⟩)
  ·have hR:deep ws=false:=by rw[<-hq.out,qM Z];rfl
   go_wp2_with fail;go_end0;exact .inl ⟨hR,rfl,hB⟩
end
section
open Go.RowKit
def XF:List vS:= [[61], [60,62], [60], [60,61], [62], [62,61], [105,115], [105,110], [101,120,105,115,116,115]]
def ZOK:∀x∈Gm.map Prod.fst,XF.contains x=marks (Ob x):=by decide
def ZOL:∀x∈K6.map Prod.fst,XF.contains x=marks (PM x):=by decide
def ZPE:∀x∈Gm.map Prod.fst,opened (Ob x)=0:=by decide
def ZPF:∀x∈K6.map Prod.fst,(if x== [40]then 1 else if x== [41]then -1 else 0:Int)=opened (PM x):=by decide
def ZH4{w}(hw:EU w):E8 (Be w) (Cn w) XF=marks (wI w):=by
 unfold E8 Be Cn wI;rcases hw with⟨h,ht⟩|⟨h,ht⟩|h|h|h
 ·rw[h,nU O,nU O,nU O,nY rfl,ZOK _ ht];rfl
 ·rw[h,nU O,nU O,nU O,nU O,nY rfl,ZOL _ ht];rfl
 ·rw[h];rfl
 ·rw[h];rfl
 ·rw[h];rfl
def ZPG{w}(hw:EU w):opens w=opened (wI w):=by
 unfold opens ZgD wI;rcases hw with⟨h,ht⟩|⟨h,ht⟩|h|h|h
 ·rw[h,nY rfl,ZPE _ ht];rfl
 ·rw[h,nU (show ¬CQ=Cm by decide),nY rfl,<-ZPF _ ht];rfl
 ·rw[h];rfl
 ·rw[h];rfl
 ·rw[h];rfl
def ZAX(W:World):KF (W.alloc (.cells #[.string ⟨#[61]⟩,.string ⟨#[60,62]⟩,.string ⟨#[60]⟩,.string ⟨#[60,61]⟩,.string ⟨#[62]⟩,.string ⟨#[62,61]⟩,.string ⟨#[105,115]⟩,.string ⟨#[105,110]⟩,.string ⟨#[101,120,105,115,116,115]⟩] 9)) W.heap.size XF:=λk hk=>by
 have h3:=oK W (.cells #[.string ⟨#[61]⟩,.string ⟨#[60,62]⟩,.string ⟨#[60]⟩,.string ⟨#[60,61]⟩,.string ⟨#[62]⟩,.string ⟨#[62,61]⟩,.string ⟨#[105,115]⟩,.string ⟨#[105,110]⟩,.string ⟨#[101,120,105,115,116,115]⟩] 9);have h9:k<9:=hk;simp only[World.cell?,h3];rcases k with _|_|_|_|_|_|_|_|_|k;all_goals first|rfl|omega
def ZZv{p:Prop}(h:p:=by
 by_cases hle0:n+o<=0
 ·have HX:Hid (R=false):=by show _=_;rw[HD.out,nY hle0]
  go_wp2_with fail;refine(BC _).mono ?_;rintro e w1 ⟨rfl,wE⟩;have yx:=hB.trans (((yK _).trans (wE.mono ae)).mono hB.size);go_wp2_with fail;go_ret;exact⟨aI,yx⟩
 ·have P7:=wN hle0;go_wp2_with fail;refine(BC _).mono ?_;rintro e w1 ⟨rfl,wE⟩;have OV:=(yK _).trans (wE.mono ae);have yx:=hB.trans (OV.mono hB.size);obtain⟨r0,r1,r2,rf⟩:=Y8 ((wE.block wr.heap.size ae).trans (oK wr _));go_wp2_with fail;refine(Zws w1.heap.size _ (ZAX w1)).mono ?_;rintro e w2 ⟨rfl,wK⟩;have Uv:=yx.trans (((yK _).trans (wK.mono ae)).mono yx.size);cases fx with
  |true=>
   have HX:Hid (R=true):=by show _=_;rw[HD.out,nU (by have:=P7.out;omega)];rfl
   go_wp2_with fail;go_ret;exact⟨aI,Uv⟩
  |false=>
   have HX:Hid (R=BJ (n+o) ((ws.drop (k+(j+1))).map wI)):=by show _=_;rw[HD.out,nU (by have:=P7.out;omega)];rfl
   go_wp2_with fail;go_roundg (m-(j+1)+1);case measure=>omega
   case rel=>exact⟨j+1,n+o,Z,rfl,bN,rfl,Z,Z,Uv,HX⟩):p:=h
def ZQy(Pb)(ws)(k)(W)(hP:PS Pb ws k W):
  Calls prog 383 #[.pointer (some ⟨Pb,0,none⟩)] W λe w'=>e= .returned (.bool (BJ 0 ((ws.drop k).map wI)))/\vV W w':=by
 have hlen:=hP.len;have hle:=hP.le;have wQ:=hP.ok;obtain⟨wa,cap,h1,h2⟩:=hP.obj;have O3:=hP.Zeq wa cap h1;have c0:=xH h1;have c1:=zS h1;have HW:=wN h2;clear h1 h2;generalize hR:BJ 0 ((ws.drop k).map wI)=R;have HR:=wN hR.symm;clear hR;by_cases hk:k<ws.length
 ·obtain⟨g,rfl,hg,q1,q2,q3⟩:=HW.out k hk;have xL:g<W.heap.size:=oH _ _ q1;clear q1 q2 q3;go_enter func383,ntmps383;go_wp2_with fail;go_quiet (fail);go_wp2_with fail;have x8:vV W (W.drewN nq):=Nq (nW _ _) nq;generalize hm:ws.length-k=m;go_loopg [3,16] (m+1) (λgk nv iv wr=>∃(j:Nat) (n:Int),j<=m/\gk=m-j+1/\iv= .int .i64 j/\nv= .int .i64 n/\0<=n/\n<=j/\vV W wr/\Hid (R=BJ n ((ws.drop (k+j)).map wI)));case atStart=>exact⟨0,0,Z,Z,rfl,rfl,Z,Z,x8,HR⟩
  case round=>
   obtain⟨j,n,hj,rfl,rfl,rfl,Gh,JI,hB,hq⟩:=hrel;by_cases hlt:j<m
   ·have hkj:k+j<ws.length:=by omega
    obtain⟨g',eg,ML,q1,q2,q3⟩:=HW.out (k+j) hkj;cases eg;have p1:=wT hB xL q1;have p2:=wT hB xL q2;have p3:=wT hB xL q3;rw[show(k+j)*3=k*3+j*3 from Z]at p1 p2 p3;have hw:=wQ _ (oC hkj);have HO:=(Zzj hw).trans (ZPG hw);have HM:=ZH4 hw;have yG: -1<=Eo (Be ws[k+j]) (Cn ws[k+j])/\Eo (Be ws[k+j]) (Cn ws[k+j])<=1:=by
     unfold Eo;split
     ·omega
     ·split<;>omega
    have HD:Hid (R=if n+Eo (Be ws[k+j]) (Cn ws[k+j])<=0 then false else if E8 (Be ws[k+j]) (Cn ws[k+j]) XF then true else BJ (n+Eo (Be ws[k+j]) (Cn ws[k+j])) ((ws.drop (k+(j+1))).map wI)):=by
     have e:=hq.out;rw[pM hkj,oq,BJ,<-HO,<-HM]at e;exact e
    have hx:=Zgm ws[k+j];have BC:=λw=>Zzp (Be ws[k+j]) (Cn ws[k+j]) (FZ ws[k+j]) hx w;have Zws:=λS w (hT:KF w S XF)=>Zc1 (Be ws[k+j]) (Cn ws[k+j]) (FZ ws[k+j]) hx S 9 XF w hT O;clear HO HM q1 q2 q3 hq hw;generalize Eo (Be ws[k+j]) (Cn ws[k+j])=o at *;generalize E8 (Be ws[k+j]) (Cn ws[k+j]) XF=fx at *;generalize FZ ws[k+j]=x at *;generalize Be ws[k+j]=kd at *;generalize Cn ws[k+j]=sp at *;obtain⟨Eb,EI⟩:=yG;rcases hx with rfl|⟨t,y,rfl⟩
    ·exact ZZv
    ·exact ZZv
   ·have HX:Hid (R=false):=by show _=_;rw[hq.out,qM Z];rfl
    go_wp2_with fail;go_ret;exact⟨aI,hB⟩
 ·have HX:Hid (R=false):=by show _=_;rw[HR.out,qM Z];rfl
  have BP:¬((k:Int)<(ws.length:Int)):=Z
  have UU:ws.length-k=0:=Z
  go_enter func383,ntmps383;go_wp2_with fail;go_quiet (fail);go_wp2_with fail;all_goals
   go_loopg [16] 1 (λgk iv wr=>gk=1/\iv= .int .i64 0/\W.drewN nq=wr);case atStart=>exact⟨rfl,rfl,rfl⟩
   case round=>
    obtain⟨rfl,rfl,rfl⟩:=hrel;go_wp2_with fail;go_ret;exact⟨aI,Nq (nW _ _) nq⟩
end
section
open Go.RowKit
structure TY (Pb b1 b2 S cap:Nat) (ss:List vS) (W:World):Prop where
 n1:b1≠Pb
 n2:b2≠Pb
 n3:S≠Pb
 c1:W.cell? ⟨b1,0,none⟩=some (.pointer (some ⟨Pb,0,none⟩))
 c2:W.cell? ⟨b2,0,none⟩=some (.slice (some ⟨S,0,none⟩) ss.length cap)
 tx:KF W S ss
def TY.wJ{b1 b2}(h:TY Pb b1 b2 S cap ss W)(hK:wU Pb W W'):TY Pb b1 b2 S cap ss W':=
 ⟨h.n1,h.n2,h.n3,hK.cell h.n1 h.c1,hK.cell h.n2 h.c2,λk hk=>hK.cell h.n3 (h.tx k hk)⟩
def XL(Pb)(ws)(k b1 b2 S cap)(ss)(W)(hP:PS Pb ws k W)(h:TY Pb b1 b2 S cap ss W)(hl:ss.length<=400):
  Calls prog 291 #[.pointer (some ⟨b1,0,none⟩),.pointer (some ⟨b2,0,none⟩)] W (ZhD Pb ws k W (KO ws k ss) (.string ⟨(EN ws k).toArray⟩) (.string ⟨#[]⟩)):=by
 have c1:=h.c1;have c2:=h.c2;go_enter func291,ntmps291;go_wp2_with fail;refine(Zkg Pb ws k S cap ss _ hP h.tx hl).mono ?_;rintro e w1 ⟨wZ,⟨hf,hk,rfl,wP⟩|⟨hf,rfl,wP⟩⟩
 ·go_wp2_with fail;go_ret;exact⟨wZ,.inl ⟨hf,hk,rfl,wP⟩⟩
 ·go_wp2_with fail;go_ret;exact⟨wZ,.inr ⟨hf,rfl,wP⟩⟩
def Zke(Pb S cap)(ss)(W)(hS:KF W S ss)(xS:Pb<W.heap.size)(hSP:S≠Pb):
  Calls prog 238 #[.pointer (some ⟨Pb,0,none⟩),.slice (some ⟨S,0,none⟩) ss.length cap] W λe w'=>∃b1 b2,e= .returned (.func (.func 291) #[] #[.pointer (some ⟨b1,0,none⟩),.pointer (some ⟨b2,0,none⟩)])/\TY Pb b1 b2 S cap ss w'/\vV W w':=by
 have BD:∀(fn:Fn) (first cap:Array Value) (w:World),(Instr.makeFunc fn first cap).run prog w= .ok (.func fn first cap) w:=λ_ _ _ _=>rfl;go_enter func238,ntmps238;go_wp2_with fail;go_ret;have hB:vV W ((W.alloc (.cells #[.pointer (some ⟨Pb,0,none⟩)] 120)).alloc (.cells #[.slice (some ⟨S,0,none⟩) ss.length cap] 24)):=(yK _).trans ((yK _).mono ae);have e1:(W.alloc (.cells #[.pointer (some ⟨Pb,0,none⟩)] 120)).heap.size=W.heap.size+1:=ae
 have h1:=(wU.alloc (W.heap.size+5) (W.alloc (.cells #[.pointer (some ⟨Pb,0,none⟩)] 120)) (.cells #[.slice (some ⟨S,0,none⟩) ss.length cap] 24)).obj Z (oK W (.cells #[.pointer (some ⟨Pb,0,none⟩)] 120));have h2:=oK (W.alloc (.cells #[.pointer (some ⟨Pb,0,none⟩)] 120)) (.cells #[.slice (some ⟨S,0,none⟩) ss.length cap] 24);rw[e1]at h2;refine⟨W.heap.size,W.heap.size+1,rfl,⟨Z,Z,hSP,?_,?_,hS.below hB⟩,hB⟩
 ·simp only[World.cell?,h1];rfl
 ·simp only[World.cell?,h2];rfl
end
section
open Go.RowKit
open T NT PK
def vX(ws:List RW)(k:Nat):List T:=(ws.drop k).map wI
def hd(ws:List RW)(k:Nat):Option T:=(ws[k]?).map wI
def sl(ws:List RW)(i j:Nat):List RW:=(ws.drop i).take (j-i)
def Rm{k:Nat}(h:k<ws.length):vX ws k=wI ws[k]::vX ws (k+1):=by
 unfold vX;rw[pM h];rfl
def ZqG{k:Nat}(h:¬k<ws.length):vX ws k= []:=by
 unfold vX;rw[qM Z];rfl
def UM{k:Nat}(h:k<ws.length):hd ws k=some (wI ws[k]):=by
 unfold hd;rw[oW h];rfl
def Zi4{k:Nat}(h:¬k<ws.length):hd ws k=none:=by
 unfold hd;rw[uD Z];rfl
def Ae{k:Nat}{t:T}(h:hd ws k=some t):k<ws.length:=by
 by_cases hk:k<ws.length
 ·exact hk
 ·rw[Zi4 hk]at h;cases h
def zy{k:Nat}{t:T}(h:hd ws k=some t)(hk:k<ws.length):wI ws[k]=t:=by
 rw[UM hk]at h;exact oN h
def Ed{k:Nat}{t:T}(h:hd ws k=some t):vX ws k=t::vX ws (k+1):=by
 have hk:=Ae h;rw[Rm hk,zy h hk]
def Zkz{k:Nat}{t:T}(h:hd ws k≠some t)(r):vX ws k≠t::r:=by
 intro e;by_cases hk:k<ws.length
 ·rw[Rm hk]at e;rw[UM hk]at h;exact h (by rw[(rE e).1])
 ·rw[ZqG hk]at e;cases e
def GR{k:Nat}{t:T}{r:List T}(h:vX ws k=t::r):hd ws k=some t:=by
 by_cases hk:k<ws.length
 ·rw[Rm hk]at h;rw[UM hk,(rE h).1]
 ·rw[ZqG hk]at h;cases h
def KM{k:Nat}{t:T}(h:hd ws k=some t):xU t (vX ws k)=some (vX ws (k+1)):=by
 rw[Ed h,xU,nY rfl]
def Mw{k:Nat}{t:T}(h:hd ws k≠some t):xU t (vX ws k)=none:=by
 cases e:vX ws k with
 |nil=>rfl
 |cons u r=>rw[xU,nU (λhu=>h aJ)]
def F3(ws){i j l:Nat}(h1:i<=j)(h2:j<=l):sl ws i l=sl ws i j++sl ws j l:=by
 unfold sl;rw[show l-i=(j-i)+(l-j) from Z,List.take_add,uh,show i+(j-i)=j from Z]
def PN{k:Nat}(h:k<ws.length):sl ws k (k+1)= [ws[k]]:=by
 unfold sl;rw[pM h,show k+1-k=1 from Z];rfl
def zN{k l:Nat}(h:k<ws.length)(hl:k+1<=l):sl ws k l=ws[k]::sl ws (k+1) l:=by
 rw[F3 ws (show k<=k+1 by omega) hl,PN h];rfl
def Zqp{i k:Nat}(h:k<ws.length)(hi:i<=k):sl ws i (k+1)=sl ws i k++ [ws[k]]:=by
 rw[F3 ws hi (show k<=k+1 by omega),PN h]
def ZSH(ws):sl ws 0 ws.length=ws:=by unfold sl;simp
def ZH2{p:T->Bool}(hK:∀x∈Gm.map Prod.fst,ss.contains x=p (Ob x))(hS:∀x∈K6.map Prod.fst,ss.contains x=p (PM x))(hn:p name=false)(hl:p lit=false){w}(hw:EU w):E8 (Be w) (Cn w) ss=p (wI w):=by
 unfold E8 Be Cn wI;rcases hw with⟨h,ht⟩|⟨h,ht⟩|h|h|h
 ·rw[h,nU O,nU O,nU O,nY rfl,hK _ ht];rfl
 ·rw[h,nU O,nU O,nU O,nU O,nY rfl,hS _ ht];rfl
 ·rw[h,nU (show ¬AQ=Cm by decide),nU (show ¬AQ=CQ by decide),nY (show AQ=AQ from rfl),nY (show AQ=AQ from rfl),hn];rfl
 ·rw[h,nU (show ¬Bu=Cm by decide),nU (show ¬Bu=CQ by decide),nU (show ¬Bu=AQ by decide),nU (show ¬Bu=AQ by decide),nY (.inl (show Bu=Bu from rfl)),hl];rfl
 ·rw[h,nU (show ¬BH=Cm by decide),nU (show ¬BH=CQ by decide),nU (show ¬BH=AQ by decide),nU (show ¬BH=AQ by decide),nY (.inr (show BH=BH from rfl)),hl];rfl
def fx(p)(hK:∀x∈Gm.map Prod.fst,ss.contains x=p (Ob x))(hS:∀x∈K6.map Prod.fst,ss.contains x=p (PM x))(hn:p name=false)(hl:p lit=false)(wQ:∀w∈ws,EU w)(k):KO ws k ss=(hd ws k).any p:=by
 unfold KO;by_cases hk:k<ws.length
 ·obtain⟨e1,e2,_⟩:=Zas hk;rw[e1,e2,UM hk,ZH2 hK hS hn hl (wQ _ (oC hk))];rfl
 ·obtain⟨e1,e2,_⟩:=Zat hk;rw[e1,e2,Zi4 hk];rfl
def ZsK{o:Option T}{p:T->Bool}(h:o.any p=true):∃t,o=some t/\p t=true:=by
 cases o with
 |none=>cases h
 |some t=>exact⟨t,rfl,h⟩
def ZsJ{o:Option T}{p:T->Bool}(h:o.any p=false){t:T}(ht:o=some t):p t=false:=by
 subst ht;exact h
def ZEh{o:Option T}{u:T}:o.any (·==u)=decide (o=some u):=by
 cases o with
 |none=>simp
 |some t=>simp[tX]
def X4(s:vS)(t:T):Bool:=decide (∀x∈Gm.map Prod.fst, [s].contains x=(Ob x==t))&&decide (∀x∈K6.map Prod.fst, [s].contains x=(PM x==t))&& !(t==name)&& !(t==lit)&& !(s== [])
def Iu{s}{t:T}(h:X4 s t=true)(wQ:∀w∈ws,EU w)(k):KO ws k [s]=decide (hd ws k=some t):=by
 unfold X4 at h;simp only[oJ,oL,ui,pQ]at h;obtain⟨⟨⟨⟨h1,h2⟩,h3⟩,h4⟩,h5⟩:=h;rw[fx (·==t) h1 h2 (by simpa using h3.symm) (by simpa using h4.symm) wQ k,ZEh]
def ZAj{s}{t:T}(h:X4 s t=true):s≠ []:=by
 unfold X4 at h;simp only[oJ,ui,pQ]at h;exact h.2
def Zyp(wQ:∀w∈ws,EU w)(k):DU ws k=2↔hd ws k=some name:=by
 by_cases hk:k<ws.length
 ·rw[(Zas hk).1,UM hk];constructor
  ·intro h;rw[(ZAN (wQ _ (oC hk))).2];unfold Be at h;split at h
   ·assumption
   ·split at h<;>cases h
  ·intro h;have:=(ZAN (wQ _ (oC hk))).1 (oN h);unfold Be;rw[nY this]
 ·rw[(Zat hk).1,Zi4 hk];constructor<;>intro h<;>cases h
def Zyo(wQ:∀w∈ws,EU w)(k):DU ws k=3↔hd ws k=some lit:=by
 by_cases hk:k<ws.length
 ·rw[(Zas hk).1,UM hk];constructor
  ·intro h;rw[(ZkA (wQ _ (oC hk))).2];unfold Be at h;split at h
   ·cases h
   ·split at h
    ·assumption
    ·cases h
  ·intro h;have h2:=(ZkA (wQ _ (oC hk))).1 (oN h);unfold Be;rw[nU (by rcases h2 with h2|h2<;>rw[h2]<;>decide),nY h2]
 ·rw[(Zat hk).1,Zi4 hk];constructor<;>intro h<;>cases h
def ZqE{k:Nat}(hk:k<ws.length)(wQ:∀w∈ws,EU w)(h:hd ws k≠some lit):EN ws k=(ws[k]).text:=by
 rw[(Zas hk).2.1];unfold Cn;rw[nU (λh2=>h ?_)];rw[UM hk,(ZkA (wQ _ (oC hk))).2 h2]
inductive RK
 |v (x:Value)
 |vY (l:List (Value×Value))
 |VB (l:List (Value×Value))
 |cls (l:List (Value×Value))
def Lay(Pb n0:Nat)(W:World)(x:Value)(l:List (Value×Value)):Prop:=
 ∃g cap,x= .slice (some ⟨g,0,none⟩) l.length cap/\l.length<=cap/\g≠Pb/\n0<=g/\∀i (h:i<l.length),W.cell? ⟨g,i*2,none⟩=some l[i].1/\W.cell? ⟨g,i*2+1,none⟩=some l[i].2
def xW(s:vS):Value:=.string ⟨s.toArray⟩
def ZhF(b:Bool):vS:=if b then[32,97,108,108]else[]
def Vn:List vS:= [[97,110,100], [111,114]]
def Tg:List vS:= [[43], [45], [42], [47], [37]]
def Ph:List vS:= [[97,110,121], [97,108,108]]
inductive wX (Pb n0:Nat) (W:World):RK->Tr->Prop
 |Ai {l r x y s b}:s∈Kv->wX Pb n0 W (.v l) x->wX Pb n0 W (.v r) y->wX Pb n0 W (.v (.iface 169 (.agg #[l,xW (s++ZhF b),r]))) (nd {kind:=s,all:=b} (l2 x y))
 |BS {l r x y s}:s∈Vn->wX Pb n0 W (.v l) x->wX Pb n0 W (.v r) y->wX Pb n0 W (.v (.iface 330 (.agg #[l,xW s,r]))) (nd {kind:=s} (l2 x y))
 |arith {l r x y s}:s∈Tg->wX Pb n0 W (.v l) x->wX Pb n0 W (.v r) y->wX Pb n0 W (.v (.iface 448 (.agg #[l,xW s,r]))) (nd {kind:=s} (l2 x y))
 |compare {l r x y s}:wX Pb n0 W (.v l) x->wX Pb n0 W (.v r) y->wX Pb n0 W (.v (.iface 340 (.agg #[l,xW s,r]))) (nd {kind:= [99,111,109,112,97,114,101],sign:=s} (l2 x y))
 |xJ {l x}:wX Pb n0 W (.v l) x->wX Pb n0 W (.v (.iface 333 (.agg #[l]))) (nd {kind:= [110,111,116]} (l1 x))
 |neg {l x}:wX Pb n0 W (.v l) x->wX Pb n0 W (.v (.iface 444 (.agg #[l]))) (nd {kind:= [110,101,103]} (l1 x))
 |BK {l q x y s h}:h∈Ph->wX Pb n0 W (.v l) x->wX Pb n0 W (.v q) y->wX Pb n0 W (.v (.iface 362 (.agg #[q,l,xW s,xW h]))) (nd {kind:=h,sign:=s} (l2 x y))
 |zU {l q x y b}:wX Pb n0 W (.v l) x->wX Pb n0 W (.v q) y->wX Pb n0 W (.v (.iface 359 (.agg #[q,l,.bool b]))) (nd {kind:= [105,110],xJ:=b} (l2 x y))
 |zK {q y}:wX Pb n0 W (.v q) y->wX Pb n0 W (.v (.iface 353 (.agg #[q]))) (nd {kind:= [101,120,105,115,116,115]} (l1 y))
 |isNull {l x b}:wX Pb n0 W (.v l) x->wX Pb n0 W (.v (.iface 343 (.agg #[l,.bool b]))) (nd {kind:= [105,115,110,117,108,108],xJ:=b} (l1 x))
 |num {n}:wX Pb n0 W (.v (.iface 439 (.agg #[.iface 142 (.int .i64 n)]))) (nd {kind:=Bu,num:=n} .nil)
 |text {s}:wX Pb n0 W (.v (.iface 439 (.agg #[.iface 82 (xW s)]))) (nd {kind:=BH,text:=s} .nil)
 |null:wX Pb n0 W (.v (.iface 439 (.agg #[.iface 140 (.agg #[])]))) (nd {kind:= [110,117,108,108]} .nil)
 |column {o s}:wX Pb n0 W (.v (.iface 365 (.agg #[xW o,xW s]))) (nd {kind:= [99,111,108,117,109,110],wW:=o,text:=s} .nil)
 |star:wX Pb n0 W (.v (.iface 451 (.agg #[xW [99,111,117,110,116],.nilIface]))) (nd {kind:= [99,111,117,110,116],star:=true} .nil)
 |agg {l x s}:s∈Qk->wX Pb n0 W (.v l) x->wX Pb n0 W (.v (.iface 451 (.agg #[xW s,l]))) (nd {kind:=s} (l1 x))
 |select {i f w g h is fs gs ti tf tw tg th b c}:(c=true/\i= .slice none 0 0/\is= []\/c=false/\is≠ []/\Lay Pb n0 W i is)->(fs≠ []/\Lay Pb n0 W f fs)->(g= .slice none 0 0/\gs= []\/gs≠ []/\Lay Pb n0 W g gs)->
  wX Pb n0 W (.vY is) ti->wX Pb n0 W (.VB fs) tf->wX Pb n0 W (.cls gs) tg->
  (w= .nilIface/\tw= .nil\/w≠.nilIface/\tw.isNode=true)->(h= .nilIface/\th= .nil\/h≠.nilIface/\th.isNode=true)->(w≠.nilIface->wX Pb n0 W (.v w) tw)->(h≠.nilIface->wX Pb n0 W (.v h) th)->
  wX Pb n0 W (.v (.iface 181 (.agg #[.bool b,i,f,w,g,h]))) (.node {kind:= [115,101,108,101,99,116],star:=c,BB:=b} .nil ti tf tg tw th)
 |Xz:wX Pb n0 W (.vY []) .nil
 |U5 {x s r t ts}:wX Pb n0 W (.v x) t->wX Pb n0 W (.vY r) ts->wX Pb n0 W (.vY ((x,xW s)::r)) (.cons (nd {kind:= [105,116,101,109],xZ:=s} (l1 t)) ts)
 |ZaM:wX Pb n0 W (.VB []) .nil
 |Vy {n s r ts}:wX Pb n0 W (.VB r) ts->wX Pb n0 W (.VB ((xW n,xW s)::r)) (.cons (nd {kind:= [115,111,117,114,99,101],text:=n,xZ:=s} .nil) ts)
 |WI:wX Pb n0 W (.cls []) .nil
 |Uo {o s r ts}:wX Pb n0 W (.cls r) ts->wX Pb n0 W (.cls ((xW o,xW s)::r)) (.cons (nd {kind:= [99,111,108,117,109,110],wW:=o,text:=s} .nil) ts)
def Lay.same{x}{l}(h:Lay Pb n0 W x l)(hK:∀g o v,n0<=g->g≠Pb->W.cell? ⟨g,o,none⟩=some v->W'.cell? ⟨g,o,none⟩=some v):Lay Pb n0 W' x l:=by
 obtain⟨g,cap,h1,h2,h3,h4,h5⟩:=h;exact⟨g,cap,h1,h2,h3,h4,λi hi=>⟨hK _ _ _ h4 h3 (h5 i hi).1,hK _ _ _ h4 h3 (h5 i hi).2⟩⟩
def Lay.low{x}{l}(h:Lay Pb n0 W x l)(hn:n1<=n0):Lay Pb n1 W x l:=by
 obtain⟨g,cap,h1,h2,h3,h4,h5⟩:=h;exact⟨g,cap,h1,h2,h3,om hn h4,h5⟩
theorem wX.same{r}{t}(h:wX Pb n0 W r t)(hK:∀g o v,n0<=g->g≠Pb->W.cell? ⟨g,o,none⟩=some v->W'.cell? ⟨g,o,none⟩=some v):wX Pb n0 W' r t:=by
 induction h with
 |Ai hs _ _ i1 i2=>exact .Ai hs i1 i2
 |BS hs _ _ i1 i2=>exact .BS hs i1 i2
 |arith hs _ _ i1 i2=>exact .arith hs i1 i2
 |compare _ _ i1 i2=>exact .compare i1 i2
 |xJ _ i1=>exact .xJ i1
 |neg _ i1=>exact .neg i1
 |BK hs _ _ i1 i2=>exact .BK hs i1 i2
 |zU _ _ i1 i2=>exact .zU i1 i2
 |zK _ i1=>exact .zK i1
 |isNull _ i1=>exact .isNull i1
 |num=>exact .num
 |text=>exact .text
 |null=>exact .null
 |column=>exact .column
 |star=>exact .star
 |agg hs _ i1=>exact .agg hs i1
 |select h1 h2 h3 _ _ _ h4 h5 _ _ i1 i2 i3 i4 i5=>
  refine .select (h1.imp id (λ⟨a,b,c⟩=>⟨a,b,c.same hK⟩)) ⟨h2.1,h2.2.same hK⟩ (h3.imp id (λ⟨a,b⟩=>⟨a,b.same hK⟩)) i1 i2 i3 h4 h5 i4 i5
 |Xz=>exact .Xz
 |U5 _ _ i1 i2=>exact .U5 i1 i2
 |ZaM=>exact .ZaM
 |Vy _ i1=>exact .Vy i1
 |WI=>exact .WI
 |Uo _ i1=>exact .Uo i1
theorem wX.low{r}{t}(h:wX Pb n0 W r t)(hK:n1<=n0):wX Pb n1 W r t:=by
 induction h with
 |Ai hs _ _ i1 i2=>exact .Ai hs i1 i2
 |BS hs _ _ i1 i2=>exact .BS hs i1 i2
 |arith hs _ _ i1 i2=>exact .arith hs i1 i2
 |compare _ _ i1 i2=>exact .compare i1 i2
 |xJ _ i1=>exact .xJ i1
 |neg _ i1=>exact .neg i1
 |BK hs _ _ i1 i2=>exact .BK hs i1 i2
 |zU _ _ i1 i2=>exact .zU i1 i2
 |zK _ i1=>exact .zK i1
 |isNull _ i1=>exact .isNull i1
 |num=>exact .num
 |text=>exact .text
 |null=>exact .null
 |column=>exact .column
 |star=>exact .star
 |agg hs _ i1=>exact .agg hs i1
 |select h1 h2 h3 _ _ _ h4 h5 _ _ i1 i2 i3 i4 i5=>
  refine .select (h1.imp id (λ⟨a,b,c⟩=>⟨a,b,c.low hK⟩)) ⟨h2.1,h2.2.low hK⟩ (h3.imp id (λ⟨a,b⟩=>⟨a,b.low hK⟩)) i1 i2 i3 h4 h5 i4 i5
 |Xz=>exact .Xz
 |U5 _ _ i1 i2=>exact .U5 i1 i2
 |ZaM=>exact .ZaM
 |Vy _ i1=>exact .Vy i1
 |WI=>exact .WI
 |Uo _ i1=>exact .Uo i1
def wX.wJ{r}{t}(h:wX Pb n0 W r t)(hK:wU Pb W W'):wX Pb n0 W' r t:=h.same λg o v _ hg hc=>hK.cell hg hc
def wX.Jq{r}{t}(h:wX Pb n0 W r t){b:Nat}(hb:b<n0)(o)(v):wX Pb n0 (W.setCell ⟨b,o,none⟩ v) r t:=
 h.same λg o' v' hg _ hc=>(World.cell?_setCell_far W ⟨b,o,none⟩ ⟨g,o',none⟩ v (λe=>by have:b=g:=e;omega)).trans hc
theorem wX.iface{x:Value}{t}(h:wX Pb n0 W (.v x) t):∃n y,x= .iface n y:=by
 cases h<;>exact⟨_,_,rfl⟩
def wX.node{x:Value}{t}(h:wX Pb n0 W (.v x) t):t.isNode=true:=by
 cases h<;>rfl
def wX.ZMP{l:List (Value×Value)}:wX Pb n0 W (.vY l) ts->∀{x s t},wX Pb n0 W (.v x) t->wX Pb n0 W (.vY (l++ [(x,xW s)])) (ts.snoc (nd {kind:= [105,116,101,109],xZ:=s} (l1 t))):=by
 intro h x s t ht;induction l generalizing ts with
 |nil=>cases h;exact .U5 ht .Xz
 |cons a l ih=>cases h with|U5 h1 h2=>exact .U5 h1 (ih h2)
def wX.ZSM{l:List (Value×Value)}:wX Pb n0 W (.VB l) ts->∀{n s},wX Pb n0 W (.VB (l++ [(xW n,xW s)])) (ts.snoc (nd {kind:= [115,111,117,114,99,101],text:=n,xZ:=s} .nil)):=by
 intro h n s;induction l generalizing ts with
 |nil=>cases h;exact .Vy .ZaM
 |cons a l ih=>cases h with|Vy h2=>exact .Vy (ih h2)
def wX.ZGE{l:List (Value×Value)}:wX Pb n0 W (.cls l) ts->∀{n s},wX Pb n0 W (.cls (l++ [(xW n,xW s)])) (ts.snoc (nd {kind:= [99,111,108,117,109,110],wW:=n,text:=s} .nil)):=by
 intro h n s;induction l generalizing ts with
 |nil=>cases h;exact .Uo .WI
 |cons a l ih=>cases h with|Uo h2=>exact .Uo (ih h2)
def PS.other{k}(h:PS Pb ws k W){b:Nat}(hb:b≠Pb)(hc:W.cell? ⟨b,0,none⟩=some v0)(hv:∀n,v0≠.int .i64 n)(o)(v):PS Pb ws k (W.setCell ⟨b,o,none⟩ v):=by
 obtain⟨wa,cap,h1,h2⟩:=h.obj;have hp:(W.setCell ⟨b,o,none⟩ v).heap[Pb]? =W.heap[Pb]? :=ou _ _ _ _ (λe=>hb e.symm);refine⟨h.len,h.ok,h.le,⟨wa,cap,hp.trans h1,λi hi=>?_⟩,λwa' zY e=>h.Zeq wa' zY (hp.symm.trans e)⟩;obtain⟨g,e,hg,c1,c2,c3⟩:=h2 i hi;obtain⟨g',e',_,d1,_⟩:=h2 0 Z;have hgg:g=g':=by rw[e]at e';cases e';rfl
 subst hgg;have GH:b≠g:=λe=>by
  subst e;exact nO
 have hf:∀o',(W.setCell ⟨b,o,none⟩ v).cell? ⟨g,o',none⟩=W.cell? ⟨g,o',none⟩:=λo'=>World.cell?_setCell_far W ⟨b,o,none⟩ ⟨g,o',none⟩ _ GH;exact⟨g,e,hg,(hf _).trans c1,(hf _).trans c2,(hf _).trans c3⟩
def PS.lt{k}(h:PS Pb ws k W):Pb<W.heap.size:=by
 obtain⟨_,_,h1,_⟩:=h.obj;exact(wo h1)
def AR(Pb:Nat)(ws:List RW)(k:Nat)(A:Option (List T))(Q:Nat->Value->World->Prop)(W:World)(e:Ending)(w':World):Prop:=
 (∃k' x,k<=k'/\A=some (vX ws k')/\e= .returned x/\Q k' x w'/\PS Pb ws k' w'/\wU Pb W w')\/(A=none/\FK Pb W e w')
def Part(Pb:Nat)(ws:List RW)(nt:NT)(i n0 k':Nat)(x:Value)(w':World):Prop:=∃t,D nt (sl ws i k') t/\wX Pb n0 w' (.v x) t
def CX(Pb:Nat)(ws:List RW)(f:Nat)(nt:NT)(k0:Nat):Prop:=
 ∀k W,k0<=k->PS Pb ws k W->Calls prog f #[.pointer (some ⟨Pb,0,none⟩)] W (AR Pb ws k (vW (P nt) (vX ws k)) (Part Pb ws nt k W.heap.size) W)
def Wm(x:Value)(t:Tr):Prop:=∀Pb n0 W,wX Pb n0 W (.v x) t
def KC(ws:List RW)(nt:NT)(i k':Nat)(x:Value)(w':World):Prop:=∃t,D nt (sl ws i k') t/\Wm x t
def F9(Pb:Nat)(ws:List RW)(f:Nat)(nt:NT)(k0:Nat):Prop:=
 ∀k W,k0<=k->PS Pb ws k W->Calls prog f #[.pointer (some ⟨Pb,0,none⟩)] W (AR Pb ws k (vW (P nt) (vX ws k)) (KC ws nt k) W)
def F9.rds{f}{nt}(h:F9 Pb ws f nt k0):CX Pb ws f nt k0:=λk W h1 h2=>
 (h k W h1 h2).mono λe w' h=>by
  rcases h with⟨k',x,a,b,c,⟨t,d1,d2⟩,e1,e2⟩|h
  ·exact .inl ⟨k',x,a,b,c,⟨t,d1,d2 _ _ _⟩,e1,e2⟩
  ·exact .inr h
def F9.mono{f}{nt}(h:F9 Pb ws f nt k0)(hk:k0<=k1):F9 Pb ws f nt k1:=
 λk W h1 h2=>h k W Z h2
def CX.mono{f}{nt}(h:CX Pb ws f nt k0)(hk:k0<=k1):CX Pb ws f nt k1:=
 λk W h1 h2=>h k W Z h2
end
section
open Go.RowKit
open T NT PK
def Zp7{k:Nat}{nt:NT}(h:hd ws k≠some lp):vW (round nt) (vX ws k)=none:=by
 rw[Zec,Mw h];rfl
def Zp8{k:Nat}{nt:NT}(h:hd ws k=some lp)(h2:vW (P nt) (vX ws (k+1))=none):vW (round nt) (vX ws k)=none:=by
 rw[Zec,KM h,Option.bind_some,h2];rfl
def Zp9{k:Nat}{nt:NT}(h:hd ws k=some lp)(h2:vW (P nt) (vX ws (k+1))=some (vX ws k'))(h3:hd ws k'≠some rp):vW (round nt) (vX ws k)=none:=by
 rw[Zec,KM h,Option.bind_some,h2,Option.bind_some,Mw h3]
def Zqa{k:Nat}{nt:NT}(h:hd ws k=some lp)(h2:vW (P nt) (vX ws (k+1))=some (vX ws k'))(h3:hd ws k'=some rp):vW (round nt) (vX ws k)=some (vX ws (k'+1)):=by
 rw[Zec,KM h,Option.bind_some,h2,Option.bind_some,KM h3]
def RI(Pb:Nat)(ws:List RW)(nt:NT)(k n0 k':Nat)(x:Value)(w':World):Prop:=∃m t,hd ws k=some lp/\hd ws m=some rp/\k+1<=m/\k'=m+1/\D nt (sl ws (k+1) m) t/\wX Pb n0 w' (.v x) t
def ZZy{p:Prop}(h:p:=by
 obtain⟨m,t,h1,h2,h3,rfl,h5,h6⟩:=h;have l1:=Ae h1;have l2:=Ae h2;refine⟨ws[k],ws[m],_,t,zy h1 l1,zy h2 l2,?_,h5,h6⟩;rw[zN l1 Z,Zqp l2 h3]):p:=h
def RI.split{nt}{k}{x}(h:RI Pb ws nt k n0 k' x w'):∃o c a t,wI o=lp/\wI c=rp/\sl ws k k'=o::(a++ [c])/\D nt a t/\wX Pb n0 w' (.v x) t:=by
 exact ZZy
def ZlM(ws:List RW)(nt:NT)(k k':Nat)(x:Value)(w':World):Prop:=∃m t,hd ws k=some lp/\hd ws m=some rp/\k+1<=m/\k'=m+1/\D nt (sl ws (k+1) m) t/\Wm x t
def ZlM.split{nt}{k}{x}(h:ZlM ws nt k k' x w'):∃o c a t,wI o=lp/\wI c=rp/\sl ws k k'=o::(a++ [c])/\D nt a t/\Wm x t:=by
 exact ZZy
def ZZx{p:Prop}(h:p:=by
 rw[Iu (t:=rp) O wQ,qZ]at yj;have Cg:=FK.of (wZ.trans wY) hb;obtain⟨b,rfl,h1,h2,h3⟩:=Cg;go_wp2;exact⟨rfl,.inr ⟨Zp9 hf hA yj,b,rfl,h1,h2,h3⟩⟩):p:=h
def ZZz{p:Prop}(h:p:=by
 have Cg:=FK.of wZ hb;obtain⟨b,rfl,h1,h2,h3⟩:=Cg;go_wp2;exact⟨rfl,.inr ⟨Zp8 hf hA,b,rfl,h1,h2,h3⟩⟩):p:=h
def ZZw{p:Prop}(h:p:=by
 go_wp2_with fail;refine(Zay Pb ws k [40] _ hP O).mono ?_;rintro e w1 (⟨hf,hk,rfl,wP,wZ⟩|⟨hf,hb⟩)
 ·rw[Iu (t:=lp) O wQ,oL]at hf;go_wp2_with fail;refine(hq (k+1) w1 (nV _) wP).mono ?_;rintro e w2 (⟨k',x,hle,hA,rfl,⟨t,hD,hR⟩,hP2,wY⟩|⟨hA,hb⟩)
  ·obtain⟨n,y,rfl⟩:=hR.iface;go_wp2_with fail;refine(Zay Pb ws k' [41] _ hP2 O).mono ?_;rintro e w3 (⟨yj,EH,rfl,hP3,xP⟩|⟨yj,hb⟩)
   ·rw[Iu (t:=rp) O wQ,oL]at yj;go_wp2_with fail;go_ret;exact .inl ⟨k'+1,_,Z,Zqa hf hA yj,rfl,⟨k',t,hf,yj,hle,rfl,hD,(hR.low wZ.size).wJ xP⟩,hP3,(wZ.trans wY).trans xP⟩
   ·exact ZZx
  ·exact ZZz
 ·rw[Iu (t:=lp) O wQ,qZ]at hf;obtain⟨b,rfl,h1,h2,h3⟩:=hb;go_wp2;exact⟨rfl,.inr ⟨Zp7 hf,b,rfl,h1,h2,h3⟩⟩):p:=h
def Zzq(Pb)(ws)(k)(W)(hP:PS Pb ws k W)(hq:CX Pb ws 43 query (k+1)):
  Calls prog 112 #[.pointer (some ⟨Pb,0,none⟩),.func (.func 43) #[.pointer (some ⟨Pb,0,none⟩)] #[]] W (AR Pb ws k (vW (round query) (vX ws k)) (RI Pb ws query k W.heap.size) W):=by
 have wQ:=hP.ok;go_enter func112,ntmps112;exact ZZw
def ZQF(Pb)(ws)(k)(W)(hP:PS Pb ws k W)(hq:F9 Pb ws 233 expr (k+1)):
  Calls prog 380 #[.pointer (some ⟨Pb,0,none⟩),.func (.func 233) #[.pointer (some ⟨Pb,0,none⟩)] #[]] W (AR Pb ws k (vW (round expr) (vX ws k)) (ZlM ws expr k) W):=by
 have wQ:=hP.ok;go_enter func380,ntmps380;go_wp2_with fail;refine(Zay Pb ws k [40] _ hP O).mono ?_;rintro e w1 (⟨hf,hk,rfl,wP,wZ⟩|⟨hf,hb⟩)
 ·rw[Iu (t:=lp) O wQ,oL]at hf;go_wp2_with fail;refine(hq (k+1) w1 (nV _) wP).mono ?_;rintro e w2 (⟨k',x,hle,hA,rfl,⟨t,hD,hR⟩,hP2,wY⟩|⟨hA,hb⟩)
  ·obtain⟨n,y,rfl⟩:=(hR 0 0 W).iface;go_wp2_with fail;refine(Zay Pb ws k' [41] _ hP2 O).mono ?_;rintro e w3 (⟨yj,EH,rfl,hP3,xP⟩|⟨yj,hb⟩)
   ·rw[Iu (t:=rp) O wQ,oL]at yj;go_wp2_with fail;go_ret;exact .inl ⟨k'+1,_,Z,Zqa hf hA yj,rfl,⟨k',t,hf,yj,hle,rfl,hD,hR⟩,hP3,(wZ.trans wY).trans xP⟩
   ·exact ZZx
  ·exact ZZz
 ·rw[Iu (t:=lp) O wQ,qZ]at hf;obtain⟨b,rfl,h1,h2,h3⟩:=hb;go_wp2;exact⟨rfl,.inr ⟨Zp7 hf,b,rfl,h1,h2,h3⟩⟩
def ZQE(Pb)(ws)(k)(W)(hP:PS Pb ws k W)(hq:CX Pb ws 169 xR (k+1)):
  Calls prog 384 #[.pointer (some ⟨Pb,0,none⟩),.func (.func 169) #[.pointer (some ⟨Pb,0,none⟩)] #[]] W (AR Pb ws k (vW (round xR) (vX ws k)) (RI Pb ws xR k W.heap.size) W):=by
 have wQ:=hP.ok;go_enter func384,ntmps384;exact ZZw
end
section
open Go.RowKit
open T NT PK
def Sg(ws:List RW)(p:T->Bool)(k1 k2:Nat)(s:vS):Prop:=
 (∃(h:k1<ws.length),p (wI ws[k1])=true/\k2=k1+1/\s=(ws[k1]).text/\s≠ [])\/((∀t,hd ws k1=some t->p t=false)/\k2=k1/\s= [])
def VJ(ws)(k):(vX ws k).length=ws.length-k:=by unfold vX;simp
def Zeb{k}{nt:NT}(h:vW (P nt) (vX ws k)=some (vX ws k')):k<k':=by
 have:=YW h;rw[VJ,VJ]at this;omega
def Tk(p)(hK:∀x∈Gm.map Prod.fst,ss.contains x=p (Ob x))(hS:∀x∈K6.map Prod.fst,ss.contains x=p (PM x))(hn:p name=false)(hl:p lit=false)(h0:ss.contains []=false)(wQ:∀w∈ws,EU w){e}(h:ZhD Pb ws k1 W (KO ws k1 ss) (.string ⟨(EN ws k1).toArray⟩) (.string ⟨#[]⟩) e w'):∃k2 s,e= .returned (.string ⟨s.toArray⟩)/\Sg ws p k1 k2 s/\PS Pb ws k2 w'/\wU Pb W w':=by
 obtain⟨hKp,⟨hf,hk,rfl,wP⟩|⟨hf,rfl,wP⟩⟩:=h
 ·refine⟨k1+1,EN ws k1,rfl,.inl ⟨hk,?_,rfl,?_,?_⟩,wP,hKp⟩
  ·rw[fx p hK hS hn hl wQ,UM hk]at hf;exact hf
  ·have yj:=hf;rw[fx p hK hS hn hl wQ]at yj;obtain⟨t,ht,hp⟩:=ZsK yj;exact ZqE hk wQ (by rw[ht];intro e;cases e;rw[hl]at hp;cases hp)
  ·intro e;unfold KO E8 at hf;rw[e,h0]at hf;simp at hf
 ·refine⟨k1, [],rfl,.inr ⟨λt ht=>?_,rfl,rfl⟩,wP,hKp⟩;rw[fx p hK hS hn hl wQ]at hf;exact ZsJ hf ht
def X9{w}(hw:EU w){p:T->Bool}(hp:p (wI w)=true){L:List vS}(hK:∀x∈Gm.map Prod.fst,p (Ob x)=true->x∈L)(hS:∀x∈K6.map Prod.fst,p (PM x)=true->x∈L)(hn:p name=false)(hl:p lit=false):w.text∈L:=by
 unfold wI at hp;rcases hw with⟨h,ht⟩|⟨h,ht⟩|h|h|h
 ·rw[h,nY rfl]at hp;exact hK _ ht hp
 ·rw[h,nU O,nY rfl]at hp;exact hS _ ht hp
 ·rw[h,nU (show ¬AQ=Cm by decide),nU (show ¬AQ=CQ by decide),nY (show AQ=AQ from rfl),hn]at hp;cases hp
 ·rw[h,nU (show ¬Bu=Cm by decide),nU (show ¬Bu=CQ by decide),nU (show ¬Bu=AQ by decide),hl]at hp;cases hp
 ·rw[h,nU (show ¬BH=Cm by decide),nU (show ¬BH=CQ by decide),nU (show ¬BH=AQ by decide),hl]at hp;cases hp
def ZzE(n1 n2:Nat)(y1 y2)(s:vS)(W):
  Calls prog 239 #[.agg #[.iface n1 y1,.string ⟨s.toArray⟩,.iface n2 y2]] W λe w'=>e= .returned (.iface 330 (.agg #[.iface n1 y1,.string ⟨s.toArray⟩,.iface n2 y2]))/\vV W w':=by
 go_enter func239,ntmps239;exact kP
def ZzC(n1 n2:Nat)(y1 y2)(s:vS)(W):
  Calls prog 289 #[.agg #[.iface n1 y1,.string ⟨s.toArray⟩,.iface n2 y2]] W λe w'=>e= .returned (.iface 448 (.agg #[.iface n1 y1,.string ⟨s.toArray⟩,.iface n2 y2]))/\vV W w':=by
 go_enter func289,ntmps289;exact kP
end
section
open Go.RowKit
open T NT PK
def ZGe(h:∀t,hd ws k1=some t->(t==JN)=false):vW (R xR) (vX ws k1)=some (vX ws k1):=by
 cases e:vX ws k1 with
 |nil=>exact Ws xR ae
 |cons u r=>
  have:=h u (GR e);rw[Zsk,nU dS]
def ZtF(hk:k1<ws.length)(h:(wI ws[k1]==JN)=true):vW (R xR) (vX ws k1)=(vW (P yM) (vX ws (k1+1))).bind (vW (R xR)):=by
 rw[Rm hk,Zsk,nY ay]
def ZZA{p:Prop}(h:p:=by
 clear za Ew HD Ad hR D7;go_wp2_with fail;go_roundg (ws.length-k5+1);case measure=>omega
 case rel=>exact⟨k3,k5,_,_,_,s5,rfl,UR,Z,rfl,rfl,I1,Mf.out,DW,Qa,Du,zt.trans AO⟩):p:=h
def ZZB{p:Prop}(h:p:=by
 clear Ad HS;go_wp2_with fail;go_ret;exact .inl ⟨k2,_,hle,HA.out,rfl,⟨t,HD.out,hR⟩,hP2,hK⟩):p:=h
def ZP8(Pb)(ws)(k b1 b2 S cap)(W)(hP:PS Pb ws k W)(hS:TY Pb b1 b2 S cap [[111,114]] W)(hq:CX Pb ws 237 yM k):
  Calls prog 236 #[.func (.func 237) #[.pointer (some ⟨Pb,0,none⟩)] #[],.func (.func 291) #[] #[.pointer (some ⟨b1,0,none⟩),.pointer (some ⟨b2,0,none⟩)],.func (.func 239) #[] #[]] W (AR Pb ws k (vW (P xR) (vX ws k)) (Part Pb ws xR k W.heap.size) W):=by
 have wQ:=hP.ok;go_enter func236,ntmps236;go_wp2_with fail;refine(hq k W (nV _) hP).mono ?_;rintro e w1 (⟨k1,x,hle,hA,rfl,⟨t,hD,hR⟩,wP,wZ⟩|⟨hA,hb⟩)
 ·obtain⟨n,y,rfl⟩:=hR.iface;have Ad:Hid (vW (P xR) (vX ws k)=vW (R xR) (vX ws k1)):=by show _=_;rw[Zsw,hA,Option.bind_some]
  clear hA;go_wp2_with fail;refine(XL Pb ws k1 b1 b2 S cap _ _ wP (hS.wJ wZ) ae).mono ?_;rintro e w2 hT;obtain⟨k2,s,rfl,hs,hP2,wY⟩:=Tk (·==JN) O O O O O wQ hT;clear hT;have HS:=wN hs;clear hs;have HD:Hid (D xR (sl ws k k1) t):=.Vb hD;clear hD;have UT:=hP2.le;go_wp2_with fail;go_loopg [7,8] (ws.length-k2+1) (λgk lv sv wr=>∃(k1 k2:Nat) (t:Tr) (n:Nat) (y:Value) (s:vS),gk=ws.length-k2+1/\k2<=ws.length/\k<=k1/\lv= .iface n y/\sv= .string ⟨s.toArray⟩/\Hid (D xR (sl ws k k1) t)/\wX Pb W.heap.size wr (.v (.iface n y)) t/\Hid (vW (P xR) (vX ws k)=vW (R xR) (vX ws k1))/\Hid (Sg ws (·==JN) k1 k2 s)/\PS Pb ws k2 wr/\wU Pb W wr);case atStart=>exact⟨k1,k2,t,n,y,s,rfl,UT,hle,rfl,rfl,HD,hR.wJ wY,Ad,HS,hP2,wZ.trans wY⟩
  case round=>
   obtain⟨k1,k2,t,n,y,s,rfl,Fu,hle,rfl,rfl,HD,hR,Ad,HS,hP2,hK⟩:=hrel;rcases HS.out with⟨yU,hp,rfl,hs,wF⟩|⟨wO,rfl,rfl⟩
   ·have Zcr:(s== [])=false:=by simpa using wF
    have HX:Hid (s=(ws[k1]).text/\(wI ws[k1]==JN)=true):=⟨hs,hp⟩;have HN:=wN wF;clear HS hs hp wF;go_wp2_with fail;refine(hq (k1+1) wr Z hP2).mono ?_;rintro e w3 (⟨k3,x,hle3,za,rfl,⟨t3,Ew,D7⟩,hP3,xP⟩|⟨za,hb⟩)
    ·obtain⟨n3,y3,rfl⟩:=D7.iface;have SF:=Zeb za;go_wp2_with fail;refine(ZzE n n3 y y3 s _).mono ?_;rintro e w4 ⟨rfl,xw⟩;have Am:=hP3.wJ xw;have zt:=(hK.trans xP).trans (wU.of Pb xw);go_wp2_with fail;refine(XL Pb ws k3 b1 b2 S cap _ _ Am (hS.wJ zt) ae).mono ?_;rintro e w5 hT;obtain⟨k5,s5,rfl,Az,Du,AO⟩:=Tk (·==JN) O O O O O wQ hT;clear hT;have Qa:=wN Az;have LF:k3<=k5:=by rcases Az with⟨_,_,h,_⟩|⟨_,h,_⟩<;>omega
     clear Az;have UR:=Du.le;have Mf:Hid (wX Pb W.heap.size w5 (.v (.iface 330 (.agg #[.iface n y,.string ⟨s.toArray⟩,.iface n3 y3]))) (nd {kind:=s} (l2 t t3))):=
      wX.BS (by rw[HX.out.1];exact X9 (p:=(·==JN)) (wQ _ (oC yU)) HX.out.2 O O O O) (hR.wJ ((xP.trans (wU.of Pb xw)).trans AO)) ((D7.low hK.size).wJ ((wU.of Pb xw).trans AO))
     have DW:Hid (vW (P xR) (vX ws k)=vW (R xR) (vX ws k3)):=by
      show _=_;rw[Ad.out,ZtF yU HX.out.2,za,Option.bind_some]
     have I1:Hid (D xR (sl ws k k3) (nd {kind:=s} (l2 t t3))):=by
      show D _ _ _;rw[F3 ws (show k<=k1 by omega) (show k1<=k3 by omega),zN yU Z,HX.out.1];exact .Vd dU HD.out Ew
     exact ZZA
    ·have Cg:=FK.of hK hb;obtain⟨b,rfl,h1,h2,h3⟩:=Cg;have HA:Hid (vW (P xR) (vX ws k)=none):=by show _=_;rw[Ad.out,ZtF yU HX.out.2,za];rfl
     exact iW
   ·have HA:Hid (vW (P xR) (vX ws k)=some (vX ws k2)):=by show _=_;rw[Ad.out,ZGe wO]
    exact ZZB
 ·obtain⟨b,rfl,h1,h2,h3⟩:=hb;go_wp2;exact⟨rfl,.inr ⟨by rw[Zsw,hA];rfl,b,rfl,h1,h2,h3⟩⟩
def ZGf(h:∀t,hd ws k1=some t->(t==FO)=false):vW (R yM) (vX ws k1)=some (vX ws k1):=by
 cases e:vX ws k1 with
 |nil=>exact Ws yM ae
 |cons u r=>
  have:=h u (GR e);rw[Zsm,nU dS]
def ZtG(hk:k1<ws.length)(h:(wI ws[k1]==FO)=true):vW (R yM) (vX ws k1)=(vW (P neg) (vX ws (k1+1))).bind (vW (R yM)):=by
 rw[Rm hk,Zsm,nY ay]
def ZP9(Pb)(ws)(k b1 b2 S cap)(W)(hP:PS Pb ws k W)(hS:TY Pb b1 b2 S cap [[97,110,100]] W)(hq:CX Pb ws 290 neg k):
  Calls prog 236 #[.func (.func 290) #[.pointer (some ⟨Pb,0,none⟩)] #[],.func (.func 291) #[] #[.pointer (some ⟨b1,0,none⟩),.pointer (some ⟨b2,0,none⟩)],.func (.func 239) #[] #[]] W (AR Pb ws k (vW (P yM) (vX ws k)) (Part Pb ws yM k W.heap.size) W):=by
 have wQ:=hP.ok;go_enter func236,ntmps236;go_wp2_with fail;refine(hq k W (nV _) hP).mono ?_;rintro e w1 (⟨k1,x,hle,hA,rfl,⟨t,hD,hR⟩,wP,wZ⟩|⟨hA,hb⟩)
 ·obtain⟨n,y,rfl⟩:=hR.iface;have Ad:Hid (vW (P yM) (vX ws k)=vW (R yM) (vX ws k1)):=by show _=_;rw[Zsz,hA,Option.bind_some]
  clear hA;go_wp2_with fail;refine(XL Pb ws k1 b1 b2 S cap _ _ wP (hS.wJ wZ) ae).mono ?_;rintro e w2 hT;obtain⟨k2,s,rfl,hs,hP2,wY⟩:=Tk (·==FO) O O O O O wQ hT;clear hT;have HS:=wN hs;clear hs;have HD:Hid (D yM (sl ws k k1) t):=.Va hD;clear hD;have UT:=hP2.le;go_wp2_with fail;go_loopg [7,8] (ws.length-k2+1) (λgk lv sv wr=>∃(k1 k2:Nat) (t:Tr) (n:Nat) (y:Value) (s:vS),gk=ws.length-k2+1/\k2<=ws.length/\k<=k1/\lv= .iface n y/\sv= .string ⟨s.toArray⟩/\Hid (D yM (sl ws k k1) t)/\wX Pb W.heap.size wr (.v (.iface n y)) t/\Hid (vW (P yM) (vX ws k)=vW (R yM) (vX ws k1))/\Hid (Sg ws (·==FO) k1 k2 s)/\PS Pb ws k2 wr/\wU Pb W wr);case atStart=>exact⟨k1,k2,t,n,y,s,rfl,UT,hle,rfl,rfl,HD,hR.wJ wY,Ad,HS,hP2,wZ.trans wY⟩
  case round=>
   obtain⟨k1,k2,t,n,y,s,rfl,Fu,hle,rfl,rfl,HD,hR,Ad,HS,hP2,hK⟩:=hrel;rcases HS.out with⟨yU,hp,rfl,hs,wF⟩|⟨wO,rfl,rfl⟩
   ·have Zcr:(s== [])=false:=by simpa using wF
    have HX:Hid (s=(ws[k1]).text/\(wI ws[k1]==FO)=true):=⟨hs,hp⟩;have HN:=wN wF;clear HS hs hp wF;go_wp2_with fail;refine(hq (k1+1) wr Z hP2).mono ?_;rintro e w3 (⟨k3,x,hle3,za,rfl,⟨t3,Ew,D7⟩,hP3,xP⟩|⟨za,hb⟩)
    ·obtain⟨n3,y3,rfl⟩:=D7.iface;have SF:=Zeb za;go_wp2_with fail;refine(ZzE n n3 y y3 s _).mono ?_;rintro e w4 ⟨rfl,xw⟩;have Am:=hP3.wJ xw;have zt:=(hK.trans xP).trans (wU.of Pb xw);go_wp2_with fail;refine(XL Pb ws k3 b1 b2 S cap _ _ Am (hS.wJ zt) ae).mono ?_;rintro e w5 hT;obtain⟨k5,s5,rfl,Az,Du,AO⟩:=Tk (·==FO) O O O O O wQ hT;clear hT;have Qa:=wN Az;have LF:k3<=k5:=by rcases Az with⟨_,_,h,_⟩|⟨_,h,_⟩<;>omega
     clear Az;have UR:=Du.le;have Mf:Hid (wX Pb W.heap.size w5 (.v (.iface 330 (.agg #[.iface n y,.string ⟨s.toArray⟩,.iface n3 y3]))) (nd {kind:=s} (l2 t t3))):=
      wX.BS (by rw[HX.out.1];exact X9 (p:=(·==FO)) (wQ _ (oC yU)) HX.out.2 O O O O) (hR.wJ ((xP.trans (wU.of Pb xw)).trans AO)) ((D7.low hK.size).wJ ((wU.of Pb xw).trans AO))
     have DW:Hid (vW (P yM) (vX ws k)=vW (R yM) (vX ws k3)):=by
      show _=_;rw[Ad.out,ZtG yU HX.out.2,za,Option.bind_some]
     have I1:Hid (D yM (sl ws k k3) (nd {kind:=s} (l2 t t3))):=by
      show D _ _ _;rw[F3 ws (show k<=k1 by omega) (show k1<=k3 by omega),zN yU Z,HX.out.1];exact .U9 dU HD.out Ew
     exact ZZA
    ·have Cg:=FK.of hK hb;obtain⟨b,rfl,h1,h2,h3⟩:=Cg;have HA:Hid (vW (P yM) (vX ws k)=none):=by show _=_;rw[Ad.out,ZtG yU HX.out.2,za];rfl
     exact iW
   ·have HA:Hid (vW (P yM) (vX ws k)=some (vX ws k2)):=by show _=_;rw[Ad.out,ZGf wO]
    exact ZZB
 ·obtain⟨b,rfl,h1,h2,h3⟩:=hb;go_wp2;exact⟨rfl,.inr ⟨by rw[Zsz,hA];rfl,b,rfl,h1,h2,h3⟩⟩
end
section
open Go.RowKit
open T NT PK
def ZGg(h:∀t,hd ws k1=some t->isAdd t=false):vW (R expr) (vX ws k1)=some (vX ws k1):=by
 cases e:vX ws k1 with
 |nil=>exact Ws expr ae
 |cons u r=>
  have:=h u (GR e);rw[Zsn,nU dS]
def ZtH(hk:k1<ws.length)(h:isAdd (wI ws[k1])=true):vW (R expr) (vX ws k1)=(vW (P term) (vX ws (k1+1))).bind (vW (R expr)):=by
 rw[Rm hk,Zsn,nY ay]
def ZZC{p:Prop}(h:p:=by
 clear za Ew HD Ad hR D7;go_wp2_with fail;go_roundg (ws.length-k5+1);case measure=>omega
 case rel=>exact⟨k3,k5,_,_,_,s5,rfl,UR,Z,rfl,rfl,I1,Mf.out,DW,Qa,Du,zt.trans AO⟩):p:=h
def ZZD{p:Prop}(h:p:=by
 clear Ad HS;go_wp2_with fail;go_ret;exact .inl ⟨k2,_,hle,HA.out,rfl,⟨t,HD.out,hR⟩,hP2,hK⟩):p:=h
def ZQa(Pb)(ws)(k b1 b2 S cap)(W)(hP:PS Pb ws k W)(hS:TY Pb b1 b2 S cap [[43], [45]] W)(hq:F9 Pb ws 288 term k):
  Calls prog 287 #[.func (.func 288) #[.pointer (some ⟨Pb,0,none⟩)] #[],.func (.func 291) #[] #[.pointer (some ⟨b1,0,none⟩),.pointer (some ⟨b2,0,none⟩)],.func (.func 289) #[] #[]] W (AR Pb ws k (vW (P expr) (vX ws k)) (KC ws expr k) W):=by
 have wQ:=hP.ok;go_enter func287,ntmps287;go_wp2_with fail;refine(hq k W (nV _) hP).mono ?_;rintro e w1 (⟨k1,x,hle,hA,rfl,⟨t,hD,hR⟩,wP,wZ⟩|⟨hA,hb⟩)
 ·obtain⟨n,y,rfl⟩:=(hR 0 0 W).iface;have Ad:Hid (vW (P expr) (vX ws k)=vW (R expr) (vX ws k1)):=by show _=_;rw[ZsB,hA,Option.bind_some]
  clear hA;go_wp2_with fail;refine(XL Pb ws k1 b1 b2 S cap _ _ wP (hS.wJ wZ) ae).mono ?_;rintro e w2 hT;obtain⟨k2,s,rfl,hs,hP2,wY⟩:=Tk isAdd O O O O O wQ hT;clear hT;have HS:=wN hs;clear hs;have HD:Hid (D expr (sl ws k k1) t):=.Sb hD;clear hD;have UT:=hP2.le;go_wp2_with fail;go_loopg [7,8] (ws.length-k2+1) (λgk lv sv wr=>∃(k1 k2:Nat) (t:Tr) (n:Nat) (y:Value) (s:vS),gk=ws.length-k2+1/\k2<=ws.length/\k<=k1/\lv= .iface n y/\sv= .string ⟨s.toArray⟩/\Hid (D expr (sl ws k k1) t)/\Wm (.iface n y) t/\Hid (vW (P expr) (vX ws k)=vW (R expr) (vX ws k1))/\Hid (Sg ws isAdd k1 k2 s)/\PS Pb ws k2 wr/\wU Pb W wr);case atStart=>exact⟨k1,k2,t,n,y,s,rfl,UT,hle,rfl,rfl,HD,hR,Ad,HS,hP2,wZ.trans wY⟩
  case round=>
   obtain⟨k1,k2,t,n,y,s,rfl,Fu,hle,rfl,rfl,HD,hR,Ad,HS,hP2,hK⟩:=hrel;rcases HS.out with⟨yU,hp,rfl,hs,wF⟩|⟨wO,rfl,rfl⟩
   ·have Zcr:(s== [])=false:=by simpa using wF
    have HX:Hid (s=(ws[k1]).text/\isAdd (wI ws[k1])=true):=⟨hs,hp⟩;have HN:=wN wF;clear HS hs hp wF;go_wp2_with fail;refine(hq (k1+1) wr Z hP2).mono ?_;rintro e w3 (⟨k3,x,hle3,za,rfl,⟨t3,Ew,D7⟩,hP3,xP⟩|⟨za,hb⟩)
    ·obtain⟨n3,y3,rfl⟩:=(D7 0 0 W).iface;have SF:=Zeb za;go_wp2_with fail;refine(ZzC n n3 y y3 s _).mono ?_;rintro e w4 ⟨rfl,xw⟩;have Am:=hP3.wJ xw;have zt:=(hK.trans xP).trans (wU.of Pb xw);go_wp2_with fail;refine(XL Pb ws k3 b1 b2 S cap _ _ Am (hS.wJ zt) ae).mono ?_;rintro e w5 hT;obtain⟨k5,s5,rfl,Az,Du,AO⟩:=Tk isAdd O O O O O wQ hT;clear hT;have Qa:=wN Az;have LF:k3<=k5:=by rcases Az with⟨_,_,h,_⟩|⟨_,h,_⟩<;>omega
     clear Az;have UR:=Du.le;have Mf:Hid (Wm (.iface 448 (.agg #[.iface n y,.string ⟨s.toArray⟩,.iface n3 y3])) (nd {kind:=s} (l2 t t3))):=
      λ_ _ _=>wX.arith (by rw[HX.out.1];exact X9 (p:=isAdd) (wQ _ (oC yU)) HX.out.2 O O O O) (hR _ _ _) (D7 _ _ _)
     have DW:Hid (vW (P expr) (vX ws k)=vW (R expr) (vX ws k3)):=by
      show _=_;rw[Ad.out,ZtH yU HX.out.2,za,Option.bind_some]
     have I1:Hid (D expr (sl ws k k3) (nd {kind:=s} (l2 t t3))):=by
      show D _ _ _;rw[F3 ws (show k<=k1 by omega) (show k1<=k3 by omega),zN yU Z,HX.out.1];exact .Sa dU HD.out Ew
     exact ZZC
    ·have Cg:=FK.of hK hb;obtain⟨b,rfl,h1,h2,h3⟩:=Cg;have HA:Hid (vW (P expr) (vX ws k)=none):=by show _=_;rw[Ad.out,ZtH yU HX.out.2,za];rfl
     exact iW
   ·have HA:Hid (vW (P expr) (vX ws k)=some (vX ws k2)):=by show _=_;rw[Ad.out,ZGg wO]
    exact ZZD
 ·obtain⟨b,rfl,h1,h2,h3⟩:=hb;go_wp2;exact⟨rfl,.inr ⟨by rw[ZsB,hA];rfl,b,rfl,h1,h2,h3⟩⟩
def ZGi(h:∀t,hd ws k1=some t->isMul t=false):vW (R term) (vX ws k1)=some (vX ws k1):=by
 cases e:vX ws k1 with
 |nil=>exact Ws term ae
 |cons u r=>
  have:=h u (GR e);rw[Zsr,nU dS]
def ZtJ(hk:k1<ws.length)(h:isMul (wI ws[k1])=true):vW (R term) (vX ws k1)=(vW (P yh) (vX ws (k1+1))).bind (vW (R term)):=by
 rw[Rm hk,Zsr,nY ay]
def ZQc(Pb)(ws)(k b1 b2 S cap)(W)(hP:PS Pb ws k W)(hS:TY Pb b1 b2 S cap [[42], [47], [37]] W)(hq:F9 Pb ws 343 yh k):
  Calls prog 287 #[.func (.func 343) #[.pointer (some ⟨Pb,0,none⟩)] #[],.func (.func 291) #[] #[.pointer (some ⟨b1,0,none⟩),.pointer (some ⟨b2,0,none⟩)],.func (.func 289) #[] #[]] W (AR Pb ws k (vW (P term) (vX ws k)) (KC ws term k) W):=by
 have wQ:=hP.ok;go_enter func287,ntmps287;go_wp2_with fail;refine(hq k W (nV _) hP).mono ?_;rintro e w1 (⟨k1,x,hle,hA,rfl,⟨t,hD,hR⟩,wP,wZ⟩|⟨hA,hb⟩)
 ·obtain⟨n,y,rfl⟩:=(hR 0 0 W).iface;have Ad:Hid (vW (P term) (vX ws k)=vW (R term) (vX ws k1)):=by show _=_;rw[ZsI,hA,Option.bind_some]
  clear hA;go_wp2_with fail;refine(XL Pb ws k1 b1 b2 S cap _ _ wP (hS.wJ wZ) ae).mono ?_;rintro e w2 hT;obtain⟨k2,s,rfl,hs,hP2,wY⟩:=Tk isMul O O O O O wQ hT;clear hT;have HS:=wN hs;clear hs;have HD:Hid (D term (sl ws k k1) t):=.Ta hD;clear hD;have UT:=hP2.le;go_wp2_with fail;go_loopg [7,8] (ws.length-k2+1) (λgk lv sv wr=>∃(k1 k2:Nat) (t:Tr) (n:Nat) (y:Value) (s:vS),gk=ws.length-k2+1/\k2<=ws.length/\k<=k1/\lv= .iface n y/\sv= .string ⟨s.toArray⟩/\Hid (D term (sl ws k k1) t)/\Wm (.iface n y) t/\Hid (vW (P term) (vX ws k)=vW (R term) (vX ws k1))/\Hid (Sg ws isMul k1 k2 s)/\PS Pb ws k2 wr/\wU Pb W wr);case atStart=>exact⟨k1,k2,t,n,y,s,rfl,UT,hle,rfl,rfl,HD,hR,Ad,HS,hP2,wZ.trans wY⟩
  case round=>
   obtain⟨k1,k2,t,n,y,s,rfl,Fu,hle,rfl,rfl,HD,hR,Ad,HS,hP2,hK⟩:=hrel;rcases HS.out with⟨yU,hp,rfl,hs,wF⟩|⟨wO,rfl,rfl⟩
   ·have Zcr:(s== [])=false:=by simpa using wF
    have HX:Hid (s=(ws[k1]).text/\isMul (wI ws[k1])=true):=⟨hs,hp⟩;have HN:=wN wF;clear HS hs hp wF;go_wp2_with fail;refine(hq (k1+1) wr Z hP2).mono ?_;rintro e w3 (⟨k3,x,hle3,za,rfl,⟨t3,Ew,D7⟩,hP3,xP⟩|⟨za,hb⟩)
    ·obtain⟨n3,y3,rfl⟩:=(D7 0 0 W).iface;have SF:=Zeb za;go_wp2_with fail;refine(ZzC n n3 y y3 s _).mono ?_;rintro e w4 ⟨rfl,xw⟩;have Am:=hP3.wJ xw;have zt:=(hK.trans xP).trans (wU.of Pb xw);go_wp2_with fail;refine(XL Pb ws k3 b1 b2 S cap _ _ Am (hS.wJ zt) ae).mono ?_;rintro e w5 hT;obtain⟨k5,s5,rfl,Az,Du,AO⟩:=Tk isMul O O O O O wQ hT;clear hT;have Qa:=wN Az;have LF:k3<=k5:=by rcases Az with⟨_,_,h,_⟩|⟨_,h,_⟩<;>omega
     clear Az;have UR:=Du.le;have Mf:Hid (Wm (.iface 448 (.agg #[.iface n y,.string ⟨s.toArray⟩,.iface n3 y3])) (nd {kind:=s} (l2 t t3))):=
      λ_ _ _=>wX.arith (by rw[HX.out.1];exact X9 (p:=isMul) (wQ _ (oC yU)) HX.out.2 O O O O) (hR _ _ _) (D7 _ _ _)
     have DW:Hid (vW (P term) (vX ws k)=vW (R term) (vX ws k3)):=by
      show _=_;rw[Ad.out,ZtJ yU HX.out.2,za,Option.bind_some]
     have I1:Hid (D term (sl ws k k3) (nd {kind:=s} (l2 t t3))):=by
      show D _ _ _;rw[F3 ws (show k<=k1 by omega) (show k1<=k3 by omega),zN yU Z,HX.out.1];exact .Tc dU HD.out Ew
     exact ZZC
    ·have Cg:=FK.of hK hb;obtain⟨b,rfl,h1,h2,h3⟩:=Cg;have HA:Hid (vW (P term) (vX ws k)=none):=by show _=_;rw[Ad.out,ZtJ yU HX.out.2,za];rfl
     exact iW
   ·have HA:Hid (vW (P term) (vX ws k)=some (vX ws k2)):=by show _=_;rw[Ad.out,ZGi wO]
    exact ZZD
 ·obtain⟨b,rfl,h1,h2,h3⟩:=hb;go_wp2;exact⟨rfl,.inr ⟨by rw[ZsI,hA];rfl,b,rfl,h1,h2,h3⟩⟩
end
section
open Go.RowKit
open T NT PK
def Tq(W:World)(ss):KF (W.alloc (.cells (ss.map xW).toArray 9)) W.heap.size ss:=λk hk=>by
 have h3:=oK W (.cells (ss.map xW).toArray 9);simp only[World.cell?,h3];simp[xW,hk]
def AR.after{k}{A}{Q}{W w e w'}(hK:wU Pb W w)(h:AR Pb ws k A Q w e w'):AR Pb ws k A Q W e w':=by
 rcases h with⟨k',x,h1,h2,h3,h4,h5,h6⟩|⟨h1,h2⟩
 ·exact .inl ⟨k',x,h1,h2,h3,h4,h5,hK.trans h6⟩
 ·exact .inr ⟨h1,FK.of hK h2⟩
def ZZE{p:Prop}(h:p:=by
 intro e w2 h;rcases h.after wZ with⟨k',x,hle,hA,rfl,⟨t,hD,hR⟩,hP2,wY⟩|⟨hA,b,rfl,h1,h2,h3⟩
 ·obtain⟨n,y,rfl⟩:=hR.iface;have HA:=wN hA;clear h hA;go_wp2_with fail;go_ret;exact .inl ⟨k',_,hle,HA.out,rfl,⟨t,hD,hR.low wZ.size⟩,hP2,wY⟩
 ·have HA:=wN hA;clear h hA;go_wp2;exact⟨rfl,.inr ⟨HA.out,b,rfl,h1,h2,h3⟩⟩):p:=h
def ZQe(Pb)(ws)(k)(W)(hP:PS Pb ws k W)(hq:CX Pb ws 237 yM k):
  Calls prog 169 #[.pointer (some ⟨Pb,0,none⟩)] W (AR Pb ws k (vW (P xR) (vX ws k)) (Part Pb ws xR k W.heap.size) W):=by
 have hlt:Pb<W.heap.size:=by obtain⟨_,_,h1,_⟩:=hP.obj;exact(wo h1)
 go_enter func169,ntmps169;go_wp2_with fail;refine(Zke Pb W.heap.size 1 [[111,114]] _ (Tq W [[111,114]]) ah Z).mono ?_;rintro e w1 ⟨b1,b2,rfl,hS,hB⟩;have wP:=(hP.wJ (yK _)).wJ hB;have wZ:=(wU.alloc Pb _ _).trans (wU.of Pb hB);go_wp2_with fail;refine(ZP8 Pb ws k b1 b2 W.heap.size 1 _ wP hS hq).mono ?_;exact ZZE
def ZQh(Pb)(ws)(k)(W)(hP:PS Pb ws k W)(hq:CX Pb ws 290 neg k):
  Calls prog 237 #[.pointer (some ⟨Pb,0,none⟩)] W (AR Pb ws k (vW (P yM) (vX ws k)) (Part Pb ws yM k W.heap.size) W):=by
 have hlt:Pb<W.heap.size:=by obtain⟨_,_,h1,_⟩:=hP.obj;exact(wo h1)
 go_enter func237,ntmps237;go_wp2_with fail;refine(Zke Pb W.heap.size 1 [[97,110,100]] _ (Tq W [[97,110,100]]) ah Z).mono ?_;rintro e w1 ⟨b1,b2,rfl,hS,hB⟩;have wP:=(hP.wJ (yK _)).wJ hB;have wZ:=(wU.alloc Pb _ _).trans (wU.of Pb hB);go_wp2_with fail;refine(ZP9 Pb ws k b1 b2 W.heap.size 1 _ wP hS hq).mono ?_;exact ZZE
def ZZF{p:Prop}(h:p:=by
 intro e w2 h;rcases h.after wZ with⟨k',x,hle,hA,rfl,⟨t,hD,hR⟩,hP2,wY⟩|⟨hA,b,rfl,h1,h2,h3⟩
 ·obtain⟨n,y,rfl⟩:=(hR 0 0 W).iface;have HA:=wN hA;clear h hA;exact kG
 ·have HA:=wN hA;clear h hA;go_wp2;exact⟨rfl,.inr ⟨HA.out,b,rfl,h1,h2,h3⟩⟩):p:=h
def ZQk(Pb)(ws)(k)(W)(hP:PS Pb ws k W)(hq:F9 Pb ws 288 term k):
  Calls prog 233 #[.pointer (some ⟨Pb,0,none⟩)] W (AR Pb ws k (vW (P expr) (vX ws k)) (KC ws expr k) W):=by
 have hlt:Pb<W.heap.size:=by obtain⟨_,_,h1,_⟩:=hP.obj;exact(wo h1)
 go_enter func233,ntmps233;go_wp2_with fail;refine(Zke Pb W.heap.size 2 [[43], [45]] _ (Tq W [[43], [45]]) ah Z).mono ?_;rintro e w1 ⟨b1,b2,rfl,hS,hB⟩;have wP:=(hP.wJ (yK _)).wJ hB;have wZ:=(wU.alloc Pb _ _).trans (wU.of Pb hB);go_wp2_with fail;refine(ZQa Pb ws k b1 b2 W.heap.size 2 _ wP hS hq).mono ?_;exact ZZF
def ZQK(Pb)(ws)(k)(W)(hP:PS Pb ws k W)(hq:F9 Pb ws 343 yh k):
  Calls prog 288 #[.pointer (some ⟨Pb,0,none⟩)] W (AR Pb ws k (vW (P term) (vX ws k)) (KC ws term k) W):=by
 have hlt:Pb<W.heap.size:=by obtain⟨_,_,h1,_⟩:=hP.obj;exact(wo h1)
 go_enter func288,ntmps288;go_wp2_with fail;refine(Zke Pb W.heap.size 3 [[42], [47], [37]] _ (Tq W [[42], [47], [37]]) ah Z).mono ?_;rintro e w1 ⟨b1,b2,rfl,hS,hB⟩;have wP:=(hP.wJ (yK _)).wJ hB;have wZ:=(wU.alloc Pb _ _).trans (wU.of Pb hB);go_wp2_with fail;refine(ZQc Pb ws k b1 b2 W.heap.size 3 _ wP hS hq).mono ?_;exact ZZF
end
section
open Go.RowKit
open T NT PK
def SgQ(ws:List RW)(k1 k2:Nat)(s:vS):Prop:=
 (∃(h:k1<ws.length) (b:Bool),isSet (wI ws[k1])=true/\s=(ws[k1]).text++ZhF b/\s≠ []/\(ws[k1]).text∈Kv/\(b=true/\hd ws (k1+1)=some Ak/\k2=k1+2\/b=false/\hd ws (k1+1)≠some Ak/\k2=k1+1))\/((∀t,hd ws k1=some t->isSet t=false)/\k2=k1/\s= [])
def Zzo(Pb)(ws)(k)(W)(hP:PS Pb ws k W):
  Calls prog 71 #[.pointer (some ⟨Pb,0,none⟩)] W λe w'=>∃k2 s,e= .returned (.string ⟨s.toArray⟩)/\SgQ ws k k2 s/\PS Pb ws k2 w'/\wU Pb W w':=by
 have wQ:=hP.ok;go_enter func71,ntmps71;go_wp2_with fail;refine(Zkg Pb ws k W.heap.size 3 Kv _ (hP.wJ (yK _)) (Tq W Kv) O).mono ?_;intro e w1 hT;obtain⟨k2,s,rfl,hs,wP,wZ⟩:=Tk isSet O O O O O wQ hT;clear hT;have wZ:=(wU.alloc Pb _ _).trans wZ;rcases hs with⟨hk,hp,rfl,hs,wF⟩|⟨wO,rfl,rfl⟩
 ·have zP:(ws[k]).text∈Kv:=X9 (p:=isSet) (wQ _ (oC hk)) hp O O O O;have HX:Hid (isSet (wI ws[k])=true/\s=(ws[k]).text/\(ws[k]).text∈Kv):=⟨hp,hs,zP⟩;rw[<-hs]at zP;clear hs hp wF;simp only[Kv,oQ,ql,pW]at zP;rcases zP with rfl|rfl|rfl<;>
   (go_wp2_with fail
    refine(ZpI Pb ws (k+1) [97,108,108] _ wP O).mono ?_;rintro e w2 ⟨wY,⟨hf,EH,rfl,hP2⟩|⟨hf,rfl,hP2⟩⟩
    ·rw[Iu (t:=Ak) O wQ,oL]at hf;go_wp2_with fail;go_ret;exact⟨k+2,_,rfl,.inl ⟨hk,true,HX.out.1,by rw[<-HX.out.2.1];rfl,ae,HX.out.2.2,.inl ⟨rfl,hf,rfl⟩⟩,hP2,wZ.trans wY⟩
    ·rw[Iu (t:=Ak) O wQ,qZ]at hf;go_wp2_with fail;go_ret;exact⟨k+1,_,rfl,.inl ⟨hk,false,HX.out.1,by rw[<-HX.out.2.1];rfl,ae,HX.out.2.2,.inr ⟨rfl,hf,rfl⟩⟩,hP2,wZ.trans wY⟩)
 ·go_wp2_with fail;go_ret;exact⟨k2, [],rfl,.inr ⟨wO,rfl,rfl⟩,wP,wZ⟩
def ZQB(n1 n2:Nat)(y1 y2)(s:vS)(W):
  Calls prog 72 #[.agg #[.iface n1 y1,.string ⟨s.toArray⟩,.iface n2 y2]] W λe w'=>e= .returned (.iface 169 (.agg #[.iface n1 y1,.string ⟨s.toArray⟩,.iface n2 y2]))/\vV W w':=by
 go_enter func72,ntmps72;exact kP
def ZGh(h:∀t,hd ws k1=some t->isSet t=false):vW (R query) (vX ws k1)=some (vX ws k1):=by
 cases e:vX ws k1 with
 |nil=>exact Ws query ae
 |cons u r=>
  have:=h u (GR e);rw[Zsp,nU (by simp[this])]
def Zqo{k:Nat}{t:T}(h:hd ws k=some t):skip t (vX ws k)=vX ws (k+1):=by
 rw[Ed h,skip,nY rfl]
def Zqn{k:Nat}{t:T}(h:hd ws k≠some t):skip t (vX ws k)=vX ws k:=by
 cases e:vX ws k with
 |nil=>rfl
 |cons u r=>rw[skip,nU (λhu=>h aJ)]
def ZtI{k2:Nat}(hk:k1<ws.length){b:Bool}(h:isSet (wI ws[k1])=true)(hb:b=true/\hd ws (k1+1)=some Ak/\k2=k1+2\/b=false/\hd ws (k1+1)≠some Ak/\k2=k1+1):vW (R query) (vX ws k1)=(vW (P core) (vX ws k2)).bind (vW (R query)):=by
 rw[Rm hk,Zsp,nY h];rcases hb with⟨_,h1,rfl⟩|⟨_,h1,rfl⟩
 ·rw[Zqo h1]
 ·rw[Zqn h1]
def ZQb(Pb)(ws)(k)(W)(hP:PS Pb ws k W)(hq:CX Pb ws 70 core k):
  Calls prog 69 #[.func (.func 70) #[.pointer (some ⟨Pb,0,none⟩)] #[],.func (.func 71) #[.pointer (some ⟨Pb,0,none⟩)] #[],.func (.func 72) #[] #[]] W (AR Pb ws k (vW (P query) (vX ws k)) (Part Pb ws query k W.heap.size) W):=by
 have wQ:=hP.ok;go_enter func69,ntmps69;go_wp2_with fail;refine(hq k W (nV _) hP).mono ?_;rintro e w1 (⟨k1,x,hle,hA,rfl,⟨t,hD,hR⟩,wP,wZ⟩|⟨hA,hb⟩)
 ·obtain⟨n,y,rfl⟩:=hR.iface;have Ad:Hid (vW (P query) (vX ws k)=vW (R query) (vX ws k1)):=by show _=_;rw[ZsE,hA,Option.bind_some]
  clear hA;go_wp2_with fail;refine(Zzo Pb ws k1 _ wP).mono ?_;rintro e w2 ⟨k2,s,rfl,hs,hP2,wY⟩;have HS:=wN hs;clear hs;have HD:Hid (D query (sl ws k k1) t):=.XQ hD;clear hD;have UT:=hP2.le;go_wp2_with fail;go_loopg [7,8] (ws.length-k2+1) (λgk lv sv wr=>∃(k1 k2:Nat) (t:Tr) (n:Nat) (y:Value) (s:vS),gk=ws.length-k2+1/\k2<=ws.length/\k<=k1/\lv= .iface n y/\sv= .string ⟨s.toArray⟩/\Hid (D query (sl ws k k1) t)/\wX Pb W.heap.size wr (.v (.iface n y)) t/\Hid (vW (P query) (vX ws k)=vW (R query) (vX ws k1))/\Hid (SgQ ws k1 k2 s)/\PS Pb ws k2 wr/\wU Pb W wr);case atStart=>exact⟨k1,k2,t,n,y,s,rfl,UT,hle,rfl,rfl,HD,hR.wJ wY,Ad,HS,hP2,wZ.trans wY⟩
  case round=>
   obtain⟨k1,k2,t,n,y,s,rfl,Fu,hle,rfl,rfl,HD,hR,Ad,HS,hP2,hK⟩:=hrel;rcases HS.out with⟨yU,b,hp,hs,wF,zP,hb⟩|⟨wO,rfl,rfl⟩
   ·have Zcr:(s== [])=false:=by simpa using wF
    have HX:Hid (s=(ws[k1]).text++ZhF b/\isSet (wI ws[k1])=true/\(ws[k1]).text∈Kv):=⟨hs,hp,zP⟩;have HB:=wN hb;have Xp:k1+1<=k2:=by rcases hb with⟨_,_,h⟩|⟨_,_,h⟩<;>omega
    clear HS hs hp wF zP hb;go_wp2_with fail;refine(hq k2 wr Z hP2).mono ?_;rintro e w3 (⟨k3,x,hle3,za,rfl,⟨t3,Ew,D7⟩,hP3,xP⟩|⟨za,Iz⟩)
    ·obtain⟨n3,y3,rfl⟩:=D7.iface;have SF:=Zeb za;go_wp2_with fail;refine(ZQB n n3 y y3 s _).mono ?_;rintro e w4 ⟨rfl,xw⟩;have Am:=hP3.wJ xw;have zt:=(hK.trans xP).trans (wU.of Pb xw);go_wp2_with fail;refine(Zzo Pb ws k3 _ Am).mono ?_;rintro e w5 ⟨k5,s5,rfl,Az,Du,AO⟩;have Qa:=wN Az;have LF:k3<=k5:=by
      rcases Az with⟨_,_,_,_,_,_,⟨_,_,h⟩|⟨_,_,h⟩⟩|⟨_,h,_⟩<;>omega
     clear Az;have UR:=Du.le;have Mf:Hid (wX Pb W.heap.size w5 (.v (.iface 169 (.agg #[.iface n y,.string ⟨s.toArray⟩,.iface n3 y3]))) (nd {kind:=(ws[k1]).text,all:=b} (l2 t t3))):=by
      show wX _ _ _ _ _;rw[HX.out.1];exact wX.Ai HX.out.2.2 (hR.wJ ((xP.trans (wU.of Pb xw)).trans AO)) ((D7.low hK.size).wJ ((wU.of Pb xw).trans AO))
     have DW:Hid (vW (P query) (vX ws k)=vW (R query) (vX ws k3)):=by
      show _=_;rw[Ad.out,ZtI yU HX.out.2.1 HB.out,za,Option.bind_some]
     have I1:Hid (D query (sl ws k k3) (nd {kind:=(ws[k1]).text,all:=b} (l2 t t3))):=by
      show D _ _ _;rw[F3 ws (show k<=k1 by omega) (show k1<=k3 by omega),zN yU Z];rcases HB.out with⟨rfl,h1,rfl⟩|⟨rfl,h1,rfl⟩
      ·have El:=Ae h1;rw[zN El Z];exact .XT HX.out.2.1 (zy h1 El) HD.out Ew
      ·exact .XR HX.out.2.1 HD.out Ew
     clear za Ew HD Ad hR D7;go_wp2_with fail;go_roundg (ws.length-k5+1);case measure=>omega
     case rel=>exact⟨k3,k5,_,_,_,s5,rfl,UR,Z,rfl,rfl,I1,Mf.out,DW,Qa,Du,zt.trans AO⟩
    ·have Cg:=FK.of hK Iz;obtain⟨b,rfl,h1,h2,h3⟩:=Cg;have HA:Hid (vW (P query) (vX ws k)=none):=by show _=_;rw[Ad.out,ZtI yU HX.out.2.1 HB.out,za];rfl
     exact iW
   ·have HA:Hid (vW (P query) (vX ws k)=some (vX ws k2)):=by show _=_;rw[Ad.out,ZGh wO]
    clear Ad HS;go_wp2_with fail;go_ret;exact .inl ⟨k2,_,hle,HA.out,rfl,⟨t,HD.out,hR⟩,hP2,hK⟩
 ·obtain⟨b,rfl,h1,h2,h3⟩:=hb;go_wp2;exact⟨rfl,.inr ⟨by rw[ZsE,hA];rfl,b,rfl,h1,h2,h3⟩⟩
def ZQA(Pb)(ws)(k)(W)(hP:PS Pb ws k W)(hq:CX Pb ws 70 core k):
  Calls prog 43 #[.pointer (some ⟨Pb,0,none⟩)] W (AR Pb ws k (vW (P query) (vX ws k)) (Part Pb ws query k W.heap.size) W):=by
 have BD:∀(fn:Fn) (first cap:Array Value) (w:World),(Instr.makeFunc fn first cap).run prog w= .ok (.func fn first cap) w:=λ_ _ _ _=>rfl;go_enter func43,ntmps43;go_wp2_with fail;refine(ZQb Pb ws k _ hP hq).mono ?_;rintro e w2 (⟨k',x,hle,hA,rfl,⟨t,hD,hR⟩,hP2,wY⟩|⟨hA,b,rfl,h1,h2,h3⟩)
 ·obtain⟨n,y,rfl⟩:=hR.iface;have HA:=wN hA;clear hA;exact kG
 ·have HA:=wN hA;exact jc
end
section
open Go.RowKit
open T NT PK
def M0(Pb)(ws)(k)(s)(t)(W)(hP:PS Pb ws k W)(hs:X4 s t=true):
  Calls prog 115 #[.pointer (some ⟨Pb,0,none⟩),.string ⟨s.toArray⟩] W λe w'=>wU Pb W w'/\((hd ws k=some t/\e= .returned (.bool true)/\PS Pb ws (k+1) w')\/(hd ws k≠some t/\e= .returned (.bool false)/\PS Pb ws k w')):=by
 refine(ZpI Pb ws k s W hP (ZAj hs)).mono ?_;rintro e w1 ⟨hK,⟨hf,_,rfl,wP⟩|⟨hf,rfl,wP⟩⟩
 ·rw[Iu hs hP.ok,oL]at hf;exact⟨hK,.inl ⟨hf,rfl,wP⟩⟩
 ·rw[Iu hs hP.ok,qZ]at hf;exact⟨hK,.inr ⟨hf,rfl,wP⟩⟩
def Vq(Pb)(ws)(k)(s)(t)(W)(hP:PS Pb ws k W)(hs:X4 s t=true):
  Calls prog 164 #[.pointer (some ⟨Pb,0,none⟩),.string ⟨s.toArray⟩] W λe w'=>(hd ws k=some t/\e= .returned (.tuple #[])/\PS Pb ws (k+1) w'/\wU Pb W w')\/(hd ws k≠some t/\FK Pb W e w'):=by
 refine(Zay Pb ws k s W hP (ZAj hs)).mono ?_;rintro e w1 (⟨hf,_,rfl,wP,hK⟩|⟨hf,hb⟩)
 ·rw[Iu hs hP.ok,oL]at hf;exact .inl ⟨hf,rfl,wP,hK⟩
 ·rw[Iu hs hP.ok,qZ]at hf;exact .inr ⟨hf,hb⟩
def Zzr(Pb)(ws)(k S cap)(ss)(p)(W)(hP:PS Pb ws k W)(hT:KF W S ss)(hl:ss.length<=400)(hK:∀x∈Gm.map Prod.fst,ss.contains x=p (Ob x))(hS:∀x∈K6.map Prod.fst,ss.contains x=p (PM x))(hn:p name=false)(ZKZ:p lit=false)(h0:ss.contains []=false):
  Calls prog 114 #[.pointer (some ⟨Pb,0,none⟩),.slice (some ⟨S,0,none⟩) ss.length cap] W λe w'=>∃k2 s,e= .returned (.string ⟨s.toArray⟩)/\Sg ws p k k2 s/\PS Pb ws k2 w'/\wU Pb W w':=
 (Zkg Pb ws k S cap ss W hP hT hl).mono λ_ _ h=>Tk p hK hS hn ZKZ h0 hP.ok h
def PS.own{k}{w}(h:PS Pb ws k w)(hK:wU Pb W w){b:Nat}(hb:W.heap.size<=b)(xS:Pb<W.heap.size)(hc:w.cell? ⟨b,0,none⟩=some v0)(hv:∀n,v0≠.int .i64 n)(o)(v):PS Pb ws k (w.setCell ⟨b,o,none⟩ v)/\wU Pb W (w.setCell ⟨b,o,none⟩ v):=
 ⟨h.other Z hc hv o v,hK.Oq hb o v⟩
def Zkh(Pb)(ws)(k)(W)(hP:PS Pb ws k W)(hq:CX Pb ws 43 query (k+1)):
  Calls prog 382 #[.pointer (some ⟨Pb,0,none⟩)] W (AR Pb ws k (vW (round query) (vX ws k)) (λk' x w'=>∃n y,x= .agg #[.iface n y]/\RI Pb ws query k W.heap.size k' (.iface n y) w') W):=by
 have BD:∀(fn:Fn) (first cap:Array Value) (w:World),(Instr.makeFunc fn first cap).run prog w= .ok (.func fn first cap) w:=λ_ _ _ _=>rfl;go_enter func382,ntmps382;go_wp2_with fail;refine(Zzq Pb ws k _ (hP.wJ (yK _)) hq).mono ?_;rintro e w2 (⟨k',x,hle,hA,rfl,hQ,hP2,wY⟩|⟨hA,b,rfl,h1,h2,h3⟩)
 ·have HA:=wN hA;clear hA;obtain⟨m,t,q1,q2,q3,q4,q5,hR⟩:=hQ;obtain⟨n,y,rfl⟩:=hR.iface;have hc:W.heap.size<w2.heap.size:=oU ae wY.size;have xS:=hP.lt;have UH:=wY.obj (g:=W.heap.size) Z (oK W _);have c0:=xH UH;have f0:w2.frozen? ⟨W.heap.size,0,none⟩=false:=by simp[World.frozen?,UH]
  go_wp2_with fail;obtain⟨hP3,xP⟩:=hP2.own ((wU.alloc Pb _ _).trans wY) (nV _) xS c0 aU 0 (.iface n y);refine oZ (v:=.agg #[.iface n y]) (by simp[results,Tryz.results382,go_sem,c0]) rfl (.inl ⟨k',_,hle,HA.out,rfl,⟨n,y,rfl,m,t,q1,q2,q3,q4,q5,?_⟩,hP3,xP⟩);exact(hR.Jq ae 0 _).low ae
 ·have HA:=wN hA;exact ja
def VP(Pb:Nat)(ws:List RW)(k0 n0 k':Nat)(x:Value)(w':World):Prop:=∃t,D basic (sl ws k0 k') t/\wX Pb n0 w' (.v x) t
def ZEk{u:T}{r:List T}(h:U8 u=true):vW PK.ask (cmp::u::r)=vW (round query) r:=by
 cases u<;>first|exact absurd h O|exact ZDX r|exact ZVW r
def ZZG{p:Prop}(h:p:=by
 have HA:=wN (xC.out.trans hA);clear hA xC;go_wp2;exact⟨rfl,.inr ⟨HA.out,b,rfl,h1,h2,wZ.trans h3⟩⟩):p:=h
def ZQg(Pb)(ws)(k0 k n0)(W)(hP:PS Pb ws (k+1) W)(n:Nat)(y)(t)(hk:k<ws.length)(hc:wI ws[k]=cmp)(hD:D expr (sl ws k0 k) t)(hR:wX Pb n0 W (.v (.iface n y)) t)(Bc:k0<=k)(DL:n0<=W.heap.size)(he:CX Pb ws 233 expr (k+1))(hq:CX Pb ws 43 query (k+1)):
  Calls prog 403 #[.pointer (some ⟨Pb,0,none⟩),.iface n y,.string ⟨(ws[k]).text.toArray⟩] W (AR Pb ws k (vW PK.ask (cmp::vX ws (k+1))) (VP Pb ws k0 n0) W):=by
 have wQ:=hP.ok;generalize hx:(ws[k]).text=sx;have HX:=wN hx;clear hx;have HC:=wN hc;clear hc;go_enter func403,ntmps403;go_wp2_with fail;refine(Zzr Pb ws (k+1) W.heap.size 2 Ph U8 _ (hP.wJ (yK _)) (Tq W Ph) O O O O O O).mono ?_;rintro e w1 ⟨k2,s,rfl,hs,wP,wZ⟩;have wZ:=(wU.alloc Pb _ _).trans wZ;rcases hs with⟨yU,hp,rfl,hs,wF⟩|⟨wO,rfl,rfl⟩
 ·have Zcr:(s== [])=false:=by simpa using wF
  have HY:Hid (U8 (wI ws[k+1])=true/\s=(ws[k+1]).text):=⟨hp,hs⟩;have xC:Hid (vW PK.ask (cmp::vX ws (k+1))=vW (round query) (vX ws (k+2))):=by show _=_;rw[Rm yU,ZEk hp]
  clear hs hp wF;go_wp2_with fail;refine(Zkh Pb ws (k+2) _ wP (hq.mono Z)).mono ?_;rintro e w2 (⟨k',x,hle,hA,rfl,⟨n2,y2,rfl,hQ⟩,hP2,wY⟩|⟨hA,b,rfl,h1,h2,h3⟩)
  ·have HA:=wN (xC.out.trans hA);have HR:Hid (VP Pb ws k0 n0 k' (.iface 362 (.agg #[.iface n2 y2,.iface n y,.string ⟨sx.toArray⟩,.string ⟨s.toArray⟩])) w2):=by
    obtain⟨o,c,a,t2,h1,h2,h3,h4,h5⟩:=hQ.split;refine⟨nd {kind:=s,sign:=sx} (l2 t t2),?_,wX.BK ?_ (hR.wJ (wZ.trans wY)) (h5.low (om DL wZ.size))⟩
    ·rw[F3 ws Bc (show k<=k' by omega),zN hk Z,zN yU Z,h3,HY.out.2,<-HX.out];exact .Qf HC.out HY.out.1 h1 h2 hD h4
    ·rw[HY.out.2];exact X9 (p:=U8) (wQ _ (oC yU)) HY.out.1 O O O O
   clear hA xC hQ;exact kF
  ·exact ZZG
 ·have xC:=wN (ZDY _ (λu r' e=>wO u (GR e)));clear wO;go_wp2_with fail;refine(he (k+1) w1 (nV _) wP).mono ?_;rintro e w2 (⟨k',x,hle,hA,rfl,⟨t2,hD2,KQ⟩,hP2,wY⟩|⟨hA,b,rfl,h1,h2,h3⟩)
  ·obtain⟨n2,y2,rfl⟩:=KQ.iface;have HA:=wN (xC.out.trans hA);have HR:Hid (VP Pb ws k0 n0 k' (.iface 340 (.agg #[.iface n y,.string ⟨sx.toArray⟩,.iface n2 y2])) w2):=by
    refine⟨nd {kind:= [99,111,109,112,97,114,101],sign:=sx} (l2 t t2),?_,wX.compare (hR.wJ (wZ.trans wY)) (KQ.low (om DL wZ.size))⟩;rw[F3 ws Bc (show k<=k' by omega),zN hk Z,<-HX.out];exact .RV HC.out hD hD2
   clear hA xC;exact kF
  ·exact ZZG
end
section
open Go.RowKit
open T NT PK
def ZtR:List vS:= [[61], [60,62], [60], [60,61], [62], [62,61]]
def ZEo{k}{n:Nat}{y:Value}{t}(hD:D expr (sl ws k0 k) t)(hR:wX Pb n0 w' (.v (.iface n y)) t)(Bc:k0<=k)(h1:hd ws k=some JM)(h2:hd ws (k+1)=some null):VP Pb ws k0 n0 (k+2) (.iface 343 (.agg #[.iface n y,.bool false])) w':=by
 have l1:=Ae h1;have l2:=Ae h2;refine⟨_,?_,wX.isNull hR⟩;rw[F3 ws Bc (show k<=k+2 by omega),zN l1 Z,PN l2];exact .R4 (zy h1 l1) (zy h2 l2) hD
def ZEn{k}{n:Nat}{y:Value}{t}(hD:D expr (sl ws k0 k) t)(hR:wX Pb n0 w' (.v (.iface n y)) t)(Bc:k0<=k)(h1:hd ws k=some JM)(h2:hd ws (k+1)=some T.xJ)(h3:hd ws (k+2)=some null):VP Pb ws k0 n0 (k+3) (.iface 343 (.agg #[.iface n y,.bool true])) w':=by
 have l1:=Ae h1;have l2:=Ae h2;have l3:=Ae h3;refine⟨_,?_,wX.isNull hR⟩;rw[F3 ws Bc (show k<=k+3 by omega),zN l1 Z,zN l2 Z,PN l3];exact .R3 (zy h1 l1) (zy h2 l2) (zy h3 l3) hD
def ZEl{k}{n:Nat}{y:Value}{t}(hD:D expr (sl ws k0 k) t)(hR:wX Pb n0 w' (.v (.iface n y)) t)(Bc:k0<=k)(h1:hd ws k=some T.zU)(hle:k+1<=k')(hQ:RI Pb ws query (k+1) n0 k' (.iface n2 y2) w'):VP Pb ws k0 n0 k' (.iface 359 (.agg #[.iface n2 y2,.iface n y,.bool false])) w':=by
 have l1:=Ae h1;obtain⟨o,c,a,t2,e1,e2,e3,e4,e5⟩:=hQ.split;refine⟨_,?_,wX.zU hR e5⟩;rw[F3 ws Bc (show k<=k' by omega),zN l1 Z,e3];exact .RY (zy h1 l1) e1 e2 hD e4
def ZEm{k}{n:Nat}{y:Value}{t}(hD:D expr (sl ws k0 k) t)(hR:wX Pb n0 w' (.v (.iface n y)) t)(Bc:k0<=k)(h1:hd ws k=some T.xJ)(h2:hd ws (k+1)=some T.zU)(hle:k+2<=k')(hQ:RI Pb ws query (k+2) n0 k' (.iface n2 y2) w'):VP Pb ws k0 n0 k' (.iface 359 (.agg #[.iface n2 y2,.iface n y,.bool true])) w':=by
 have l1:=Ae h1;have l2:=Ae h2;obtain⟨o,c,a,t2,e1,e2,e3,e4,e5⟩:=hQ.split;refine⟨_,?_,wX.zU hR e5⟩;rw[F3 ws Bc (show k<=k' by omega),zN l1 Z,zN l2 Z,e3];exact .RZ (zy h1 l1) (zy h2 l2) e1 e2 hD e4
theorem RI.low{nt}{k}{x}(h:RI Pb ws nt k n0 k' x w')(hn:n1<=n0):RI Pb ws nt k n1 k' x w':=by
 obtain⟨m,t,h1,h2,h3,h4,h5,h6⟩:=h;exact⟨m,t,h1,h2,h3,h4,h5,h6.low hn⟩
def ZZI{p:Prop}(h:p:=by
 have HA:=wN (xC.out.trans hA);clear hA xC;go_wp2;exact⟨rfl,.inr ⟨HA.out,b,rfl,h1,h2,wY.trans h3⟩⟩):p:=h
def ZQC(Pb)(ws)(k0 k n0)(W)(hP:PS Pb ws k W)(n:Nat)(y)(t)(hD:D expr (sl ws k0 k) t)(hR:wX Pb n0 W (.v (.iface n y)) t)(Bc:k0<=k)(DL:n0<=W.heap.size)(he:CX Pb ws 233 expr (k+1))(hq:CX Pb ws 43 query (k+1)):
  Calls prog 385 #[.pointer (some ⟨Pb,0,none⟩),.iface n y] W (AR Pb ws k (vW PK.ask (vX ws k)) (VP Pb ws k0 n0) W):=by
 have wQ:=hP.ok;go_enter func385,ntmps385;go_wp2_with fail;refine(M0 Pb ws k [105,115] JM _ hP O).mono ?_;rintro e w1 ⟨wZ,⟨hi,rfl,wP⟩|⟨hi,rfl,wP⟩⟩
 ·have Hi:=wN hi;clear hi;go_wp2_with fail;refine(M0 Pb ws (k+1) [110,111,116] xJ _ wP O).mono ?_;rintro e w2 ⟨wY,⟨hn,rfl,hP2⟩|⟨hn,rfl,hP2⟩⟩
  ·have Hn:=wN hn;clear hn;go_wp2_with fail;refine(Vq Pb ws (k+2) [110,117,108,108] null _ hP2 O).mono ?_;rintro e w3 (⟨hl,rfl,hP3,xP⟩|⟨hl,b,rfl,h1,h2,h3⟩)
   ·have D7:=hR.wJ ((wZ.trans wY).trans xP);have HQ:=wN (ZEn hD D7 Bc Hi.out Hn.out hl);have HA:Hid (vW PK.ask (vX ws k)=some (vX ws (k+3))):=by show _=_;rw[Ed Hi.out,Ed Hn.out,Zsu,KM hl]
    clear hl;go_wp2_with fail;go_ret;exact .inl ⟨k+3,_,Z,HA.out,rfl,HQ.out,hP3,(wZ.trans wY).trans xP⟩
   ·have HA:Hid (vW PK.ask (vX ws k)=none):=by show _=_;rw[Ed Hi.out,Ed Hn.out,Zsu,Mw hl]
    exact jd
  ·have Hn:=wN hn;clear hn;go_wp2_with fail;refine(Vq Pb ws (k+1) [110,117,108,108] null _ hP2 O).mono ?_;rintro e w3 (⟨hl,rfl,hP3,xP⟩|⟨hl,b,rfl,h1,h2,h3⟩)
   ·have D7:=hR.wJ ((wZ.trans wY).trans xP);have HQ:=wN (ZEo hD D7 Bc Hi.out hl);have HA:Hid (vW PK.ask (vX ws k)=some (vX ws (k+2))):=by show _=_;rw[Ed Hi.out,Zst _ (Zkz Hn.out),KM hl]
    clear hl;go_wp2_with fail;go_ret;exact .inl ⟨k+2,_,Z,HA.out,rfl,HQ.out,hP3,(wZ.trans wY).trans xP⟩
   ·have HA:Hid (vW PK.ask (vX ws k)=none):=by show _=_;rw[Ed Hi.out,Zst _ (Zkz Hn.out),Mw hl]
    exact jd
 ·have Hi:=wN hi;clear hi;go_wp2_with fail;refine(Zzr Pb ws k w1.heap.size 6 ZtR (·==cmp) _ (wP.wJ (yK _)) (Tq w1 ZtR) O O O O O O).mono ?_;rintro e w2 ⟨k2,s,rfl,hs,hP2,wY⟩;have wY:=wZ.trans ((wU.alloc Pb _ _).trans wY);rcases hs with⟨yU,hp,rfl,hs,wF⟩|⟨wO,rfl,rfl⟩
  ·have Zcr:(s== [])=false:=by simpa using wF
   have QB:wI ws[k]=cmp:=by simpa using hp
   have BC:=ZQg Pb ws k0 k n0 w2 hP2 n y t yU QB hD (hR.wJ wY) Bc (om DL wY.size) he hq;rw[<-hs]at BC;have xC:Hid (vW PK.ask (vX ws k)=vW PK.ask (cmp::vX ws (k+1))):=by show _=_;rw[Rm yU,QB]
   clear hs hp wF QB;go_wp2_with fail;refine BC.mono ?_;rintro e w3 (⟨k',x,hle,hA,rfl,hQ,hP3,xP⟩|⟨hA,b,rfl,h1,h2,h3⟩)
   ·obtain⟨n3,y3,rfl⟩:∃n y,x= .iface n y:=by obtain⟨_,_,hR⟩:=hQ;exact hR.iface
    have HA:=wN (xC.out.trans hA);clear hA xC;go_wp2_with fail;go_ret;exact .inl ⟨k',_,hle,HA.out,rfl,hQ,hP3,wY.trans xP⟩
   ·exact ZZI
  ·have Hno:Hid (hd ws k2≠some cmp):=λe=>by have:=wO _ e;simp at this
   clear wO;go_wp2_with fail;refine(M0 Pb ws k2 [110,111,116] xJ _ hP2 O).mono ?_;rintro e w3 ⟨xP,⟨hn,rfl,hP3⟩|⟨hn,rfl,hP3⟩⟩
   ·have Hn:=wN hn;clear hn;go_wp2_with fail;refine(Vq Pb ws (k2+1) [105,110] T.zU _ hP3 O).mono ?_;rintro e w4 (⟨hl,rfl,Am,zt⟩|⟨hl,b,rfl,h1,h2,h3⟩)
    ·have Hl:=wN hl;have xC:Hid (vW PK.ask (vX ws k2)=vW (round query) (vX ws (k2+2))):=by show _=_;rw[Ed Hn.out,Zsv,KM hl,Option.bind_some]
     clear hl;go_wp2_with fail;refine(Zkh Pb ws (k2+2) _ Am (hq.mono Z)).mono ?_;rintro e w5 (⟨k',x,hle,hA,rfl,⟨n2,y2,rfl,hQ⟩,Du,AO⟩|⟨hA,b,rfl,h1,h2,h3⟩)
     ·have HA:=wN (xC.out.trans hA);have Zm:=((wY.trans xP).trans zt);have HQ:=wN (ZEm hD (hR.wJ (Zm.trans AO)) Bc Hn.out Hl.out hle (hQ.low (om DL Zm.size)));clear hA xC hQ;exact kE
     ·have HA:=wN (xC.out.trans hA);clear hA xC;exact j5
    ·have HA:Hid (vW PK.ask (vX ws k2)=none):=by show _=_;rw[Ed Hn.out,Zsv,Mw hl];rfl
     clear hl;exact j6
   ·have HE:Hid (vW PK.ask (vX ws k2)=(xU T.zU (vX ws k2)).bind (vW (round query))):=by
     refine ZDZ _ (λu r e=>?_);have:=GR e;exact⟨λh=>Hi.out (by rw[this,h]),λh=>Hno.out (by rw[this,h]),λh=>hn (by rw[this,h])⟩
    clear hn;go_wp2_with fail;refine(Vq Pb ws k2 [105,110] T.zU _ hP3 O).mono ?_;rintro e w4 (⟨hl,rfl,Am,zt⟩|⟨hl,b,rfl,h1,h2,h3⟩)
    ·have Hl:=wN hl;have xC:Hid (vW PK.ask (vX ws k2)=vW (round query) (vX ws (k2+1))):=by show _=_;rw[HE.out,KM hl,Option.bind_some]
     clear hl;go_wp2_with fail;refine(Zkh Pb ws (k2+1) _ Am (hq.mono Z)).mono ?_;rintro e w5 (⟨k',x,hle,hA,rfl,⟨n2,y2,rfl,hQ⟩,Du,AO⟩|⟨hA,b,rfl,h1,h2,h3⟩)
     ·have HA:=wN (xC.out.trans hA);have Zm:=((wY.trans xP).trans zt);have HQ:=wN (ZEl hD (hR.wJ (Zm.trans AO)) Bc Hl.out hle (hQ.low (om DL Zm.size)));clear hA xC hQ HE;exact kE
     ·have HA:=wN (xC.out.trans hA);clear hA xC HE;exact j5
    ·have HA:Hid (vW PK.ask (vX ws k2)=none):=by show _=_;rw[HE.out,Mw hl];rfl
     clear hl HE;exact j6
def ZZH{p:Prop}(h:p:=by
 have HA:=wN (xC.out.trans hA);clear hA xC;go_wp2;exact⟨rfl,.inr ⟨HA.out,b,rfl,h1,h2,wZ.trans h3⟩⟩):p:=h
def ZP7(Pb)(ws)(k)(W)(hP:PS Pb ws k W)(he:CX Pb ws 233 expr k)(hc:CX Pb ws 169 xR (k+1))(hq:CX Pb ws 43 query (k+1)):
  Calls prog 344 #[.pointer (some ⟨Pb,0,none⟩)] W (AR Pb ws k (vW (P basic) (vX ws k)) (Part Pb ws basic k W.heap.size) W):=by
 have BD:∀(fn:Fn) (first cap:Array Value) (w:World),(Instr.makeFunc fn first cap).run prog w= .ok (.func fn first cap) w:=λ_ _ _ _=>rfl;have wQ:=hP.ok;go_enter func344,ntmps344;go_wp2_with fail;refine(M0 Pb ws k [101,120,105,115,116,115] T.zK _ hP O).mono ?_;rintro e w1 ⟨wZ,⟨hi,rfl,wP⟩|⟨hi,rfl,wP⟩⟩
 ·have Hi:=wN hi;have xC:Hid (vW (P basic) (vX ws k)=vW (round query) (vX ws (k+1))):=by show _=_;rw[Ed hi,ZD1]
  clear hi;go_wp2_with fail;refine(Zkh Pb ws (k+1) _ wP (hq.mono Z)).mono ?_;rintro e w5 (⟨k',x,hle,hA,rfl,⟨n2,y2,rfl,hQ⟩,Du,AO⟩|⟨hA,b,rfl,h1,h2,h3⟩)
  ·have HA:=wN (xC.out.trans hA);have HQ:Hid (Part Pb ws basic k W.heap.size k' (.iface 353 (.agg #[.iface n2 y2])) w5):=by
    have l1:=Ae Hi.out;obtain⟨o,c,a,t2,e1,e2,e3,e4,e5⟩:=hQ.split;refine⟨_,?_,wX.zK (e5.low wZ.size)⟩;rw[zN l1 Z,e3];exact .RX (zy Hi.out l1) e1 e2 e4
   clear hA xC hQ;go_wp2_with fail;go_ret;exact .inl ⟨k',_,Z,HA.out,rfl,HQ.out,Du,wZ.trans AO⟩
  ·exact ZZH
 ·have HE:=wN (ZD0 _ (Zkz hi));clear hi;go_wp2_with fail;refine(ZQy Pb ws k _ wP).mono ?_;rintro e w2 ⟨rfl,wK⟩;have hP2:=wP.wJ wK;have wY:=wZ.trans (wU.of Pb wK);change Hid (vW (P basic) (vX ws k)=if BJ 0 ((ws.drop k).map wI)then vW (round xR) (vX ws k)else(vW (P expr) (vX ws k)).bind (vW PK.ask))at HE;cases ho:BJ 0 ((ws.drop k).map wI)with
  |true=>
   have xC:Hid (vW (P basic) (vX ws k)=vW (round xR) (vX ws k)):=by show _=_;rw[HE.out,ho];rfl
   clear HE;go_wp2_with fail;refine(ZQE Pb ws k _ hP2 hc).mono ?_;rintro e w5 (⟨k',x,hle,hA,rfl,hQ,Du,AO⟩|⟨hA,b,rfl,h1,h2,h3⟩)
   ·obtain⟨o,c,a,t2,e1,e2,e3,e4,e5⟩:=hQ.split;obtain⟨n2,y2,rfl⟩:=e5.iface;have HA:=wN (xC.out.trans hA);have HQ:Hid (Part Pb ws basic k W.heap.size k' (.iface n2 y2) w5):=by
     refine⟨_,?_,e5.low wY.size⟩;rw[e3];exact .R5 e1 e2 e4
    clear hA xC hQ e3;go_wp2_with fail;go_ret;exact .inl ⟨k',_,Z,HA.out,rfl,HQ.out,Du,wY.trans AO⟩
   ·exact ZZI
  |false=>
   have xC:Hid (vW (P basic) (vX ws k)=(vW (P expr) (vX ws k)).bind (vW PK.ask)):=by show _=_;rw[HE.out,ho];rfl
   clear HE;go_wp2_with fail;refine(he k _ (nV _) hP2).mono ?_;rintro e w3 (⟨k1,x,hle,hA,rfl,⟨t,hD,hR⟩,hP3,xP⟩|⟨hA,b,rfl,h1,h2,h3⟩)
   ·obtain⟨n,y,rfl⟩:=hR.iface;have zF:Hid (vW (P basic) (vX ws k)=vW PK.ask (vX ws k1)):=by show _=_;rw[xC.out,hA,Option.bind_some]
    clear hA xC;have Znn:=wY.trans xP;go_wp2_with fail;refine(ZQC Pb ws k k1 W.heap.size _ hP3 n y t hD (hR.low wY.size) hle Znn.size (he.mono Z) (hq.mono Z)).mono ?_;rintro e w4 (⟨k',x,hle2,hA,rfl,⟨t2,hD2,KQ⟩,Am,zt⟩|⟨hA,b,rfl,h1,h2,h3⟩)
    ·obtain⟨n2,y2,rfl⟩:=KQ.iface;have HA:=wN (zF.out.trans hA);clear hA zF;go_wp2_with fail;go_ret;exact .inl ⟨k',_,Z,HA.out,rfl,⟨t2,hD2,KQ⟩,Am,Znn.trans zt⟩
    ·have HA:=wN (zF.out.trans hA);clear hA zF;go_wp2;exact⟨rfl,.inr ⟨HA.out,b,rfl,h1,h2,Znn.trans h3⟩⟩
   ·have HA:Hid (vW (P basic) (vX ws k)=none):=by show _=_;rw[xC.out,hA];rfl
    clear hA xC;go_wp2;exact⟨rfl,.inr ⟨HA.out,b,rfl,h1,h2,wY.trans h3⟩⟩
def ZQw(Pb)(ws)(k)(W)(hP:PS Pb ws k W)(hn:CX Pb ws 290 neg (k+1))(hb:CX Pb ws 344 basic k):
  Calls prog 290 #[.pointer (some ⟨Pb,0,none⟩)] W (AR Pb ws k (vW (P neg) (vX ws k)) (Part Pb ws neg k W.heap.size) W):=by
 go_enter func290,ntmps290;go_wp2_with fail;refine(M0 Pb ws k [110,111,116] T.xJ _ hP O).mono ?_;rintro e w1 ⟨wZ,⟨hi,rfl,wP⟩|⟨hi,rfl,wP⟩⟩
 ·have Hi:=wN hi;have xC:Hid (vW (P neg) (vX ws k)=vW (P neg) (vX ws (k+1))):=by show _=_;rw[Ed hi,ZEf]
  clear hi;go_wp2_with fail;refine(hn (k+1) _ (nV _) wP).mono ?_;rintro e w2 (⟨k',x,hle,hA,rfl,⟨t,hD,hR⟩,hP2,wY⟩|⟨hA,b,rfl,h1,h2,h3⟩)
  ·obtain⟨n,y,rfl⟩:=hR.iface;have HA:=wN (xC.out.trans hA);have HQ:Hid (Part Pb ws neg k W.heap.size k' (.iface 333 (.agg #[.iface n y])) w2):=by
    have l1:=Ae Hi.out;refine⟨_,?_,wX.xJ (hR.low wZ.size)⟩;rw[zN l1 Z];exact .Vh (zy Hi.out l1) hD
   exact iZ
  ·exact ZZH
 ·have xC:=wN (ZEe _ (Zkz hi));clear hi;go_wp2_with fail;refine(hb k _ (nV _) wP).mono ?_;rintro e w2 (⟨k',x,hle,hA,rfl,⟨t,hD,hR⟩,hP2,wY⟩|⟨hA,b,rfl,h1,h2,h3⟩)
  ·obtain⟨n,y,rfl⟩:=hR.iface;have HA:=wN (xC.out.trans hA);clear hA xC;go_wp2_with fail;go_ret;exact .inl ⟨k',_,Z,HA.out,rfl,⟨t,.Vg hD,hR.low wZ.size⟩,hP2,wZ.trans wY⟩
  ·exact ZZH
end
section
open Go.RowKit
open T NT PK
def Zkd(Pb)(ws)(k)(W)(hP:PS Pb ws k W):
  Calls prog 235 #[.pointer (some ⟨Pb,0,none⟩)] W λe w'=>(∃s,hd ws k=some name/\(∀h:k<ws.length,(ws[k]).text=s)/\e= .returned (.string ⟨s.toArray⟩)/\PS Pb ws (k+1) w'/\wU Pb W w')\/(hd ws k≠some name/\FK Pb W e w'):=by
 refine(ZQv Pb ws k W hP).mono ?_;rintro e w1 (⟨hf,hk,rfl,wP,hK⟩|⟨hf,hb⟩)
 ·have h:=(Zyp hP.ok k).1 hf;exact .inl ⟨EN ws k,h,λ_=>(ZqE hk hP.ok (by rw[h];simp)).symm,rfl,wP,hK⟩
 ·exact .inr ⟨λh=>hf ((Zyp hP.ok k).2 h),hb⟩
def Vo{w}{a b:Value}(xS:Pb<W.heap.size)(hK:wU Pb (W.alloc (.cells #[a,b] ty)) w):w.cell? ⟨W.heap.size,0,none⟩=some a/\w.cell? ⟨W.heap.size,1,none⟩=some b/\w.frozen? ⟨W.heap.size,0,none⟩=false/\w.frozen? ⟨W.heap.size,1,none⟩=false/\W.heap.size<w.heap.size:=by
 have hb:=hK.obj (g:=W.heap.size) Z (oK W (.cells #[a,b] ty));exact⟨fO,fO,bz,bz,(wo hb)⟩
def Zpv{w}{a:Value}(xS:Pb<W.heap.size)(hK:wU Pb (W.alloc (.cells #[a] ty)) w):w.cell? ⟨W.heap.size,0,none⟩=some a/\w.frozen? ⟨W.heap.size,0,none⟩=false/\W.heap.size<w.heap.size:=by
 have hb:=hK.obj (g:=W.heap.size) Z (oK W (.cells #[a] ty));exact⟨fO,bz,(wo hb)⟩
def PS.Vo{k}{w}(h:PS Pb ws k w)(hK:wU Pb W w){b:Nat}(hb:W.heap.size<=b)(xS:Pb<W.heap.size)(hc:w.cell? ⟨b,0,none⟩=some v0)(hv:∀n,v0≠.int .i64 n){v1:Value}(yB:∀n,v1≠.int .i64 n)(v2):PS Pb ws k ((w.setCell ⟨b,0,none⟩ v1).setCell ⟨b,1,none⟩ v2)/\wU Pb W ((w.setCell ⟨b,0,none⟩ v1).setCell ⟨b,1,none⟩ v2):=by
 obtain⟨h1,h2⟩:=h.own hK hb xS hc hv 0 v1;have LA:=World.cell?_setCell_same w ⟨b,0,none⟩ v1 hc;exact h1.own h2 hb xS LA yB 1 v2
def Zg4(ws:List RW)(k k':Nat)(x:Value)(w':World):Prop:=∃o s,x= .agg #[xW o,xW s]/\D column (sl ws k k') (nd {kind:= [99,111,108,117,109,110],wW:=o,text:=s} .nil)
def ZqX(ws:List RW)(k k':Nat)(x:Value)(w':World):Prop:=∃s,x= .agg #[xW s]/\(s= []/\k'=k\/∃(h1:k<ws.length) (h2:k+1<ws.length),wI ws[k]=T.xZ/\wI ws[k+1]=name/\k'=k+2/\s=(ws[k+1]).text)
def ZGv{k:Nat}(h:hd ws k≠some dot):Zmp (vX ws k)=some (vX ws k):=by
 cases e:vX ws k with
 |nil=>rfl
 |cons u r=>
  have h2:u≠dot:=λhu=>h aJ;cases u<;>first|rfl|exact absurd rfl h2
def ZDQ{k:Nat}(h:hd ws k≠some T.xZ):vW PK.alias (vX ws k)=some (vX ws k):=by
 rw[Zss];cases e:vX ws k with
 |nil=>rfl
 |cons u r=>
  have h2:u≠T.xZ:=λhu=>h aJ;cases u<;>first|rfl|exact absurd rfl h2
def ZzD(Pb)(ws)(k)(W)(hP:PS Pb ws k W):
  Calls prog 171 #[.pointer (some ⟨Pb,0,none⟩)] W (AR Pb ws k (vW (P column) (vX ws k)) (Zg4 ws k) W):=by
 have xS:=hP.lt;go_enter func171,ntmps171;go_wp2_with fail;refine(Zkd Pb ws k _ (hP.wJ (yK _))).mono ?_;rintro e w1 (⟨s,hn,hs,rfl,wP,wZ⟩|⟨hn,b,rfl,h1,h2,h3⟩)
 ·have Hn:Hid (hd ws k=some name/\(∀h:k<ws.length,(ws[k]).text=s)):=⟨hn,hs⟩;have xC:Hid (vW (P column) (vX ws k)=Zmp (vX ws (k+1))):=by show _=_;rw[Zsx,KM hn,Option.bind_some]
  clear hn hs;go_wp2_with fail;refine(M0 Pb ws (k+1) [46] dot _ wP O).mono ?_;rintro e w2 ⟨wY,⟨hi,rfl,hP2⟩|⟨hi,rfl,hP2⟩⟩
  ·have Hi:=wN hi;have zF:Hid (vW (P column) (vX ws k)=xU name (vX ws (k+2))):=by show _=_;rw[xC.out,Ed hi];rfl
   clear hi xC;go_wp2_with fail;refine(Zkd Pb ws (k+2) _ hP2).mono ?_;rintro e w3 (⟨s3,IC,C8,rfl,hP3,xP⟩|⟨IC,b,rfl,h1,h2,h3⟩)
   ·have HA:Hid (vW (P column) (vX ws k)=some (vX ws (k+3))):=by show _=_;rw[zF.out,KM IC]
    have HQ:Hid (Zg4 ws k (k+3) (.agg #[xW s,xW s3]) w3):=by
     have l1:=Ae Hn.out.1;have l2:=Ae Hi.out;have l3:=Ae IC;refine⟨s,s3,rfl,?_⟩;rw[zN l1 Z,zN l2 Z,PN l3,<-C8 l3,<-Hn.out.2 l1];exact .R9 (zy Hn.out.1 l1) (zy Hi.out l2) (zy IC l3)
    clear IC C8 zF;have MI:=(wZ.trans wY).trans xP;obtain⟨c0,c1,f0,f1,yA⟩:=Vo xS MI;go_wp2_with fail;obtain⟨Am,zt⟩:=hP3.Vo ((wU.alloc Pb _ _).trans MI) (nV _) xS c0 aU (v1:=xW s) fP (xW s3);refine oZ (v:=.agg #[xW s,xW s3]) ig rfl (.inl ⟨k+3,_,Z,HA.out,rfl,HQ.out,Am,zt⟩)
   ·have HA:Hid (vW (P column) (vX ws k)=none):=by show _=_;rw[zF.out,Mw IC]
    clear IC zF;go_wp2;exact⟨rfl,.inr ⟨HA.out,b,rfl,h1,h2,(wU.alloc Pb _ _).trans ((wZ.trans wY).trans h3)⟩⟩
  ·have HA:Hid (vW (P column) (vX ws k)=some (vX ws (k+1))):=by show _=_;rw[xC.out,ZGv hi]
   have HQ:Hid (Zg4 ws k (k+1) (.agg #[xW [],xW s]) w2):=by
    have l1:=Ae Hn.out.1;refine⟨[],s,rfl,?_⟩;rw[PN l1,<-Hn.out.2 l1];exact .zO (zy Hn.out.1 l1)
   clear hi xC;have MI:=wZ.trans wY;obtain⟨c0,c1,f0,f1,yA⟩:=Vo xS MI;go_wp2_with fail;obtain⟨Am,zt⟩:=hP2.Vo ((wU.alloc Pb _ _).trans MI) (nV _) xS c0 aU (v1:=xW []) fP (xW s);refine oZ (v:=.agg #[xW [],xW s]) ig rfl (.inl ⟨k+1,_,Z,HA.out,rfl,HQ.out,Am,zt⟩)
 ·have HA:Hid (vW (P column) (vX ws k)=none):=by show _=_;rw[Zsx,Mw hn];rfl
  exact je
def ZZJ{p:Prop}(h:p:=by
 go_wp2;exact⟨rfl,.inr ⟨HA.out,b,rfl,h1,h2,(wU.alloc Pb _ _).trans (wZ.trans h3)⟩⟩):p:=h
def Zzl(Pb)(ws)(k)(W)(hP:PS Pb ws k W):
  Calls prog 234 #[.pointer (some ⟨Pb,0,none⟩)] W (AR Pb ws k (vW PK.alias (vX ws k)) (ZqX ws k) W):=by
 have xS:=hP.lt;go_enter func234,ntmps234;go_wp2_with fail;refine(M0 Pb ws k [97,115] T.xZ _ (hP.wJ (yK _)) O).mono ?_;rintro e w1 ⟨wZ,⟨hi,rfl,wP⟩|⟨hi,rfl,wP⟩⟩
 ·have Hi:=wN hi;have xC:Hid (vW PK.alias (vX ws k)=xU name (vX ws (k+1))):=by show _=_;rw[Zss,Ed hi]
  clear hi;go_wp2_with fail;refine(Zkd Pb ws (k+1) _ wP).mono ?_;rintro e w3 (⟨s,hn,hs,rfl,hP3,xP⟩|⟨hn,b,rfl,h1,h2,h3⟩)
  ·have HA:Hid (vW PK.alias (vX ws k)=some (vX ws (k+2))):=by show _=_;rw[xC.out,KM hn]
   have HQ:Hid (ZqX ws k (k+2) (.agg #[xW s]) w3):=by
    have l1:=Ae Hi.out;have l2:=Ae hn;exact⟨s,rfl,.inr ⟨l1,l2,zy Hi.out l1,zy hn l2,rfl,(hs l2).symm⟩⟩
   clear hn hs xC;have MI:=wZ.trans xP;obtain⟨c0,f0,yA⟩:=Zpv xS MI;go_wp2_with fail;obtain⟨Am,zt⟩:=hP3.own ((wU.alloc Pb _ _).trans MI) (nV _) xS c0 aU 0 (xW s);refine oZ (v:=.agg #[xW s]) ik rfl (.inl ⟨k+2,_,Z,HA.out,rfl,HQ.out,Am,zt⟩)
  ·have HA:Hid (vW PK.alias (vX ws k)=none):=by show _=_;rw[xC.out,Mw hn]
   clear hn xC;exact ZZJ
 ·have HA:=wN (ZDQ hi);clear hi;obtain⟨c0,f0,yA⟩:=Zpv xS wZ;go_wp2_with fail;obtain⟨Am,zt⟩:=wP.own ((wU.alloc Pb _ _).trans wZ) (nV _) xS c0 aU 0 (xW []);refine oZ (v:=.agg #[xW []]) ik rfl (.inl ⟨k,_,nV _,HA.out,rfl,⟨[],rfl,.inl ⟨rfl,rfl⟩⟩,Am,zt⟩)
def ZlL(ws:List RW)(k k':Nat)(x:Value)(w':World):Prop:=∃n y s t,x= .agg #[.iface n y,xW s]/\D NT.item (sl ws k k') (nd {kind:= [105,116,101,109],xZ:=s} (l1 t))/\Wm (.iface n y) t
def ZlP(ws:List RW)(k k':Nat)(x:Value)(w':World):Prop:=∃n s,x= .agg #[xW n,xW s]/\D source (sl ws k k') (nd {kind:= [115,111,117,114,99,101],text:=n,xZ:=s} .nil)
def ZQp(Pb)(ws)(k)(W)(hP:PS Pb ws k W)(he:F9 Pb ws 233 expr k):
  Calls prog 166 #[.pointer (some ⟨Pb,0,none⟩)] W (AR Pb ws k (vW (P NT.item) (vX ws k)) (ZlL ws k) W):=by
 have xS:=hP.lt;go_enter func166,ntmps166;go_wp2_with fail;refine(he k _ (nV _) (hP.wJ (yK _))).mono ?_;rintro e w1 (⟨k1,x,hle,hA,rfl,⟨t,hD,hR⟩,wP,wZ⟩|⟨hA,b,rfl,h1,h2,h3⟩)
 ·obtain⟨n,y,rfl⟩:=(hR 0 0 W).iface;have xC:Hid (vW (P NT.item) (vX ws k)=vW PK.alias (vX ws k1)):=by show _=_;rw[ZsC,hA,Option.bind_some]
  clear hA;go_wp2_with fail;refine(Zzl Pb ws k1 _ wP).mono ?_;rintro e w2 (⟨k',x,hle2,hA,rfl,⟨s,rfl,hQ⟩,hP2,wY⟩|⟨hA,b,rfl,h1,h2,h3⟩)
  ·have HA:=wN (xC.out.trans hA);have HQ:Hid (ZlL ws k k' (.agg #[.iface n y,xW s]) w2):=by
    refine⟨n,y,s,t,rfl,?_,hR⟩;rcases hQ with⟨rfl,rfl⟩|⟨l1,l2,t1,t2,rfl,rfl⟩
    ·exact .item hD
    ·rw[F3 ws hle Z,zN l1 Z,PN l2];exact .XA t1 t2 hD
   clear hA hQ xC;have MI:=wZ.trans wY;obtain⟨c0,c1,f0,f1,yA⟩:=Vo xS MI;unfold xW;go_wp2_with fail;obtain⟨Am,zt⟩:=hP2.Vo ((wU.alloc Pb _ _).trans MI) (nV _) xS c0 aU (v1:=.iface n y) aU (xW s);refine oZ (v:=.agg #[.iface n y,xW s]) (by simp[results,Tryz.results166,go_sem,c0,c1,xW]) rfl (.inl ⟨k',_,Z,HA.out,rfl,HQ.out,Am,zt⟩)
  ·have HA:=wN (xC.out.trans hA);clear hA xC;exact ZZJ
 ·have HA:Hid (vW (P NT.item) (vX ws k)=none):=by show _=_;rw[ZsC,hA];rfl
  exact ja
def ZQJ(Pb)(ws)(k)(W)(hP:PS Pb ws k W):
  Calls prog 168 #[.pointer (some ⟨Pb,0,none⟩)] W (AR Pb ws k (vW (P source) (vX ws k)) (ZlP ws k) W):=by
 have xS:=hP.lt;go_enter func168,ntmps168;go_wp2_with fail;refine(Zkd Pb ws k _ (hP.wJ (yK _))).mono ?_;rintro e w1 (⟨n,hn,hs,rfl,wP,wZ⟩|⟨hn,b,rfl,h1,h2,h3⟩)
 ·have Hn:Hid (hd ws k=some name/\(∀h:k<ws.length,(ws[k]).text=n)):=⟨hn,hs⟩;have xC:Hid (vW (P source) (vX ws k)=vW PK.alias (vX ws (k+1))):=by show _=_;rw[ZsF,KM hn,Option.bind_some]
  clear hn hs;go_wp2_with fail;refine(Zzl Pb ws (k+1) _ wP).mono ?_;rintro e w2 (⟨k',x,hle2,hA,rfl,⟨s,rfl,hQ⟩,hP2,wY⟩|⟨hA,b,rfl,h1,h2,h3⟩)
  ·have HA:=wN (xC.out.trans hA);have HQ:Hid (ZlP ws k k' (.agg #[xW n,xW s]) w2):=by
    have l0:=Ae Hn.out.1;refine⟨n,s,rfl,?_⟩;rw[<-Hn.out.2 l0];rcases hQ with⟨rfl,rfl⟩|⟨l1,l2,t1,t2,rfl,rfl⟩
    ·rw[PN l0];exact .src (zy Hn.out.1 l0)
    ·rw[zN l0 Z,zN l1 Z,PN l2];exact .X5 (zy Hn.out.1 l0) t1 t2
   clear hA hQ xC;have MI:=wZ.trans wY;obtain⟨c0,c1,f0,f1,yA⟩:=Vo xS MI;unfold xW;go_wp2_with fail;obtain⟨Am,zt⟩:=hP2.Vo ((wU.alloc Pb _ _).trans MI) (nV _) xS c0 aU (v1:=xW n) fP (xW s);refine oZ (v:=.agg #[xW n,xW s]) (by simp[results,Tryz.results168,go_sem,c0,c1,xW]) rfl (.inl ⟨k',_,Z,HA.out,rfl,HQ.out,Am,zt⟩)
  ·have HA:=wN (xC.out.trans hA);clear hA xC;exact ZZJ
 ·have HA:Hid (vW (P source) (vX ws k)=none):=by show _=_;rw[ZsF,Mw hn];rfl
  exact je
end
section
open Go.RowKit
open T NT PK
def RS(s:vS)(l:List T):Option (List T):=if s= [99,111,117,110,116]then ZhZ l else vW (P expr) l
def Zg3(ws:List RW)(s:vS)(k k':Nat)(x:Value)(w':World):Prop:=(x= .nilIface/\s= [99,111,117,110,116]/\hd ws k=some T.star/\k'=k+1)\/KC ws expr k k' x w'
def ZGB{k:Nat}(h:hd ws k≠some T.star):ZhZ (vX ws k)=vW (P expr) (vX ws k):=by
 cases e:vX ws k with
 |nil=>rfl
 |cons u r=>
  have h2:u≠T.star:=λhu=>h aJ;cases u<;>first|rfl|exact absurd rfl h2
structure ZaP (Pb bn bp:Nat) (s:vS) (W:World):Prop where
 n1:bn≠Pb
 n2:bp≠Pb
 c1:W.cell? ⟨bn,0,none⟩=some (.string ⟨s.toArray⟩)
 c2:W.cell? ⟨bp,0,none⟩=some (.pointer (some ⟨Pb,0,none⟩))
def ZaP.wJ{bn bp}{s}(h:ZaP Pb bn bp s W)(hK:wU Pb W W'):ZaP Pb bn bp s W':=
 ⟨h.n1,h.n2,hK.cell h.n1 h.c1,hK.cell h.n2 h.c2⟩
def ZP4(Pb)(ws)(k bn bp)(s)(W)(hP:PS Pb ws k W)(hA:ZaP Pb bn bp s W)(he:F9 Pb ws 233 expr k):
  Calls prog 402 #[.pointer (some ⟨bn,0,none⟩),.pointer (some ⟨bp,0,none⟩)] W (AR Pb ws k (RS s (vX ws k)) (Zg3 ws s k) W):=by
 have c1:=hA.c1;have c2:=hA.c2;by_cases hs:s= [99,111,117,110,116]
 ·subst hs;go_enter func402,ntmps402;go_wp2_with fail;refine(M0 Pb ws k [42] T.star _ hP O).mono ?_;rintro e w1 ⟨wZ,⟨hi,rfl,wP⟩|⟨hi,rfl,wP⟩⟩
  ·have Hi:=wN hi;have HA:Hid (RS [99,111,117,110,116] (vX ws k)=some (vX ws (k+1))):=by show _=_;unfold RS;rw[nY rfl,Ed hi];rfl
   clear hi;go_wp2_with fail;go_ret;exact .inl ⟨k+1,_,Z,HA.out,rfl,.inl ⟨rfl,rfl,Hi.out,rfl⟩,wP,wZ⟩
  ·have xC:Hid (RS [99,111,117,110,116] (vX ws k)=vW (P expr) (vX ws k)):=by show _=_;unfold RS;rw[nY rfl,ZGB hi]
   have c2':=wZ.cell hA.n2 c2;clear hi;go_wp2_with fail;refine(he k _ (nV _) wP).mono ?_;rintro e w2 (⟨k',x,hle,hA,rfl,⟨t,hD,hR⟩,hP2,wY⟩|⟨hA,b,rfl,h1,h2,h3⟩)
   ·obtain⟨n,y,rfl⟩:=(hR 0 0 W).iface;have HA:=wN (xC.out.trans hA);clear hA xC;go_wp2_with fail;go_ret;exact .inl ⟨k',_,hle,HA.out,rfl,.inr ⟨t,hD,hR⟩,hP2,wZ.trans wY⟩
   ·exact kW
 ·have hs':(s== [99,111,117,110,116])=false:=by simpa using hs
  have xC:Hid (RS s (vX ws k)=vW (P expr) (vX ws k)):=by show _=_;unfold RS;rw[nU hs]
  clear hs;go_enter func402,ntmps402;go_wp2_with fail;refine(he k _ (nV _) hP).mono ?_;rintro e w2 (⟨k',x,hle,hA,rfl,⟨t,hD,hR⟩,hP2,wY⟩|⟨hA,b,rfl,h1,h2,h3⟩)
  ·obtain⟨n,y,rfl⟩:=(hR 0 0 W).iface;have HA:=wN (xC.out.trans hA);clear hA xC;go_wp2_with fail;go_ret;exact .inl ⟨k',_,hle,HA.out,rfl,.inr ⟨t,hD,hR⟩,hP2,wY⟩
  ·have HA:=wN (xC.out.trans hA);clear hA xC;exact ko
def OH(s:vS)(l:List T):Option (List T):=(xU lp l).bind λr=>(RS s r).bind (xU rp)
def ZBw(ws:List RW)(s:vS)(k k':Nat)(x:Value)(w':World):Prop:=∃m,hd ws k=some lp/\hd ws m=some rp/\k+1<=m/\k'=m+1/\Zg3 ws s (k+1) m x w'
def Zg3.is{s}{k}{x}(h:Zg3 ws s k k' x w'):x= .nilIface\/∃n y,x= .iface n y:=by
 rcases h with⟨rfl,_⟩|⟨t,_,hR⟩
 ·exact .inl rfl
 ·exact .inr (hR 0 0 w').iface
def ZQD(Pb)(ws)(k bn bp)(s)(W)(hP:PS Pb ws k W)(hG:ZaP Pb bn bp s W)(he:F9 Pb ws 233 expr (k+1)):
  Calls prog 380 #[.pointer (some ⟨Pb,0,none⟩),.func (.func 402) #[] #[.pointer (some ⟨bn,0,none⟩),.pointer (some ⟨bp,0,none⟩)]] W (AR Pb ws k (OH s (vX ws k)) (ZBw ws s k) W):=by
 have wQ:=hP.ok;go_enter func380,ntmps380;go_wp2_with fail;refine(Vq Pb ws k [40] lp _ hP O).mono ?_;rintro e w1 (⟨hf,rfl,wP,wZ⟩|⟨hf,b,rfl,h1,h2,h3⟩)
 ·have Hf:=wN hf;have xC:Hid (OH s (vX ws k)=(RS s (vX ws (k+1))).bind (xU rp)):=by show _=_;unfold OH;rw[KM hf,Option.bind_some]
  clear hf;go_wp2_with fail;refine(ZP4 Pb ws (k+1) bn bp s w1 wP (hG.wJ wZ) he).mono ?_;rintro e w2 (⟨k',x,hle,hA,rfl,hQ,hP2,wY⟩|⟨hA,b,rfl,h1,h2,h3⟩)
  ·have zF:Hid (OH s (vX ws k)=xU rp (vX ws k')):=by show _=_;rw[xC.out,hA,Option.bind_some]
   clear hA xC;rcases hQ.is with rfl|⟨n,y,rfl⟩<;>
    (go_wp2_with fail
     refine(Vq Pb ws k' [41] rp _ hP2 O).mono ?_;rintro e w3 (⟨yj,rfl,hP3,xP⟩|⟨yj,b,rfl,h1,h2,h3⟩)
     ·have Hf2:=wN yj;have HA:Hid (OH s (vX ws k)=some (vX ws (k'+1))):=by show _=_;rw[zF.out,KM yj]
      clear yj zF;go_wp2_with fail;go_ret;exact .inl ⟨k'+1,_,Z,HA.out,rfl,⟨k',Hf.out,Hf2.out,hle,rfl,hQ⟩,hP3,(wZ.trans wY).trans xP⟩
     ·have HA:Hid (OH s (vX ws k)=none):=by show _=_;rw[zF.out,Mw yj]
      clear yj zF;go_wp2;exact⟨rfl,.inr ⟨HA.out,b,rfl,h1,h2,(wZ.trans wY).trans h3⟩⟩)
  ·have HA:Hid (OH s (vX ws k)=none):=by show _=_;rw[xC.out,hA];rfl
   clear hA xC;go_wp2;exact⟨rfl,.inr ⟨HA.out,b,rfl,h1,h2,wZ.trans h3⟩⟩
 ·have HA:Hid (OH s (vX ws k)=none):=by show _=_;unfold OH;rw[Mw hf];rfl
  clear hf;exact ko
def ZZK{p:Prop}(h:p:=by
 unfold isAgg at h;simp only[r9,si]at h;rcases h with h|h
 ·exact h
 ·rcases(ZAM hw).1 h with q|q|q<;>(unfold XD at q;simp[e]at q)):p:=h
def ZHP{k:Nat}(wQ:∀w∈ws,EU w)(hk:k<ws.length)(h:isAgg (wI ws[k])=true):vW (P yh) (vX ws k)=OH (ws[k]).text (vX ws (k+1)):=by
 have hw:=wQ _ (oC hk);rw[Rm hk];generalize ws[k]=w at h hw ⊢;unfold OH RS;have hc:wI w=count↔w.text= [99,111,117,110,116]:=by
  constructor
  ·intro e;have:=X9 (p:=(·==count)) (L:= [[99,111,117,110,116]]) hw bS O O O O;exact nR
  ·intro e;have:=ZNb hw (y:=([99,111,117,110,116],count)) O O;exact ZZK
 unfold isAgg at h;simp only[r9,si]at h;rcases h with h|h
 ·rw[h,ZD6];simp only[nY (hc.1 h)]
 ·rw[h,ZD5,Zec];have wF:¬w.text= [99,111,117,110,116]:=λe=>by
   have h2:=hc.2 e;rw[h]at h2;cases h2
  simp only[nU wF]
def ZP3(Pb)(ws)(k)(W)(hP:PS Pb ws k W)(hk:k<ws.length)(ha:isAgg (wI ws[k])=true)(he:F9 Pb ws 233 expr (k+1)):
  Calls prog 381 #[.pointer (some ⟨Pb,0,none⟩)] W (AR Pb ws k (vW (P yh) (vX ws k)) (KC ws yh k) W):=by
 have BD:∀(fn:Fn) (first cap:Array Value) (w:World),(Instr.makeFunc fn first cap).run prog w= .ok (.func fn first cap) w:=λ_ _ _ _=>rfl;have xS:=hP.lt;have wQ:=hP.ok;have HT:Hid (EN ws k=(ws[k]).text/\(ws[k]).text∈Qk/\isAgg (wI ws[k])=true/\vW (P yh) (vX ws k)=OH (ws[k]).text (vX ws (k+1))):=
  ⟨ZqE hk wQ (by rw[UM hk];intro e;rw[oN e]at ha;cases ha),X9 (p:=isAgg) (wQ _ (oC hk)) ha O O O O,ha,ZHP wQ hk ha⟩
 clear ha;go_enter func381,ntmps381;go_wp2_with fail;refine(Zkf Pb ws k _ (hP.wJ (yK _)) hk).mono ?_;rintro e w1 ⟨rfl,wP,wZ⟩;unfold L9;have f1:=λw=>ZmN (DU ws k) ⟨(EN ws k).toArray⟩ (Jo ws k) (Vi ws k) w;have YG:=HT.out;clear HT;generalize EN ws k=s at YG f1 ⊢;have HT:=wN YG;clear YG;obtain⟨c0,g0,yA⟩:=Zpv xS wZ;go_wp2_with fail;have Nz:=(wU.alloc Pb _ _).trans wZ;have Z4:=oK w1 (.cells #[.string ⟨s.toArray⟩] 9);have ZXs:=wP.lt;have hG:ZaP Pb w1.heap.size W.heap.size s (w1.alloc (.cells #[.string ⟨s.toArray⟩] 9)):=⟨Z,Z,by simp only[World.cell?,Z4];rfl,(wU.alloc Pb _ _).cell Z c0⟩;refine(ZQD Pb ws (k+1) w1.heap.size W.heap.size s _ (wP.wJ (yK _)) hG (he.mono Z)).mono ?_;rintro e w2 (⟨k',x,hle,hA,rfl,hQ,hP2,wY⟩|⟨hA,b,rfl,h1,h2,h3⟩)
 ·have HA:Hid (vW (P yh) (vX ws k)=some (vX ws k')):=by show _=_;rw[HT.out.2.2.2,<-HT.out.1,hA]
  have HQ:Hid (KC ws yh k k' (.iface 451 (.agg #[.string ⟨s.toArray⟩,x])) w2):=by
    obtain⟨m,l1,l2,l3,rfl,hq⟩:=hQ;have n1:=Ae l1;have n2:=Ae l2;rcases hq with⟨rfl,rfl,yI,rfl⟩|⟨t,hD,hR⟩
    ·have n3:=Ae yI;refine⟨_,?_,λ_ _ _=>wX.star⟩;rw[zN hk Z,zN n1 Z,zN n3 Z,PN n2];have hc:wI ws[k]=count:=by
      have hw:=wQ _ (oC hk);have h:=HT.out.2.2.1;have e:=HT.out.1.symm;exact ZZK
     exact .Sk hc (zy l1 n1) (zy yI n3) (zy l2 n2)
    ·refine⟨_,?_,λ_ _ _=>wX.agg (by rw[HT.out.1];exact HT.out.2.1) (hR _ _ _)⟩;rw[zN hk Z,zN n1 Z,Zqp n2 l3,HT.out.1];exact .Qi HT.out.2.2.1 (zy l1 n1) (zy l2 n2) hD
  have hx:x= .nilIface\/∃n y,x= .iface n y:=by obtain⟨m,_,_,_,_,hq⟩:=hQ;exact hq.is
  have c1:=wY.cell hG.n1 hG.c1;clear hA hQ HT;rcases hx with rfl|⟨n,y,rfl⟩<;>
   (go_wp2_with fail
    go_ret;exact .inl ⟨k',_,Z,HA.out,rfl,HQ.out,hP2,Nz.trans ((wU.alloc Pb _ _).trans wY)⟩)
 ·have HA:Hid (vW (P yh) (vX ws k)=none):=by show _=_;rw[HT.out.2.2.2,<-HT.out.1,hA]
  clear hA HT;go_wp2;exact⟨rfl,.inr ⟨HA.out,b,rfl,h1,h2,Nz.trans ((wU.alloc Pb _ _).trans h3)⟩⟩
def ZH7(a)(b)(x)(hx:x= .nilIface\/∃t y,x= .iface t y)(w):(Instr.field 128 (.agg #[.int .i64 a,.string b,x]) 2).run prog w= .ok x w:=by
 rcases hx with rfl|⟨t,y,rfl⟩<;>kernel_rfl
def ZyB{k:Nat}(wQ:∀w∈ws,EU w)(h:hd ws k=some lit)(w'):(∃n y,Jo ws k= .iface n y)/\KC ws yh k (k+1) (.iface 439 (.agg #[Jo ws k])) w':=by
 have hk:=Ae h;have ht:=zy h hk;have hw:=wQ _ (oC hk);rw[(Zas hk).2.2];unfold KC;rw[PN hk];rcases(ZkA hw).1 ht with hs|hs
 ·have e:FZ ws[k]= .iface 142 (.int .i64 (ws[k]).num):=by unfold FZ;rw[nY hs]
  rw[e];exact⟨⟨_,_,rfl⟩,_,.ZmE ht hs,λ_ _ _=>wX.num⟩
 ·have e:FZ ws[k]= .iface 82 (.string ⟨(ws[k]).text.toArray⟩):=by unfold FZ;rw[nU (by rw[hs];decide),nY hs]
  rw[e];exact⟨⟨_,_,rfl⟩,_,.ZmF ht hs,λ_ _ _=>wX.text⟩
end
section
open Go.RowKit
open T NT PK
def ZQl(Pb)(ws)(k)(W)(hP:PS Pb ws k W)(hf:F9 Pb ws 343 yh (k+1))(he:F9 Pb ws 233 expr (k+1)):
  Calls prog 343 #[.pointer (some ⟨Pb,0,none⟩)] W (AR Pb ws k (vW (P yh) (vX ws k)) (KC ws yh k) W):=by
 have BD:∀(fn:Fn) (first cap:Array Value) (w:World),(Instr.makeFunc fn first cap).run prog w= .ok (.func fn first cap) w:=λ_ _ _ _=>rfl;have wQ:=hP.ok;go_enter func343,ntmps343;go_wp2_with fail;refine(M0 Pb ws k [45] T.minus _ hP O).mono ?_;rintro e w1 ⟨wZ,⟨hi,rfl,wP⟩|⟨hi,rfl,wP⟩⟩
 ·have Hi:=wN hi;have xC:Hid (vW (P yh) (vX ws k)=vW (P yh) (vX ws (k+1))):=by show _=_;rw[Ed hi,ZEa]
  clear hi;go_wp2_with fail;refine(hf (k+1) _ (nV _) wP).mono ?_;rintro e w2 (⟨k',x,hle,hA,rfl,⟨t,hD,hR⟩,hP2,wY⟩|⟨hA,b,rfl,h1,h2,h3⟩)
  ·obtain⟨n,y,rfl⟩:=(hR 0 0 W).iface;have HA:=wN (xC.out.trans hA);have HQ:Hid (KC ws yh k k' (.iface 444 (.agg #[.iface n y])) w2):=by
    have l1:=Ae Hi.out;refine⟨_,?_,λ_ _ _=>wX.neg (hR _ _ _)⟩;rw[zN l1 Z];exact .Sd (zy Hi.out l1) hD
   exact iZ
  ·exact kW
 ·have Hm:=wN hi;clear hi;go_wp2_with fail;refine(M0 Pb ws k [110,117,108,108] T.null _ wP O).mono ?_;rintro e w2 ⟨wY,⟨hi,rfl,hP2⟩|⟨hi,rfl,hP2⟩⟩
  ·have HA:Hid (vW (P yh) (vX ws k)=some (vX ws (k+1))):=by show _=_;rw[Ed hi,ZEb]
   have HQ:Hid (KC ws yh k (k+1) (.iface 439 (.agg #[.iface 140 (.agg #[])])) w2):=by
    have l1:=Ae hi;refine⟨_,?_,λ_ _ _=>wX.null⟩;rw[PN l1];exact .Si (zy hi l1)
   clear hi;go_wp2_with fail;go_ret;exact .inl ⟨k+1,_,Z,HA.out,rfl,HQ.out,hP2,wZ.trans wY⟩
  ·have Hn:=wN hi;clear hi;have hKa:=wZ.trans wY;go_wp2_with fail;refine(Zgn Pb ws k _ hP2).mono ?_;rintro e w3 ⟨rfl,wH⟩;have hP3:=hP2.wJ wH;have xP:=hKa.trans (wU.of Pb wH);unfold L9;have f0:=λw=>ZmM (DU ws k) ⟨(EN ws k).toArray⟩ (Jo ws k) (Vi ws k) w;by_cases hl:hd ws k=some lit
   ·have hk:=Ae hl;have hn':(DU ws k==3)=true:=by simpa using(Zyo wQ k).2 hl
    obtain⟨⟨n,y,hv⟩,hq⟩:=ZyB wQ hl w3;have HQ:=wN (λw'=>(ZyB wQ hl w').2);have HA:Hid (vW (P yh) (vX ws k)=some (vX ws (k+1))):=by show _=_;rw[Ed hl,ZD8]
    have HV:=wN hv;clear hl hq hv;go_wp2_with fail;refine(Zkf Pb ws k _ hP3 hk).mono ?_;rintro e w4 ⟨rfl,Am,zt⟩;unfold L9;have f2:=λw=>ZH7 (DU ws k) ⟨(EN ws k).toArray⟩ (Jo ws k) (Vi ws k) w;clear f0;rw[HV.out]at f2 HQ ⊢;go_wp2_with fail;go_ret;exact .inl ⟨k+1,_,Z,HA.out,rfl,HQ.out _,Am,xP.trans zt⟩
   ·have hn':(DU ws k==3)=false:=by
     have:¬DU ws k=3:=λh=>hl ((Zyo wQ k).1 h);exact nR
    have Hl:Hid (hd ws k≠some lit):=hl;clear hl;go_wp2_with fail;refine(Zkc Pb ws k w3.heap.size 1 [[40]] _ (hP3.wJ (yK _)) (Tq w3 [[40]]) ae).mono ?_;rintro e w4 ⟨rfl,xw⟩;have Am:=(hP3.wJ (yK _)).wJ xw;have zt:=xP.trans ((wU.alloc Pb _ _).trans (wU.of Pb xw));rw[Iu (s:= [40]) (t:=lp) O wQ];by_cases ho:hd ws k=some lp
    ·have xC:Hid (vW (P yh) (vX ws k)=vW (round expr) (vX ws k)):=by show _=_;rw[Ed ho,ZD9]
     rw[su ho];clear ho;go_wp2_with fail;refine(ZQF Pb ws k _ Am he).mono ?_;rintro e w5 (⟨k',x,hle,hA,rfl,hQ,Du,AO⟩|⟨hA,b,rfl,h1,h2,h3⟩)
     ·obtain⟨o,c,a,t2,e1,e2,e3,e4,e5⟩:=hQ.split;obtain⟨n2,y2,rfl⟩:=(e5 0 0 W).iface;have HA:=wN (xC.out.trans hA);have HQ:Hid (KC ws yh k k' (.iface n2 y2) w5):=by
       refine⟨_,?_,e5⟩;rw[e3];exact .Sj e1 e2 e4
      exact iY
     ·exact kX
    ·have Ho:Hid (hd ws k≠some lp):=ho;rw[qd ho];clear ho;go_wp2_with fail;refine(Zkc Pb ws k w4.heap.size 4 Qk _ (Am.wJ (yK _)) (Tq w4 Qk) O).mono ?_;rintro e w5 ⟨rfl,yl⟩;have Du:=(Am.wJ (yK _)).wJ yl;have AO:=zt.trans ((wU.alloc Pb _ _).trans (wU.of Pb yl));rw[fx (ss:=Qk) isAgg O O O O wQ];cases hg:(hd ws k).any isAgg with
     |true=>
      obtain⟨u,hu,hp⟩:=ZsK hg;have hk:=Ae hu;have yY:isAgg (wI ws[k])=true:=by rw[zy hu hk];exact hp
      clear hu hp;go_wp2_with fail;refine(ZP3 Pb ws k _ Du hk yY he).mono ?_;rintro e w6 (⟨k',x,hle,hA,rfl,⟨t,hD,hR⟩,UF,UD⟩|⟨hA,b,rfl,h1,h2,h3⟩)
      ·obtain⟨n2,y2,rfl⟩:=(hR 0 0 W).iface;have HA:=wN hA;clear hA hg yY;go_wp2_with fail;go_ret;exact .inl ⟨k',_,hle,HA.out,rfl,⟨t,hD,hR⟩,UF,AO.trans UD⟩
      ·have HA:=wN hA;clear hA hg yY;exact kg
     |false=>
      have xC:Hid (vW (P yh) (vX ws k)=vW (P column) (vX ws k)):=by
       refine ZD7 _ (λu r e=>?_);have hu:=GR e;have hp:=ZsJ hg hu;exact⟨λh=>Hm.out (by rw[hu,h]),λh=>Hn.out (by rw[hu,h]),λh=>Hl.out (by rw[hu,h]),λh=>Ho.out (by rw[hu,h]),(λh=>by rw[h]at hp;cases hp),(λh=>by rw[h]at hp;cases hp)⟩
      go_wp2_with fail;refine(ZzD Pb ws k _ Du).mono ?_;rintro e w6 (⟨k',x,hle,hA,rfl,⟨o,s,rfl,hD⟩,UF,UD⟩|⟨hA,b,rfl,h1,h2,h3⟩)
      ·have HA:=wN (xC.out.trans hA);have HQ:Hid (KC ws yh k k' (.iface 365 (.agg #[xW o,xW s])) w6):=⟨_,.Sc hD,λ_ _ _=>wX.column⟩;clear hA hg xC;unfold xW at *;go_wp2_with fail;go_ret;exact .inl ⟨k',_,hle,HA.out,rfl,HQ.out,UF,AO.trans UD⟩
      ·have HA:=wN (xC.out.trans hA);clear hA hg xC;exact kg
end
section
open Go.RowKit
open T NT PK
def Tryz.ZMD:(prog.info? 372).map (λi=>(i.zero,i.size,i.bytes))=some (some (.agg #[.nilIface,.string ⟨#[]⟩]),2,32):=by kernel_rfl
def Tryz.ZMH:(prog.info? 322).map (λi=>(i.zero,i.size,i.bytes))=some (some (.agg #[.string ⟨#[]⟩,.string ⟨#[]⟩]),2,32):=by kernel_rfl
def Tryz.ZMy:(prog.info? 365).map (λi=>(i.zero,i.size,i.bytes))=some (some (.agg #[.string ⟨#[]⟩,.string ⟨#[]⟩]),2,32):=by kernel_rfl
def G6(l:List (Value×Value)):List Value:=l.flatMap λp=> [p.1,p.2]
def ZF5(l):∀i (h:i<l.length),(G6 l)[i*2]? =some l[i].1/\(G6 l)[i*2+1]? =some l[i].2:=by
 induction l with
 |nil=>intro i h;simp at h
 |cons a l ih=>
  intro i h;cases i with
  |zero=>exact jS
  |succ i=>
   obtain⟨h1,h2⟩:=ih i ay;have e:G6 (a::l)=a.1::a.2::G6 l:=rfl;rw[e,show(i+1)*2=i*2+1+1 from Z];simp only[List.getElem?_cons_succ,List.getElem_cons_succ];exact⟨h1,h2⟩
def Zj0{e:Nat}{w:World}{v:Value}{l:List (Value×Value)}(h:w.ownsRow n0 e 2 v l.length (G6 l))(hl:l≠ [])(xS:Pb<n0):Lay Pb n0 w v l:=by
 rcases h.2 with⟨_,h0⟩|⟨g,cap,cur,rfl,hg,hh,hc,_⟩
 ·exact absurd (uz.1 h0) hl
 ·refine⟨g,cap,rfl,hc,Z,hg,λi hi=>?_⟩;obtain⟨h1,h2⟩:=ZF5 l i hi;exact⟨(World.ownsRow.cellAt h _ Z).trans h1,(World.ownsRow.cellAt h _ Z).trans h2⟩
def ZcW{w:World}{e n:Nat}{v:Value}(h:w.ownsRow B e size v n xs)(hK:wU Pb w w')(xS:Pb<B):w'.ownsRow B e size v n xs:=by
 refine⟨h.1,?_⟩;rcases h.2 with h0|⟨g,cap,cur,rfl,hg,hh,r⟩
 ·exact jg
 ·exact .inr ⟨g,cap,cur,rfl,hg,hK.obj Z hh,r⟩
def Zpl{w}{e n:Nat}{v:Value}(hK:wU Pb W w)(h:w.ownsRow W.heap.size e size v n xs)(hg:w.grownBy w' v.ownBlock):wU Pb W w':=
 ⟨hg.os.trans hK.os,hg.tape.trans hK.tape,hg.output.trans hK.output,om hK.size hg.size,λg wF hl=>(hg.block g (oU hl hK.size) (λe=>by have:=(h.lt g e.symm).1;omega)).trans (hK.block g wF hl)⟩
def PS.grown{k}{w}(h:PS Pb ws k w){row:Option Nat}(hg:w.grownBy w' row)(LQ:∀b,row=some b->b≠Pb/\∃v0,w.cell? ⟨b,0,none⟩=some v0/\∀n,v0≠.int .i64 n):PS Pb ws k w':=by
 obtain⟨wa,cap,h1,h2⟩:=h.obj;have hp:=hg.block Pb h.lt (λe=>(LQ Pb e.symm).1 rfl);refine⟨h.len,h.ok,h.le,⟨wa,cap,hp.trans h1,λi hi=>?_⟩,λwa' zY e=>h.Zeq wa' zY (hp.symm.trans e)⟩;obtain⟨g,e,hgP,c1,c2,c3⟩:=h2 i hi;obtain⟨g',e',_,d1,_⟩:=h2 0 Z;have hgg:g=g':=by rw[e]at e';cases e';rfl
 subst hgg;have wF:∀o,some (⟨g,o,none⟩:Addr).block≠row:=λo e=>by
  obtain⟨_,v0,hc,hv⟩:=LQ g e.symm;exact nO
 exact⟨g,e,hgP,hg.cell c1 (wF _),hg.cell c2 (wF _),hg.cell c3 (wF _)⟩
def Zqb{w:World}{e:Nat}{v:Value}{l:List (Value×Value)}(h:w.ownsRow B e 2 v l.length (G6 l))(hl:l≠ [])(hv:∀p∈l,∀n,p.1≠.int .i64 n)(xS:Pb<B):∀b,v.ownBlock=some b->b≠Pb/\∃v0,w.cell? ⟨b,0,none⟩=some v0/\∀n,v0≠.int .i64 n:=by
 intro b hb;have h1:=(h.lt b hb).1;obtain⟨g,cap,rfl,_,_,_,h5⟩:=Zj0 h hl xS;have:b=g:=by simp[Value.ownBlock]at hb;exact hb.symm
 subst this;have h0:=rW.2 hl;refine⟨Z,l[0].1,?_,hv _ (oC h0)⟩;have:=(h5 0 h0).1;exact nR
def ZmQ(w:World)(a b)(ty):∀j u, [a,b][j]? =some u->(w.alloc (.cells #[a,b] ty)).cell? ((⟨w.heap.size,0,none⟩:Addr).add j)=some u:=by
 intro j u h;have hb:=oK w (.cells #[a,b] ty);rw[oV];rcases j with _|_|j
 ·exact nL
 ·exact nL
 ·simp at h
def ZdZ(l:List (Value×Value))(t:Tr):Prop:=∀Pb n0 W,wX Pb n0 W (.vY l) t
def ZDg(Pb:Nat)(ws:List RW)(k n0 k':Nat)(x:Value)(w':World):Prop:=∃l t,l≠ []/\Lay Pb n0 w' x l/\ZdZ l t/\D items (sl ws k k') (nd {kind:= [114,111,119]} t)
def ZOn(h:hd ws k1≠some CB):vW (R items) (vX ws k1)=some (vX ws k1):=by
 cases e:vX ws k1 with
 |nil=>exact Ws items ae
 |cons u r=>rw[Zso,nU (λhu=>h aJ)]
def Zyy(h:hd ws k1=some CB):vW (R items) (vX ws k1)=(vW (P NT.item) (vX ws (k1+1))).bind (vW (R items)):=by
 rw[Ed h,Zso,nY rfl]
def ZQr(Pb)(ws)(k)(W)(hP:PS Pb ws k W)(hq:∀k' W',k<=k'->PS Pb ws k' W'->Calls prog 166 #[.pointer (some ⟨Pb,0,none⟩)] W' (AR Pb ws k' (vW (P NT.item) (vX ws k')) (ZlL ws k') W')):
  Calls prog 165 #[.pointer (some ⟨Pb,0,none⟩),.func (.func 166) #[.pointer (some ⟨Pb,0,none⟩)] #[]] W (AR Pb ws k (vW (P items) (vX ws k)) (ZDg Pb ws k W.heap.size) W):=by
 have wQ:=hP.ok;have hlen:=hP.len;have xS:=hP.lt;obtain⟨i0,zB,hz0,yo,hz2⟩:=oM Tryz.ZMD;go_enter func165,ntmps165;go_wp2_with fail;refine(hq k W (nV _) hP).mono ?_;rintro e w1 (⟨k1,x,hle,hA,rfl,⟨n,y,s,t,rfl,hD,hR⟩,wP,wZ⟩|⟨hA,b,rfl,h1,h2,h3⟩)
 ·have zF:Hid (vW (P items) (vX ws k)=vW (R items) (vX ws k1)):=by show _=_;rw[ZsD,hA,Option.bind_some]
  have HD:Hid (D items (sl ws k k1) (nd {kind:= [114,111,119]} (l1 (nd {kind:= [105,116,101,109],xZ:=s} (l1 t))))):=.Xx hD;have SF:=YW hA;rw[VJ,VJ]at SF;clear hA hD;unfold xW;have El:=wP.le;have Xc:ZdZ [(.iface n y,.string ⟨s.toArray⟩)] (l1 (nd {kind:= [105,116,101,109],xZ:=s} (l1 t))):=λ_ _ _=>.U5 (hR _ _ _) .Xz;have wD:(w1.alloc (.cells #[.iface n y,.string ⟨s.toArray⟩] 372)).ownsRow W.heap.size 372 2 (.slice (some ⟨w1.heap.size,0,none⟩) 1 1) 1 (G6 [(.iface n y,.string ⟨s.toArray⟩)]):=rU w1 #[.iface n y,.string ⟨s.toArray⟩] 1 wZ.size aj rfl;go_wp2_with fail;go_loopg [5] (ws.length-k1+1) (λgk pv wr=>∃(k1:Nat) (l:List (Value×Value)) (t:Tr),gk=ws.length-k1+1/\k1<=ws.length/\k<=k1/\l≠ []/\l.length<=k1/\(∀p∈l,∀n,p.1≠.int .i64 n)/\wr.ownsRow W.heap.size 372 2 pv l.length (G6 l)/\Hid (D items (sl ws k k1) (nd {kind:= [114,111,119]} t))/\ZdZ l t/\Hid (vW (P items) (vX ws k)=vW (R items) (vX ws k1))/\PS Pb ws k1 wr/\wU Pb W wr);case atStart=>exact⟨k1,_,_,rfl,El,hle,ae,ah,fQ,wD,HD,Xc,zF,wP.wJ (yK _),wZ.trans (wU.alloc Pb _ _)⟩
  case round=>
   obtain⟨k1,l,t,rfl,El,hle,wF,zQ,hni,wD,HD,hR,zF,wP,hK⟩:=hrel;go_wp2_with fail;refine(M0 Pb ws k1 [44] CB _ wP O).mono ?_;rintro e w2 ⟨wY,⟨hi,rfl,hP2⟩|⟨hi,rfl,hP2⟩⟩
   ·have Hi:=wN hi;clear hi;go_wp2_with fail;refine(hq (k1+1) _ Z hP2).mono ?_;rintro e w3 (⟨k3,x,hle3,za,rfl,⟨n3,y3,s3,t3,rfl,Ew,D7⟩,hP3,xP⟩|⟨za,b,rfl,h1,h2,h3⟩)
    ·unfold xW;have Gi:=ZcW wD (wY.trans xP) xS;have Nz:=hK.trans (wY.trans xP);have Xr:=hP3.le;have ZoW:=Nz.size;have QT:=Gi.alloc (.cells #[.iface n3 y3,.string ⟨s3.toArray⟩] 372);have Ze1:=hP3.wJ (yK (.cells #[.iface n3 y3,.string ⟨s3.toArray⟩] 372));have ZeV:=Nz.trans (wU.alloc Pb w3 (.cells #[.iface n3 y3,.string ⟨s3.toArray⟩] 372));have DW:Hid (vW (P items) (vX ws k)=vW (R items) (vX ws k3)):=by show _=_;rw[zF.out,Zyy Hi.out,za,Option.bind_some]
     have I1:Hid (D items (sl ws k k3) (nd {kind:= [114,111,119]} (t.snoc (nd {kind:= [105,116,101,109],xZ:=s3} (l1 t3))))):=by
      show D _ _ _;have lc:=Ae Hi.out;rw[F3 ws (show k<=k1 by omega) (show k1<=k3 by omega),zN lc Z];exact .Xw (zy Hi.out lc) HD.out Ew
     have MJ:ZdZ (l++ [(.iface n3 y3,.string ⟨s3.toArray⟩)]) (t.snoc (nd {kind:= [105,116,101,109],xZ:=s3} (l1 t3))):=λ_ _ _=>(hR _ _ _).ZMP (D7 _ _ _);have ZfE:l++ [(.iface n3 y3,.string ⟨s3.toArray⟩)]≠ []:=ae
     have ZfG:∀p∈l++ [((.iface n3 y3,.string ⟨s3.toArray⟩):Value×Value)],∀n,p.1≠.int .i64 n:=by
      intro p hp n;rcases qH.1 hp with hp|hp
      ·exact hni p hp n
      ·simp at hp;rw[hp];simp
     have LQ:=Zqb QT wF hni xS;have O1:G6 (l++ [((.iface n3 y3,.string ⟨s3.toArray⟩):Value×Value)])=G6 l++ [.iface n3 y3,.string ⟨s3.toArray⟩]:=by simp[G6]
     have HC5:=wN O1;have V5:Hid ((l++ [((.iface n3 y3,.string ⟨s3.toArray⟩):Value×Value)]).length=l.length+1):=by show _=_;simp
     clear O1 za Ew zF HD hR D7;go_wp2_with (at_builtin;go_must (refine pE _ rfl _ _ 175 rfl W.heap.size 372 i0 (.agg #[.nilIface,.string ⟨#[]⟩]) 2 32 underlying175 zB hz0 yo hz2 rfl O _ _ _ rfl QT ⟨w3.heap.size,0,none⟩ 1 1 [.iface n3 y3,.string ⟨s3.toArray⟩] rfl rfl (ZmQ _ _ _ _) au aj Z ah ?_);intro v' w5 zm xQ _);go_roundg (ws.length-k3+1);case measure=>omega
     case rel=>exact⟨k3,_,_,rfl,Xr,Z,ZfE,by rw[V5.out];omega,ZfG,by rw[V5.out,HC5.out];exact zm,I1,MJ,DW,Ze1.grown xQ LQ,Zpl ZeV QT xQ⟩
    ·have HA:Hid (vW (P items) (vX ws k)=none):=by show _=_;rw[zF.out,Zyy Hi.out,za];rfl
     exact jf
   ·have HA:Hid (vW (P items) (vX ws k)=some (vX ws k1)):=by show _=_;rw[zF.out,ZOn hi]
    have HL:=wN (Zj0 (ZcW wD wY xS) wF xS);clear hi zF;go_wp2_with fail;go_ret;exact .inl ⟨k1,_,hle,HA.out,rfl,⟨l,t,wF,HL.out,hR,HD.out⟩,hP2,hK.trans wY⟩
 ·have HA:Hid (vW (P items) (vX ws k)=none):=by show _=_;rw[ZsD,hA];rfl
  exact jc
end
section
open Go.RowKit
open T NT PK
def Zd0(l:List (Value×Value))(t:Tr):Prop:=∀Pb n0 W,wX Pb n0 W (.VB l) t
def ZDn(Pb:Nat)(ws:List RW)(k n0 k':Nat)(x:Value)(w':World):Prop:=∃l t,l≠ []/\Lay Pb n0 w' x l/\Zd0 l t/\D sources (sl ws k k') (nd {kind:= [114,111,119]} t)
def ZOp(h:hd ws k1≠some CB):vW (R sources) (vX ws k1)=some (vX ws k1):=by
 cases e:vX ws k1 with
 |nil=>exact Ws sources ae
 |cons u r=>rw[Zsq,nU (λhu=>h aJ)]
def ZyA(h:hd ws k1=some CB):vW (R sources) (vX ws k1)=(vW (P source) (vX ws (k1+1))).bind (vW (R sources)):=by
 rw[Ed h,Zsq,nY rfl]
def ZZL{p:Prop}(h:p:=by
 go_roundg (ws.length-k3+1);case measure=>omega
 case rel=>exact⟨k3,_,_,rfl,Xr,Z,ZfE,by rw[V5.out];omega,ZfG,by rw[V5.out,HC5.out];exact zm,I1,MJ,DW,Ze1.grown xQ LQ,Zpl ZeV QT xQ⟩):p:=h
def ZZM{p:Prop}(h:p:=by
 have HL:=wN (Zj0 (ZcW wD wY xS) wF xS);clear hi zF;go_wp2_with fail;go_ret;exact .inl ⟨k1,_,hle,HA.out,rfl,⟨l,t,wF,HL.out,hR,HD.out⟩,hP2,hK.trans wY⟩):p:=h
def ZZN{p:Prop}(h:p:=by
 intro p hp n;rcases qH.1 hp with hp|hp
 ·exact hni p hp n
 ·simp at hp;rw[hp];simp):p:=h
def ZQs(Pb)(ws)(k)(W)(hP:PS Pb ws k W)(hq:∀k' W',k<=k'->PS Pb ws k' W'->Calls prog 168 #[.pointer (some ⟨Pb,0,none⟩)] W' (AR Pb ws k' (vW (P source) (vX ws k')) (ZlP ws k') W')):
  Calls prog 167 #[.pointer (some ⟨Pb,0,none⟩),.func (.func 168) #[.pointer (some ⟨Pb,0,none⟩)] #[]] W (AR Pb ws k (vW (P sources) (vX ws k)) (ZDn Pb ws k W.heap.size) W):=by
 have wQ:=hP.ok;have hlen:=hP.len;have xS:=hP.lt;obtain⟨i0,zB,hz0,yo,hz2⟩:=oM Tryz.ZMH;go_enter func167,ntmps167;go_wp2_with fail;refine(hq k W (nV _) hP).mono ?_;rintro e w1 (⟨k1,x,hle,hA,rfl,⟨n,s,rfl,hD⟩,wP,wZ⟩|⟨hA,b,rfl,h1,h2,h3⟩)
 ·have zF:Hid (vW (P sources) (vX ws k)=vW (R sources) (vX ws k1)):=by show _=_;rw[ZsG,hA,Option.bind_some]
  have HD:Hid (D sources (sl ws k k1) (nd {kind:= [114,111,119]} (l1 (nd {kind:= [115,111,117,114,99,101],text:=n,xZ:=s} .nil)))):=.XY hD;have SF:=YW hA;rw[VJ,VJ]at SF;clear hA hD;unfold xW;have El:=wP.le;have Xc:Zd0 [(.string ⟨n.toArray⟩,.string ⟨s.toArray⟩)] (l1 (nd {kind:= [115,111,117,114,99,101],text:=n,xZ:=s} .nil)):=λ_ _ _=>.Vy .ZaM;have wD:(w1.alloc (.cells #[.string ⟨n.toArray⟩,.string ⟨s.toArray⟩] 322)).ownsRow W.heap.size 322 2 (.slice (some ⟨w1.heap.size,0,none⟩) 1 1) 1 (G6 [(.string ⟨n.toArray⟩,.string ⟨s.toArray⟩)]):=rU w1 #[.string ⟨n.toArray⟩,.string ⟨s.toArray⟩] 1 wZ.size aj rfl;go_wp2_with fail;go_loopg [5] (ws.length-k1+1) (λgk pv wr=>∃(k1:Nat) (l:List (Value×Value)) (t:Tr),gk=ws.length-k1+1/\k1<=ws.length/\k<=k1/\l≠ []/\l.length<=k1/\(∀p∈l,∀n,p.1≠.int .i64 n)/\wr.ownsRow W.heap.size 322 2 pv l.length (G6 l)/\Hid (D sources (sl ws k k1) (nd {kind:= [114,111,119]} t))/\Zd0 l t/\Hid (vW (P sources) (vX ws k)=vW (R sources) (vX ws k1))/\PS Pb ws k1 wr/\wU Pb W wr);case atStart=>exact⟨k1,_,_,rfl,El,hle,ae,ah,fQ,wD,HD,Xc,zF,wP.wJ (yK _),wZ.trans (wU.alloc Pb _ _)⟩
  case round=>
   obtain⟨k1,l,t,rfl,El,hle,wF,zQ,hni,wD,HD,hR,zF,wP,hK⟩:=hrel;go_wp2_with fail;refine(M0 Pb ws k1 [44] CB _ wP O).mono ?_;rintro e w2 ⟨wY,⟨hi,rfl,hP2⟩|⟨hi,rfl,hP2⟩⟩
   ·have Hi:=wN hi;clear hi;go_wp2_with fail;refine(hq (k1+1) _ Z hP2).mono ?_;rintro e w3 (⟨k3,x,hle3,za,rfl,⟨n3,s3,rfl,Ew⟩,hP3,xP⟩|⟨za,b,rfl,h1,h2,h3⟩)
    ·unfold xW;have Gi:=ZcW wD (wY.trans xP) xS;have Nz:=hK.trans (wY.trans xP);have Xr:=hP3.le;have ZoW:=Nz.size;have QT:=Gi.alloc (.cells #[.string ⟨n3.toArray⟩,.string ⟨s3.toArray⟩] 322);have Ze1:=hP3.wJ (yK (.cells #[.string ⟨n3.toArray⟩,.string ⟨s3.toArray⟩] 322));have ZeV:=Nz.trans (wU.alloc Pb w3 (.cells #[.string ⟨n3.toArray⟩,.string ⟨s3.toArray⟩] 322));have DW:Hid (vW (P sources) (vX ws k)=vW (R sources) (vX ws k3)):=by show _=_;rw[zF.out,ZyA Hi.out,za,Option.bind_some]
     have I1:Hid (D sources (sl ws k k3) (nd {kind:= [114,111,119]} (t.snoc (nd {kind:= [115,111,117,114,99,101],text:=n3,xZ:=s3} .nil)))):=by
      show D _ _ _;have lc:=Ae Hi.out;rw[F3 ws (show k<=k1 by omega) (show k1<=k3 by omega),zN lc Z];exact .XX (zy Hi.out lc) HD.out Ew
     have MJ:Zd0 (l++ [(.string ⟨n3.toArray⟩,.string ⟨s3.toArray⟩)]) (t.snoc (nd {kind:= [115,111,117,114,99,101],text:=n3,xZ:=s3} .nil)):=λ_ _ _=>(hR _ _ _).ZSM;have ZfE:l++ [(.string ⟨n3.toArray⟩,.string ⟨s3.toArray⟩)]≠ []:=ae
     have ZfG:∀p∈l++ [((.string ⟨n3.toArray⟩,.string ⟨s3.toArray⟩):Value×Value)],∀n,p.1≠.int .i64 n:=by
      exact ZZN
     have LQ:=Zqb QT wF hni xS;have O1:G6 (l++ [((.string ⟨n3.toArray⟩,.string ⟨s3.toArray⟩):Value×Value)])=G6 l++ [.string ⟨n3.toArray⟩,.string ⟨s3.toArray⟩]:=by simp[G6]
     have HC5:=wN O1;have V5:Hid ((l++ [((.string ⟨n3.toArray⟩,.string ⟨s3.toArray⟩):Value×Value)]).length=l.length+1):=by show _=_;simp
     clear O1 za Ew zF HD hR;go_wp2_with (at_builtin;go_must (refine pE _ rfl _ _ 176 rfl W.heap.size 322 i0 (.agg #[.string ⟨#[]⟩,.string ⟨#[]⟩]) 2 32 underlying176 zB hz0 yo hz2 rfl O _ _ _ rfl QT ⟨w3.heap.size,0,none⟩ 1 1 [.string ⟨n3.toArray⟩,.string ⟨s3.toArray⟩] rfl rfl (ZmQ _ _ _ _) au aj Z ah ?_);intro v' w5 zm xQ _);exact ZZL
    ·have HA:Hid (vW (P sources) (vX ws k)=none):=by show _=_;rw[zF.out,ZyA Hi.out,za];rfl
     exact jf
   ·have HA:Hid (vW (P sources) (vX ws k)=some (vX ws k1)):=by show _=_;rw[zF.out,ZOp hi]
    exact ZZM
 ·have HA:Hid (vW (P sources) (vX ws k)=none):=by show _=_;rw[ZsG,hA];rfl
  exact jc
def ZdY(l:List (Value×Value))(t:Tr):Prop:=∀Pb n0 W,wX Pb n0 W (.cls l) t
def ZBy(Pb:Nat)(ws:List RW)(k n0 k':Nat)(x:Value)(w':World):Prop:=∃l t,l≠ []/\Lay Pb n0 w' x l/\ZdY l t/\D yw (sl ws k k') (nd {kind:= [114,111,119]} t)
def ZOo(h:hd ws k1≠some CB):vW (R yw) (vX ws k1)=some (vX ws k1):=by
 cases e:vX ws k1 with
 |nil=>exact Ws yw ae
 |cons u r=>rw[Zsl,nU (λhu=>h aJ)]
def Zyz(h:hd ws k1=some CB):vW (R yw) (vX ws k1)=(vW (P column) (vX ws (k1+1))).bind (vW (R yw)):=by
 rw[Ed h,Zsl,nY rfl]
def ZQq(Pb)(ws)(k)(W)(hP:PS Pb ws k W)(hq:∀k' W',k<=k'->PS Pb ws k' W'->Calls prog 171 #[.pointer (some ⟨Pb,0,none⟩)] W' (AR Pb ws k' (vW (P column) (vX ws k')) (Zg4 ws k') W')):
  Calls prog 170 #[.pointer (some ⟨Pb,0,none⟩),.func (.func 171) #[.pointer (some ⟨Pb,0,none⟩)] #[]] W (AR Pb ws k (vW (P yw) (vX ws k)) (ZBy Pb ws k W.heap.size) W):=by
 have wQ:=hP.ok;have hlen:=hP.len;have xS:=hP.lt;obtain⟨i0,zB,hz0,yo,hz2⟩:=oM Tryz.ZMy;go_enter func170,ntmps170;go_wp2_with fail;refine(hq k W (nV _) hP).mono ?_;rintro e w1 (⟨k1,x,hle,hA,rfl,⟨n,s,rfl,hD⟩,wP,wZ⟩|⟨hA,b,rfl,h1,h2,h3⟩)
 ·have zF:Hid (vW (P yw) (vX ws k)=vW (R yw) (vX ws k1)):=by show _=_;rw[Zsy,hA,Option.bind_some]
  have HD:Hid (D yw (sl ws k k1) (nd {kind:= [114,111,119]} (l1 (nd {kind:= [99,111,108,117,109,110],wW:=n,text:=s} .nil)))):=.Wx hD;have SF:=YW hA;rw[VJ,VJ]at SF;clear hA hD;unfold xW;have El:=wP.le;have Xc:ZdY [(.string ⟨n.toArray⟩,.string ⟨s.toArray⟩)] (l1 (nd {kind:= [99,111,108,117,109,110],wW:=n,text:=s} .nil)):=λ_ _ _=>.Uo .WI;have wD:(w1.alloc (.cells #[.string ⟨n.toArray⟩,.string ⟨s.toArray⟩] 365)).ownsRow W.heap.size 365 2 (.slice (some ⟨w1.heap.size,0,none⟩) 1 1) 1 (G6 [(.string ⟨n.toArray⟩,.string ⟨s.toArray⟩)]):=rU w1 #[.string ⟨n.toArray⟩,.string ⟨s.toArray⟩] 1 wZ.size aj rfl;go_wp2_with fail;go_loopg [5] (ws.length-k1+1) (λgk pv wr=>∃(k1:Nat) (l:List (Value×Value)) (t:Tr),gk=ws.length-k1+1/\k1<=ws.length/\k<=k1/\l≠ []/\l.length<=k1/\(∀p∈l,∀n,p.1≠.int .i64 n)/\wr.ownsRow W.heap.size 365 2 pv l.length (G6 l)/\Hid (D yw (sl ws k k1) (nd {kind:= [114,111,119]} t))/\ZdY l t/\Hid (vW (P yw) (vX ws k)=vW (R yw) (vX ws k1))/\PS Pb ws k1 wr/\wU Pb W wr);case atStart=>exact⟨k1,_,_,rfl,El,hle,ae,ah,fQ,wD,HD,Xc,zF,wP.wJ (yK _),wZ.trans (wU.alloc Pb _ _)⟩
  case round=>
   obtain⟨k1,l,t,rfl,El,hle,wF,zQ,hni,wD,HD,hR,zF,wP,hK⟩:=hrel;go_wp2_with fail;refine(M0 Pb ws k1 [44] CB _ wP O).mono ?_;rintro e w2 ⟨wY,⟨hi,rfl,hP2⟩|⟨hi,rfl,hP2⟩⟩
   ·have Hi:=wN hi;clear hi;go_wp2_with fail;refine(hq (k1+1) _ Z hP2).mono ?_;rintro e w3 (⟨k3,x,hle3,za,rfl,⟨n3,s3,rfl,Ew⟩,hP3,xP⟩|⟨za,b,rfl,h1,h2,h3⟩)
    ·unfold xW;have Gi:=ZcW wD (wY.trans xP) xS;have Nz:=hK.trans (wY.trans xP);have Xr:=hP3.le;have ZoW:=Nz.size;have QT:=Gi.alloc (.cells #[.string ⟨n3.toArray⟩,.string ⟨s3.toArray⟩] 365);have Ze1:=hP3.wJ (yK (.cells #[.string ⟨n3.toArray⟩,.string ⟨s3.toArray⟩] 365));have ZeV:=Nz.trans (wU.alloc Pb w3 (.cells #[.string ⟨n3.toArray⟩,.string ⟨s3.toArray⟩] 365));have DW:Hid (vW (P yw) (vX ws k)=vW (R yw) (vX ws k3)):=by show _=_;rw[zF.out,Zyz Hi.out,za,Option.bind_some]
     have I1:Hid (D yw (sl ws k k3) (nd {kind:= [114,111,119]} (t.snoc (nd {kind:= [99,111,108,117,109,110],wW:=n3,text:=s3} .nil)))):=by
      show D _ _ _;have lc:=Ae Hi.out;rw[F3 ws (show k<=k1 by omega) (show k1<=k3 by omega),zN lc Z];exact .Ww (zy Hi.out lc) HD.out Ew
     have MJ:ZdY (l++ [(.string ⟨n3.toArray⟩,.string ⟨s3.toArray⟩)]) (t.snoc (nd {kind:= [99,111,108,117,109,110],wW:=n3,text:=s3} .nil)):=λ_ _ _=>(hR _ _ _).ZGE;have ZfE:l++ [(.string ⟨n3.toArray⟩,.string ⟨s3.toArray⟩)]≠ []:=ae
     have ZfG:∀p∈l++ [((.string ⟨n3.toArray⟩,.string ⟨s3.toArray⟩):Value×Value)],∀n,p.1≠.int .i64 n:=by
      exact ZZN
     have LQ:=Zqb QT wF hni xS;have O1:G6 (l++ [((.string ⟨n3.toArray⟩,.string ⟨s3.toArray⟩):Value×Value)])=G6 l++ [.string ⟨n3.toArray⟩,.string ⟨s3.toArray⟩]:=by simp[G6]
     have HC5:=wN O1;have V5:Hid ((l++ [((.string ⟨n3.toArray⟩,.string ⟨s3.toArray⟩):Value×Value)]).length=l.length+1):=by show _=_;simp
     clear O1 za Ew zF HD hR;go_wp2_with (at_builtin;go_must (refine pE _ rfl _ _ 179 rfl W.heap.size 365 i0 (.agg #[.string ⟨#[]⟩,.string ⟨#[]⟩]) 2 32 underlying179 zB hz0 yo hz2 rfl O _ _ _ rfl QT ⟨w3.heap.size,0,none⟩ 1 1 [.string ⟨n3.toArray⟩,.string ⟨s3.toArray⟩] rfl rfl (ZmQ _ _ _ _) au aj Z ah ?_);intro v' w5 zm xQ _);exact ZZL
    ·have HA:Hid (vW (P yw) (vX ws k)=none):=by show _=_;rw[zF.out,Zyz Hi.out,za];rfl
     exact jf
   ·have HA:Hid (vW (P yw) (vX ws k)=some (vX ws k1)):=by show _=_;rw[zF.out,ZOo hi]
    exact ZZM
 ·have HA:Hid (vW (P yw) (vX ws k)=none):=by show _=_;rw[Zsy,hA];rfl
  exact jc
end
section
open Go.RowKit
open T NT PK
def Zd3(ws:List RW)(k:Nat)(t:T)(b:Bool)(k2:Nat):Prop:=b=true/\hd ws k=some t/\k2=k+1\/b=false/\hd ws k≠some t/\k2=k
def Zgo(Pb)(ws)(k)(s)(t)(W)(hP:PS Pb ws k W)(hs:X4 s t=true):
  Calls prog 115 #[.pointer (some ⟨Pb,0,none⟩),.string ⟨s.toArray⟩] W λe w'=>∃b k2,e= .returned (.bool b)/\Hid (Zd3 ws k t b k2)/\PS Pb ws k2 w'/\wU Pb W w':=by
 refine(M0 Pb ws k s t W hP hs).mono ?_;rintro e w1 ⟨hK,⟨hf,rfl,wP⟩|⟨hf,rfl,wP⟩⟩
 ·exact⟨true,k+1,rfl,.inl ⟨rfl,hf,rfl⟩,wP,hK⟩
 ·exact⟨false,k,rfl,.inr ⟨rfl,hf,rfl⟩,wP,hK⟩
structure Ef (Pb:Nat) (ws:List RW) (W:World) (k:Nat) (w:World) (b:Bool) (i f x g h:Value):Prop where
 ps:PS Pb ws k w
 kp:wU Pb W w
 ob:w.heap[W.heap.size]? =some (.cells #[.bool b,i,f,x,g,h] 181)
def Ef.wJ{k}{w}{b}{i f x g h}(hs:Ef Pb ws W k w b i f x g h)(hK:wU Pb w w')(hP:PS Pb ws k' w')(xS:Pb<W.heap.size):Ef Pb ws W k' w' b i f x g h:=
 ⟨hP,hs.kp.trans hK,hK.obj Z hs.ob⟩
def Ef.cells{k}{w}{b}{i f x g h}(hs:Ef Pb ws W k w b i f x g h):w.cell? ⟨W.heap.size,0,none⟩=some (.bool b)/\w.cell? ⟨W.heap.size,1,none⟩=some i/\w.cell? ⟨W.heap.size,2,none⟩=some f/\w.cell? ⟨W.heap.size,3,none⟩=some x/\w.cell? ⟨W.heap.size,4,none⟩=some g/\w.cell? ⟨W.heap.size,5,none⟩=some h/\(∀o,w.frozen? ⟨W.heap.size,o,none⟩=false):=by
 have ho:=hs.ob;exact⟨bU,bU,bU,bU,bU,bU,λo=>by simp only[World.frozen?,ho];rfl⟩
def Ef.Pz{k}{w}{b}{i f x g h}(hs:Ef Pb ws W k w b i f x g h)(xS:Pb<W.heap.size)(o)(v):PS Pb ws k (w.setCell ⟨W.heap.size,o,none⟩ v)/\wU Pb W (w.setCell ⟨W.heap.size,o,none⟩ v):=
 hs.ps.own hs.kp (nV _) xS hs.cells.1 aU o v
def Ef.ZSs{k}{w}{b}{i f x g h}(hs:Ef Pb ws W k w b i f x g h)(xS:Pb<W.heap.size)(c):Ef Pb ws W k (w.setCell ⟨W.heap.size,0,none⟩ (.bool c)) c i f x g h:=
 ⟨(hs.Pz xS 0 _).1,(hs.Pz xS 0 _).2,WR hs.ob⟩
def Ef.ZSu{k}{w}{b}{i f x g h}(hs:Ef Pb ws W k w b i f x g h)(xS:Pb<W.heap.size)(v):Ef Pb ws W k (w.setCell ⟨W.heap.size,1,none⟩ v) b v f x g h:=
 ⟨(hs.Pz xS 1 _).1,(hs.Pz xS 1 _).2,WR hs.ob⟩
def Ef.ZSv{k}{w}{b}{i f x g h}(hs:Ef Pb ws W k w b i f x g h)(xS:Pb<W.heap.size)(v):Ef Pb ws W k (w.setCell ⟨W.heap.size,2,none⟩ v) b i v x g h:=
 ⟨(hs.Pz xS 2 _).1,(hs.Pz xS 2 _).2,WR hs.ob⟩
def Ef.ZSx{k}{w}{b}{i f x g h}(hs:Ef Pb ws W k w b i f x g h)(xS:Pb<W.heap.size)(v):Ef Pb ws W k (w.setCell ⟨W.heap.size,3,none⟩ v) b i f v g h:=
 ⟨(hs.Pz xS 3 _).1,(hs.Pz xS 3 _).2,WR hs.ob⟩
def Ef.ZSy{k}{w}{b}{i f x g h}(hs:Ef Pb ws W k w b i f x g h)(xS:Pb<W.heap.size)(v):Ef Pb ws W k (w.setCell ⟨W.heap.size,4,none⟩ v) b i f x v h:=
 ⟨(hs.Pz xS 4 _).1,(hs.Pz xS 4 _).2,WR hs.ob⟩
def Ef.ZSz{k}{w}{b}{i f x g h}(hs:Ef Pb ws W k w b i f x g h)(xS:Pb<W.heap.size)(v):Ef Pb ws W k (w.setCell ⟨W.heap.size,5,none⟩ v) b i f x g v:=
 ⟨(hs.Pz xS 5 _).1,(hs.Pz xS 5 _).2,WR hs.ob⟩
def Lay.wJ{x}{l}(h:Lay Pb n0 W x l)(hK:wU Pb W W'):Lay Pb n0 W' x l:=h.same λg o v _ hg hc=>hK.cell hg hc
def Lay.Jq{x}{l}(h:Lay Pb n0 W x l){b:Nat}(hb:b<n0)(o)(v):Lay Pb n0 (W.setCell ⟨b,o,none⟩ v) x l:=
 h.same λg o' v' hg _ hc=>(World.cell?_setCell_far W ⟨b,o,none⟩ ⟨g,o',none⟩ v (λe=>by have:b=g:=e;omega)).trans hc
def Zbh(Pb n0:Nat)(w:World)(c:Bool)(i:Value)(t:Tr):Prop:=∃is,(c=true/\i= .slice none 0 0/\is= []\/c=false/\is≠ []/\Lay Pb n0 w i is)/\ZdZ is t
def Zbn(Pb n0:Nat)(w:World)(f:Value)(t:Tr):Prop:=∃fs,fs≠ []/\Lay Pb n0 w f fs/\Zd0 fs t
def Zdn(Pb n0:Nat)(w:World)(g:Value)(t:Tr):Prop:=∃gs,(g= .slice none 0 0/\gs= []\/gs≠ []/\Lay Pb n0 w g gs)/\ZdY gs t
def Np(Pb n0:Nat)(w:World)(x:Value)(t:Tr):Prop:=x= .nilIface/\t= .nil\/wX Pb n0 w (.v x) t
def Zbh.same{w}{c}{i}{t}(h:Zbh Pb n0 w c i t)(hL:∀x l,Lay Pb n0 w x l->Lay Pb n0 w' x l):Zbh Pb n0 w' c i t:=by
 obtain⟨is,h1,h2⟩:=h;exact⟨is,h1.imp id (λ⟨a,b,c⟩=>⟨a,b,hL _ _ c⟩),h2⟩
def Zbn.same{w}{i}{t}(h:Zbn Pb n0 w i t)(hL:∀x l,Lay Pb n0 w x l->Lay Pb n0 w' x l):Zbn Pb n0 w' i t:=by
 obtain⟨is,h1,h2,h3⟩:=h;exact⟨is,h1,hL _ _ h2,h3⟩
def Zdn.same{w}{i}{t}(h:Zdn Pb n0 w i t)(hL:∀x l,Lay Pb n0 w x l->Lay Pb n0 w' x l):Zdn Pb n0 w' i t:=by
 obtain⟨is,h1,h2⟩:=h;exact⟨is,h1.imp id (λ⟨a,b⟩=>⟨a,hL _ _ b⟩),h2⟩
theorem Np.wJ{w}{i}{t}(h:Np Pb n0 w i t)(hK:wU Pb w w'):Np Pb n0 w' i t:=h.imp id (λr=>r.wJ hK)
theorem Np.Jq{w}{i}{t}(h:Np Pb n0 w i t){b:Nat}(hb:b<n0)(o)(v):Np Pb n0 (w.setCell ⟨b,o,none⟩ v) i t:=h.imp id (λr=>r.Jq hb o v)
def Np.parts{w}{x}{t}(h:Np Pb n0 w x t):(x= .nilIface/\t= .nil\/x≠.nilIface/\t.isNode=true)/\(x≠.nilIface->wX Pb n0 w (.v x) t):=by
 rcases h with⟨rfl,rfl⟩|h
 ·exact⟨.inl ⟨rfl,rfl⟩,λe=>absurd rfl e⟩
 ·obtain⟨n,y,rfl⟩:=h.iface;exact⟨.inr ⟨ae,h.node⟩,λ_=>h⟩
def Zqi{w}{b:Bool}{c}{i f x g h}{tg th}(h1:Zbh Pb n0 w c i ti)(h2:Zbn Pb n0 w f tf)(h3:Zdn Pb n0 w g tg)(h4:Np Pb n0 w x tw)(h5:Np Pb n0 w h th):
  wX Pb n0 w (.v (.iface 181 (.agg #[.bool b,i,f,x,g,h]))) (Ma c b ti (Dn tf tg tw th)):=by
 obtain⟨is,a1,a2⟩:=h1;obtain⟨fs,b1,b2,b3⟩:=h2;obtain⟨gs,c1,c2⟩:=h3;exact wX.select a1 ⟨b1,b2⟩ c1 (a2 _ _ _) (b3 _ _ _) (c2 _ _ _) h4.parts.1 h5.parts.1 h4.parts.2 h5.parts.2
def ZkJ(ws:List RW)(k6 k':Nat)(g h:Tr):Prop:=k'=k6/\hd ws k6≠some group/\g= .nil/\h= .nil\/hd ws k6=some group/\hd ws (k6+1)=some FT/\k6+2<=k'/\D Dj (sl ws (k6+2) k') (Dn .nil g .nil h)
def ZTL{a}{g h}(hD:D sources (sl ws a k5) (nd {kind:= [114,111,119]} tf))(ha:a<=k5)(hB:ZkJ ws k5 k' g h):D tail (sl ws a k') (Dn tf g .nil h):=by
 rcases hB with⟨rfl,_,rfl,rfl⟩|⟨h1,h2,h3,h4⟩
 ·exact .X8 hD
 ·have l1:=Ae h1;have l2:=Ae h2;rw[F3 ws ha (show k5<=k' by omega),zN l1 Z,zN l2 Z];exact .X7 (zy h1 l1) (zy h2 l2) hD h4
def ZTM{a k6}{g h}(hD:D sources (sl ws a k5) (nd {kind:= [114,111,119]} tf))(ha:a<=k5)(hw:hd ws k5=some Ee)(hC:D xR (sl ws (k5+1) k6) tw)(hk:k5+1<=k6)(hB:ZkJ ws k6 k' g h):D tail (sl ws a k') (Dn tf g tw h):=by
 have l1:=Ae hw;rcases hB with⟨rfl,_,rfl,rfl⟩|⟨h1,h2,h3,h4⟩
 ·rw[F3 ws ha (show k5<=k' by omega),zN l1 Z];exact .VG (zy hw l1) hD (.Wo hC)
 ·have l2:=Ae h1;have l3:=Ae h2;rw[F3 ws ha (show k5<=k' by omega),zN l1 Z,F3 ws hk (show k6<=k' by omega),zN l2 Z,zN l3 Z];exact .VG (zy hw l1) hD (.Wq (zy h1 l2) (zy h2 l3) hC h4)
def ZGA{k:Nat}{b}(h0:hd ws k=some yO)(h1:Zd3 ws (k+1) BB b k1)(h2:hd ws k1=some T.star)(h3:hd ws (k1+1)=some BN)(hle:k1+2<=k')(hT:D tail (sl ws (k1+2) k') tt):D core (sl ws k k') (Ma true b .nil tt):=by
 have l0:=Ae h0;have l2:=Ae h2;have l3:=Ae h3;rcases h1 with⟨rfl,h1,rfl⟩|⟨rfl,h1,rfl⟩
 ·have l1:=Ae h1;rw[zN l0 Z,zN l1 Z,zN l2 Z,zN l3 Z];exact .WC (zy h0 l0) (zy h1 l1) (zy h2 l2) (zy h3 l3) hT
 ·rw[zN l0 Z,zN l2 Z,zN l3 Z];exact .WB (zy h0 l0) (zy h2 l2) (zy h3 l3) hT
def ZGz{k:Nat}{k3}{b}(h0:hd ws k=some yO)(h1:Zd3 ws (k+1) BB b k1)(hI:D items (sl ws k1 k3) (nd {kind:= [114,111,119]} ti))(h13:k1<=k3)(h3:hd ws k3=some BN)(hle:k3+1<=k')(hT:D tail (sl ws (k3+1) k') tt):D core (sl ws k k') (Ma false b ti tt):=by
 have l0:=Ae h0;have l3:=Ae h3;rcases h1 with⟨rfl,h1,rfl⟩|⟨rfl,h1,rfl⟩
 ·have l1:=Ae h1;rw[zN l0 Z,zN l1 Z,F3 ws h13 Z,zN l3 Z];exact .WA (zy h0 l0) (zy h1 l1) (zy h3 l3) hI hT
 ·rw[zN l0 Z,F3 ws h13 Z,zN l3 Z];exact .Wz (zy h0 l0) (zy h3 l3) hI hT
def ZSp{k:Nat}{b}(h0:hd ws k=some yO)(h1:Zd3 ws (k+1) BB b k1)(h2:hd ws k1=some T.star):vW (P core) (vX ws k)=(xU BN (vX ws (k1+1))).bind (vW (P tail)):=by
 rw[Ed h0,ZsA];have e:skip BB (vX ws (k+1))=vX ws k1:=by
  rcases h1 with⟨_,h,rfl⟩|⟨_,h,rfl⟩
  ·exact Zqo h
  ·exact Zqn h
 rw[e,Ed h2];rfl
def ZSm{k:Nat}{b}(h0:hd ws k=some yO)(h1:Zd3 ws (k+1) BB b k1)(h2:hd ws k1≠some T.star):vW (P core) (vX ws k)=(vW (P items) (vX ws k1)).bind λr=>(xU BN r).bind (vW (P tail)):=by
 rw[Ed h0,ZsA];have e:skip BB (vX ws (k+1))=vX ws k1:=by
  rcases h1 with⟨_,h,rfl⟩|⟨_,h,rfl⟩
  ·exact Zqo h
  ·exact Zqn h
 rw[e];have e2:Zqh (vX ws k1)=vW (P items) (vX ws k1):=by
  cases e:vX ws k1 with
  |nil=>rfl
  |cons u r=>
   have hu:u≠T.star:=λhu=>h2 aJ;cases u<;>first|rfl|exact absurd rfl hu
 rw[e2]
def ZTK{k:Nat}(h:hd ws k=some Ee):Zky (vX ws k)=(vW (P xR) (vX ws (k+1))).bind Ue:=by
 rw[Ed h];show vW (P after) _=_;rw[ZDW]
def ZTJ{k:Nat}(h:hd ws k≠some Ee):Zky (vX ws k)=Ue (vX ws k):=by
 cases e:vX ws k with
 |nil=>rfl
 |cons u r=>
  have hu:u≠Ee:=λhu=>h aJ;cases u<;>first|rfl|exact absurd rfl hu
def ZDM{k:Nat}(h:hd ws k≠some group):Ue (vX ws k)=some (vX ws k):=by
 cases e:vX ws k with
 |nil=>rfl
 |cons u r=>
  have hu:u≠group:=λhu=>h aJ;cases u<;>first|rfl|exact absurd rfl hu
def ZDL{k:Nat}(h:hd ws k=some group):Ue (vX ws k)=(xU FT (vX ws (k+1))).bind λr=>(vW (P yw) r).bind Za:=by
 rw[Ed h];show(xU FT _).bind (vW (P Dj))=_;exact bind_congr λx _=>ZEc x
def ZID{k:Nat}(h:hd ws k=some Fj):Za (vX ws k)=vW (P xR) (vX ws (k+1)):=by
 rw[Ed h];rfl
def ZIE{k:Nat}(h:hd ws k≠some Fj):Za (vX ws k)=some (vX ws k):=by
 cases e:vX ws k with
 |nil=>rfl
 |cons u r=>
  have hu:u≠Fj:=λhu=>h aJ;cases u<;>first|rfl|exact absurd rfl hu
end
section
open Go.RowKit
open T NT PK
def ZGy{k:Nat}(h1:hd ws k≠some lp)(h2:hd ws k≠some yO):vW (P core) (vX ws k)=none:=by
 cases e:vX ws k with
 |nil=>exact ZD3
 |cons u r=>exact ZD4 (λh=>h1 (by rw[GR e,h])) (λh=>h2 (by rw[GR e,h]))
def St3(Pb:Nat)(ws:List RW)(k:Nat)(W:World)(b:Bool)(wx:World):Prop:=∃k3 c i ti,k<k3/\Ef Pb ws W k3 wx b i (.slice none 0 0) .nilIface (.slice none 0 0) .nilIface/\Zbh Pb (W.heap.size+1) wx c i ti/\Hid (vW (P core) (vX ws k)=(xU BN (vX ws k3)).bind (vW (P tail)))/\
 Hid (∀k' tt,hd ws k3=some BN->k3+1<=k'->D tail (sl ws (k3+1) k') tt->D core (sl ws k k') (Ma c b ti tt))
def St6(Pb:Nat)(ws:List RW)(k:Nat)(W:World)(b:Bool)(wx:World):Prop:=∃k6 c i f x ti tf tw,k<k6/\Ef Pb ws W k6 wx b i f x (.slice none 0 0) .nilIface/\Zbh Pb (W.heap.size+1) wx c i ti/\Zbn Pb (W.heap.size+1) wx f tf/\Np Pb (W.heap.size+1) wx x tw/\Hid (vW (P core) (vX ws k)=Ue (vX ws k6))/\
 Hid (∀k' g h,ZkJ ws k6 k' g h->D core (sl ws k k') (Ma c b ti (Dn tf g tw h)))
def ZQI(Pb)(ws)(k)(W)(hP:PS Pb ws k W)(hlp:hd ws k≠some lp)(he:F9 Pb ws 233 expr (k+1))(hc:CX Pb ws 169 xR (k+1)):
  Calls prog 113 #[.pointer (some ⟨Pb,0,none⟩)] W (AR Pb ws k (vW (P core) (vX ws k)) (Part Pb ws core k W.heap.size) W):=by
 have BD:∀(fn:Fn) (first cap:Array Value) (w:World),(Instr.makeFunc fn first cap).run prog w= .ok (.func fn first cap) w:=λ_ _ _ _=>rfl;have xS:=hP.lt;have Hlp:=wN hlp;clear hlp;have hS0:Ef Pb ws W k (W.alloc (.cells #[.bool false,.slice none 0 0,.slice none 0 0,.nilIface,.slice none 0 0,.nilIface] 181)) false (.slice none 0 0) (.slice none 0 0) .nilIface (.slice none 0 0) .nilIface:=⟨hP.wJ (yK _),wU.alloc Pb _ _,oK W _⟩;go_enter func113,ntmps113;go_wp2_with fail;generalize W.alloc (.cells #[.bool false,.slice none 0 0,.slice none 0 0,.nilIface,.slice none 0 0,.nilIface] 181)=w0 at hS0 ⊢;refine(Vq Pb ws k [115,101,108,101,99,116] yO _ hS0.ps O).mono ?_;rintro e w1 (⟨hs,rfl,wP,wZ⟩|⟨hs,bb,rfl,h1,h2,h3⟩)
 ·have Hs:=wN hs;clear hs;have Xd:=hS0.wJ wZ wP xS;go_wp2_with fail;refine(Zgo Pb ws (k+1) [100,105,115,116,105,110,99,116] BB _ wP O).mono ?_;rintro e w2 ⟨b,k1,rfl,Hb,hP2,wY⟩;have Zx:=Xd.wJ wY hP2 xS;have ZXl:k<k1:=by rcases Hb.out with⟨_,_,h⟩|⟨_,_,h⟩<;>omega
  obtain⟨c0,c1,c2,c3,c4,c5,cf⟩:=Zx.cells;have cf0:=cf 0;have Xe:=Zx.ZSs xS b;go_wp2_with fail;generalize w2.setCell ⟨W.heap.size,0,none⟩ (.bool b)=w3 at Xe ⊢;clear c0 c1 c2 c3 c4 c5 cf cf0;refine(Zgo Pb ws k1 [42] T.star _ Xe.ps O).mono ?_;rintro e w4 ⟨b2,k2,rfl,Hb2,Am,zt⟩;have hS4:=Xe.wJ zt Am xS;go_upto_if 11 with fail
  go_cut [] (λwx=>St3 Pb ws k W b wx);case first=>
   rcases Hb2.out with⟨rfl,yI,rfl⟩|⟨rfl,yI,rfl⟩
   ·go_wp2_with fail;go_meet;case rel=>exact⟨k1+1,true,_,.nil,Z,hS4,⟨[],.inl ⟨rfl,rfl,rfl⟩,λ_ _ _=>.Xz⟩,ZSp Hs.out Hb.out yI,λk' tt hf hle hT=>ZGA Hs.out Hb.out yI hf hle hT⟩
   ·have xC:=wN (ZSm Hs.out Hb.out yI);clear yI;go_wp2_with fail;refine(ZQr Pb ws k2 _ Am (λk' W' BP Ze2=>ZQp Pb ws k' W' Ze2 (he.mono Z))).mono ?_;rintro e w5 (⟨k3,x,hle,hA,rfl,⟨l,t,wF,hL,hR,hD⟩,Du,AO⟩|⟨hA,bb,rfl,h1,h2,h3⟩)
    ·have HA:Hid (vW (P core) (vX ws k)=(xU BN (vX ws k3)).bind (vW (P tail))):=by show _=_;rw[xC.out,hA,Option.bind_some]
     have HD:=wN hD;have Zy:=hS4.wJ AO Du xS;have yA:W.heap.size+1<=w4.heap.size:=(wo hS4.ob);have Zn:=hL.low yA;obtain⟨c0,c1,c2,c3,c4,c5,cf⟩:=Zy.cells;have cf1:=cf 1;have hS6:=Zy.ZSu xS x;have Zo:=Zn.Jq (qx _) 1 x;obtain⟨g,cap,hx,_⟩:=hL;subst hx;clear hA xC hD;go_wp2_with fail;go_meet;case rel=>exact⟨k3,false,_,t,Z,hS6,⟨l,.inr ⟨rfl,wF,Zo⟩,hR⟩,HA,λk' tt hf ZKW hT=>ZGz Hs.out Hb.out HD.out hle hf ZKW hT⟩
    ·have HA:Hid (vW (P core) (vX ws k)=none):=by show _=_;rw[xC.out,hA];rfl
     clear hA xC;go_wp2;exact⟨rfl,.inr ⟨HA.out,bb,rfl,h1,h2,hS4.kp.trans h3⟩⟩
  case rest=>
   obtain⟨k3,c,i,ti,NM,Zy,hI,TF,HD3⟩:=hcut;clear hS4 Xe Zx Xd hS0 zt wY wZ Am hP2 wP Hb Hb2;go_wp2_with fail;refine(Vq Pb ws k3 [102,114,111,109] BN _ Zy.ps O).mono ?_;rintro e w6 (⟨hf,rfl,UF,UD⟩|⟨hf,bb,rfl,h1,h2,h3⟩)
   ·have Hf:=wN hf;have Nc:Hid (vW (P core) (vX ws k)=vW (P tail) (vX ws (k3+1))):=by show _=_;rw[TF.out,KM hf,Option.bind_some]
    clear hf TF;have hS6:=Zy.wJ UD UF xS;have hI6:=hI.same (λx l h=>h.wJ UD);go_wp2_with fail;refine(ZQs Pb ws (k3+1) _ UF (λk' W' BP Ze2=>ZQJ Pb ws k' W' Ze2)).mono ?_;rintro e w7 (⟨k5,x,hle,hA,rfl,⟨l,tf,wF,hL,hR,hD⟩,hP7,hK7⟩|⟨hA,bb,rfl,h1,h2,h3⟩)
    ·have DW:Hid (vW (P core) (vX ws k)=Zky (vX ws k5)):=by show _=_;rw[Nc.out,ZsH,hA,Option.bind_some]
     have I1:=wN hD;have hS7:=hS6.wJ hK7 hP7 xS;have yA:W.heap.size+1<=w6.heap.size:=(wo hS6.ob);have hI7:=(hI6.same (λx l h=>h.wJ hK7)).same (λy l h=>h.Jq (qx _) 2 x);have hF7:Zbn Pb (W.heap.size+1) (w7.setCell ⟨W.heap.size,2,none⟩ x) x tf:=⟨l,wF,(hL.low yA).Jq (qx _) 2 x,hR⟩;obtain⟨c0,c1,c2,c3,c4,c5,cf⟩:=hS7.cells;have cf2:=cf 2;have hS8:=hS7.ZSv xS x;obtain⟨g,cap,hx,_⟩:=hL;subst hx;clear hA Nc hD hI hI6 Zy hS6 hR;go_wp2_with fail;generalize w7.setCell ⟨W.heap.size,2,none⟩ (.slice (some ⟨g,0,none⟩) l.length cap)=w8 at hS8 hI7 hF7 ⊢;generalize Value.slice (some ⟨g,0,none⟩) l.length cap=fv at hS8 hF7;clear c0 c1 c2 c3 c4 c5 cf cf2 hS7 hK7 hP7;refine(Zgo Pb ws k5 [119,104,101,114,101] Ee _ hS8.ps O).mono ?_;rintro e w9 ⟨b3,k5',rfl,Hb3,UG,Sw⟩;have OX:=hS8.wJ Sw UG xS;have Zk:=hI7.same (λx l h=>h.wJ Sw);have Lr:=hF7.same (λx l h=>h.wJ Sw);go_upto_if 25 with fail
     go_cut [] (λwx=>St6 Pb ws k W b wx);case first=>
      rcases Hb3.out with⟨rfl,hw,rfl⟩|⟨rfl,hw,rfl⟩
      ·have Hw:=wN hw;have HA6:Hid (vW (P core) (vX ws k)=(vW (P xR) (vX ws (k5+1))).bind Ue):=by show _=_;rw[DW.out,ZTK hw]
       clear hw DW;go_wp2_with fail;refine(hc (k5+1) _ Z UG).mono ?_;rintro e FJ (⟨k6,x,ZKX,hA,rfl,⟨tw,hD,hR⟩,ZiF,UC⟩|⟨hA,bb,rfl,h1,h2,h3⟩)
       ·obtain⟨n,y,rfl⟩:=hR.iface;have HA7:Hid (vW (P core) (vX ws k)=Ue (vX ws k6)):=by show _=_;rw[HA6.out,hA,Option.bind_some]
        have HD7:=wN hD;clear hA HA6 hD;have Zv:=OX.wJ UC ZiF xS;have ZLT:W.heap.size+1<=w9.heap.size:=(wo OX.ob);have ZiB:=(Zk.same (λx l h=>h.wJ UC)).same (λx l h=>h.Jq (qx _) 3 (.iface n y));have Ziz:=(Lr.same (λx l h=>h.wJ UC)).same (λx l h=>h.Jq (qx _) 3 (.iface n y));have ZiM:Np Pb (W.heap.size+1) (FJ.setCell ⟨W.heap.size,3,none⟩ (.iface n y)) (.iface n y) tw:=.inr ((hR.low ZLT).Jq (qx _) 3 _);obtain⟨c0,c1,c2,c3,c4,c5,cf⟩:=Zv.cells;have cf3:=cf 3;have Ze5:=Zv.ZSx xS (.iface n y);go_wp2_with fail;go_meet;case rel=>exact⟨k6,c,i,fv,_,ti,tf,tw,Z,Ze5,ZiB,Ziz,ZiM,HA7,λk' g h hB=>HD3.out k' _ Hf.out iq (ZTM I1.out Z Hw.out HD7.out ZKX hB)⟩
       ·have HA:Hid (vW (P core) (vX ws k)=none):=by show _=_;rw[HA6.out,hA];rfl
        clear hA HA6;go_wp2;exact⟨rfl,.inr ⟨HA.out,bb,rfl,h1,h2,OX.kp.trans h3⟩⟩
      ·have HA7:Hid (vW (P core) (vX ws k)=Ue (vX ws k5')):=by show _=_;rw[DW.out,ZTJ hw]
       clear hw DW;go_wp2_with fail;go_meet;case rel=>exact⟨k5',c,i,fv,.nilIface,ti,tf,.nil,Z,OX,Zk,Lr,.inl ⟨rfl,rfl⟩,HA7,λk' g h hB=>HD3.out k' _ Hf.out iq (ZTL I1.out Z hB)⟩
     case rest=>
      clear OX Zk Lr hS8 hI7 hF7 Sw UG DW I1 HD3 UD UF;obtain⟨k6,c,i,f,x,ti,tf,tw,QG,hS,hI,hF,hW,HA,HD⟩:=hcut;go_wp2_with fail;refine(Zgo Pb ws k6 [103,114,111,117,112] group _ hS.ps O).mono ?_;rintro e w9 ⟨b4,k6',rfl,Hb4,UG,Sw⟩;have OX:=hS.wJ Sw UG xS;have Zk:=hI.same (λx l h=>h.wJ Sw);have Lr:=hF.same (λx l h=>h.wJ Sw);have hW9:=hW.wJ Sw;clear hS hI hF hW Sw;rcases Hb4.out with⟨rfl,hg,rfl⟩|⟨rfl,hg,rfl⟩
      ·have Hg:=wN hg;have zF:Hid (vW (P core) (vX ws k)=(xU FT (vX ws (k6+1))).bind λr=>(vW (P yw) r).bind Za):=by show _=_;rw[HA.out,ZDL hg]
       clear hg HA Hb4;go_wp2_with fail;refine(Vq Pb ws (k6+1) [98,121] FT _ UG O).mono ?_;rintro e FJ (⟨hb,rfl,ZiF,UC⟩|⟨hb,bb,rfl,h1,h2,h3⟩)
       ·have Hby:=wN hb;have IZ:Hid (vW (P core) (vX ws k)=(vW (P yw) (vX ws (k6+2))).bind Za):=by show _=_;rw[zF.out,KM hb,Option.bind_some]
        clear hb zF;have Zv:=OX.wJ UC ZiF xS;have ZiB:=Zk.same (λx l h=>h.wJ UC);have Ziz:=Lr.same (λx l h=>h.wJ UC);have ZiM:=hW9.wJ UC;clear OX Zk Lr hW9 UC;go_wp2_with fail;refine(ZQq Pb ws (k6+2) _ ZiF (λk' W' BP Ze2=>ZzD Pb ws k' W' Ze2)).mono ?_;rintro e CU (⟨k7,gv,ZXn,hA,rfl,⟨l,tg,wF,hL,hR,hD⟩,Xb,ZeW⟩|⟨hA,bb,rfl,h1,h2,h3⟩)
        ·have TF:Hid (vW (P core) (vX ws k)=Za (vX ws k7)):=by show _=_;rw[IZ.out,hA,Option.bind_some]
         have HD7:=wN hD;have yA:W.heap.size+1<=FJ.heap.size:=(wo Zv.ob);have Ze5:=Zv.wJ ZeW Xb xS;have Zni:=(ZiB.same (λx l h=>h.wJ ZeW)).same (λx l h=>h.Jq (qx _) 4 gv);have Jc:=(Ziz.same (λx l h=>h.wJ ZeW)).same (λx l h=>h.Jq (qx _) 4 gv);have ZnB:=(ZiM.wJ ZeW).Jq (qx _) 4 gv;have UA:Zdn Pb (W.heap.size+1) (CU.setCell ⟨W.heap.size,4,none⟩ gv) gv tg:=⟨l,.inr ⟨wF,(hL.low yA).Jq (qx _) 4 gv⟩,hR⟩;obtain⟨c0,c1,c2,c3,c4,c5,cf⟩:=Ze5.cells;have cf4:=cf 4;have Ze6:=Ze5.ZSy xS gv;obtain⟨gg,cap,hx,_⟩:=hL;subst hx;clear hA IZ hD hR Zv ZiB Ziz ZiM;go_wp2_with fail;generalize CU.setCell ⟨W.heap.size,4,none⟩ (.slice (some ⟨gg,0,none⟩) l.length cap)=JU at Ze6 Zni Jc ZnB UA ⊢;generalize Value.slice (some ⟨gg,0,none⟩) l.length cap=gv at Ze6 UA;clear c0 c1 c2 c3 c4 c5 cf cf4 Ze5 ZeW Xb;refine(Zgo Pb ws k7 [104,97,118,105,110,103] Fj _ Ze6.ps O).mono ?_;rintro e Tu ⟨b5,k7',rfl,Hb5,Zvm,Zb1⟩;have Zw:=Ze6.wJ Zb1 Zvm xS;have Znj:=Zni.same (λx l h=>h.wJ Zb1);have Znb:=Jc.same (λx l h=>h.wJ Zb1);have ZnC:=ZnB.wJ Zb1;have Znf:=UA.same (λx l h=>h.wJ Zb1);clear Ze6 Zni Jc ZnB UA Zb1;rcases Hb5.out with⟨rfl,hh,rfl⟩|⟨rfl,hh,rfl⟩
         ·have Hh:=wN hh;have Nc:Hid (vW (P core) (vX ws k)=vW (P xR) (vX ws (k7+1))):=by show _=_;rw[TF.out,ZID hh]
          clear hh TF Hb5;go_wp2_with fail;refine(hc (k7+1) _ Z Zvm).mono ?_;rintro e w14 (⟨k8,hv,ZXo,hA,rfl,⟨th,hD,hR⟩,ZJx,ZeX⟩|⟨hA,bb,rfl,h1,h2,h3⟩)
          ·obtain⟨n,y,rfl⟩:=hR.iface;have DW:=wN (Nc.out.trans hA);have ZLS:W.heap.size+1<=Tu.heap.size:=(wo Zw.ob);have Zvs:=Zw.wJ ZeX ZJx xS;have ZJj:=(Znj.same (λx l h=>h.wJ ZeX)).same (λx l h=>h.Jq (qx _) 5 (.iface n y));have ZJa:=(Znb.same (λx l h=>h.wJ ZeX)).same (λx l h=>h.Jq (qx _) 5 (.iface n y));have ZJE:=(ZnC.wJ ZeX).Jq (qx _) 5 (.iface n y);have ZJc:=(Znf.same (λx l h=>h.wJ ZeX)).same (λx l h=>h.Jq (qx _) 5 (.iface n y));have ZJi:Np Pb (W.heap.size+1) (w14.setCell ⟨W.heap.size,5,none⟩ (.iface n y)) (.iface n y) th:=.inr ((hR.low ZLS).Jq (qx _) 5 _);have TI:=wN (HD.out k8 tg th (.inr ⟨Hg.out,Hby.out,Z,by
            have l7:=Ae Hh.out;rw[F3 ws (show k6+2<=k7 by omega) (show k7<=k8 by omega),zN l7 Z];exact .WO (zy Hh.out l7) HD7.out hD⟩))
           obtain⟨c0,c1,c2,c3,c4,c5,cf⟩:=Zvs.cells;have cf5:=cf 5;have Zvt:=Zvs.ZSz xS (.iface n y);clear hA Nc hD hR Zw Znj Znb ZnC Znf;go_wp2_with fail;go_ret;exact .inl ⟨k8,_,Z,DW.out,rfl,⟨_,TI.out,(Zqi ZJj ZJa ZJc ZJE ZJi).low Z⟩,Zvt.ps,Zvt.kp⟩
          ·have DW:=wN (Nc.out.trans hA);clear hA Nc;go_wp2;exact⟨rfl,.inr ⟨DW.out,bb,rfl,h1,h2,Zw.kp.trans h3⟩⟩
         ·have Nc:Hid (vW (P core) (vX ws k)=some (vX ws k7')):=by show _=_;rw[TF.out,ZIE hh]
          have TI:=wN (HD.out k7' tg .nil (.inr ⟨Hg.out,Hby.out,Z,.WN HD7.out⟩));obtain⟨c0,c1,c2,c3,c4,c5,cf⟩:=Zw.cells;clear hh TF Hb5;go_wp2_with fail;go_ret;exact .inl ⟨k7',_,Z,Nc.out,rfl,⟨_,TI.out,(Zqi Znj Znb Znf ZnC (.inl ⟨rfl,rfl⟩)).low Z⟩,Zw.ps,Zw.kp⟩
        ·have DW:Hid (vW (P core) (vX ws k)=none):=by show _=_;rw[IZ.out,hA];rfl
         clear hA IZ;go_wp2;exact⟨rfl,.inr ⟨DW.out,bb,rfl,h1,h2,Zv.kp.trans h3⟩⟩
       ·have DW:Hid (vW (P core) (vX ws k)=none):=by show _=_;rw[zF.out,Mw hb];rfl
        clear hb zF;go_wp2;exact⟨rfl,.inr ⟨DW.out,bb,rfl,h1,h2,OX.kp.trans h3⟩⟩
      ·have Nc:Hid (vW (P core) (vX ws k)=some (vX ws k6')):=by show _=_;rw[HA.out,ZDM hg]
       have TI:=wN (HD.out k6' .nil .nil (.inl ⟨rfl,hg,rfl,rfl⟩));obtain⟨c0,c1,c2,c3,c4,c5,cf⟩:=OX.cells;clear hg HA Hb4;go_wp2_with fail;go_ret;exact .inl ⟨k6',_,Z,Nc.out,rfl,⟨_,TI.out,(Zqi Zk Lr ⟨[],.inl ⟨rfl,rfl⟩,λ_ _ _=>.WI⟩ hW9 (.inl ⟨rfl,rfl⟩)).low Z⟩,OX.ps,OX.kp⟩
    ·have HA:Hid (vW (P core) (vX ws k)=none):=by show _=_;rw[Nc.out,ZsH,hA];rfl
     clear hA Nc;go_wp2;exact⟨rfl,.inr ⟨HA.out,bb,rfl,h1,h2,hS6.kp.trans h3⟩⟩
   ·have HA:Hid (vW (P core) (vX ws k)=none):=by show _=_;rw[TF.out,Mw hf];rfl
    clear hf TF;go_wp2;exact⟨rfl,.inr ⟨HA.out,bb,rfl,h1,h2,Zy.kp.trans h3⟩⟩
 ·have HA:=wN (ZGy Hlp.out hs);clear hs;go_wp2;exact⟨rfl,.inr ⟨HA.out,bb,rfl,h1,h2,hS0.kp.trans h3⟩⟩
def ZQi(Pb)(ws)(k)(W)(hP:PS Pb ws k W)(hq:CX Pb ws 43 query (k+1))(he:F9 Pb ws 233 expr (k+1))(hc:CX Pb ws 169 xR (k+1)):
  Calls prog 70 #[.pointer (some ⟨Pb,0,none⟩)] W (AR Pb ws k (vW (P core) (vX ws k)) (Part Pb ws core k W.heap.size) W):=by
 have BD:∀(fn:Fn) (first cap:Array Value) (w:World),(Instr.makeFunc fn first cap).run prog w= .ok (.func fn first cap) w:=λ_ _ _ _=>rfl;have wQ:=hP.ok;go_enter func70,ntmps70;go_wp2_with fail;refine(Zkc Pb ws k W.heap.size 1 [[40]] _ (hP.wJ (yK _)) (Tq W [[40]]) ae).mono ?_;rintro e w4 ⟨rfl,xw⟩;have Am:=(hP.wJ (yK _)).wJ xw;have zt:=(wU.alloc Pb _ _).trans (wU.of Pb xw);rw[Iu (s:= [40]) (t:=lp) O wQ];by_cases ho:hd ws k=some lp
 ·have xC:Hid (vW (P core) (vX ws k)=vW (round query) (vX ws k)):=by show _=_;rw[Ed ho,ZD2]
  rw[su ho];clear ho;go_wp2_with fail;refine(Zzq Pb ws k _ Am hq).mono ?_;rintro e w5 (⟨k',x,hle,hA,rfl,hQ,Du,AO⟩|⟨hA,b,rfl,h1,h2,h3⟩)
  ·obtain⟨o,c,a,t2,e1,e2,e3,e4,e5⟩:=hQ.split;obtain⟨n2,y2,rfl⟩:=e5.iface;have HA:=wN (xC.out.trans hA);have HQ:Hid (Part Pb ws core k W.heap.size k' (.iface n2 y2) w5):=by
    refine⟨_,?_,e5.low zt.size⟩;rw[e3];exact .Wy e1 e2 e4
   exact iY
  ·exact kX
 ·have Ho:Hid (hd ws k≠some lp):=ho;rw[qd ho];clear ho;go_wp2_with fail;refine(ZQI Pb ws k _ Am Ho.out he hc).mono ?_;rintro e w6 (⟨k',x,hle,hA,rfl,⟨t,hD,hR⟩,UF,UD⟩|⟨hA,b,rfl,h1,h2,h3⟩)
  ·obtain⟨n2,y2,rfl⟩:=hR.iface;have HA:=wN hA;clear hA;go_wp2_with fail;go_ret;exact .inl ⟨k',_,hle,HA.out,rfl,⟨t,hD,hR.low zt.size⟩,UF,zt.trans UD⟩
  ·have HA:=wN hA;clear hA;go_wp2;exact⟨rfl,.inr ⟨HA.out,b,rfl,h1,h2,zt.trans h3⟩⟩
structure Zdl (Pb:Nat) (ws:List RW) (k:Nat):Prop where
 query:CX Pb ws 43 NT.query k
 core:CX Pb ws 70 NT.core k
 cond:CX Pb ws 169 NT.xR k
 yM:CX Pb ws 237 NT.yM k
 neg:CX Pb ws 290 NT.neg k
 basic:CX Pb ws 344 NT.basic k
 expr:F9 Pb ws 233 NT.expr k
 term:F9 Pb ws 288 NT.term k
 yh:F9 Pb ws 343 NT.yh k
def Zc7{f}{nt}{k:Nat}(h:CX Pb ws f nt (k+1))(h0:∀W,PS Pb ws k W->Calls prog f #[.pointer (some ⟨Pb,0,none⟩)] W (AR Pb ws k (vW (P nt) (vX ws k)) (Part Pb ws nt k W.heap.size) W)):CX Pb ws f nt k:=λj W hj hP=>by
 by_cases e:j=k
 ·subst e;exact h0 W hP
 ·exact h j W Z hP
def Zp3{f}{nt}{k:Nat}(h:F9 Pb ws f nt (k+1))(h0:∀W,PS Pb ws k W->Calls prog f #[.pointer (some ⟨Pb,0,none⟩)] W (AR Pb ws k (vW (P nt) (vX ws k)) (KC ws nt k) W)):F9 Pb ws f nt k:=λj W hj hP=>by
 by_cases e:j=k
 ·subst e;exact h0 W hP
 ·exact h j W Z hP
def ZDV{k:Nat}(h:Zdl Pb ws (k+1)):Zdl Pb ws k:=by
 have f:=Zp3 h.yh (λW hP=>ZQl Pb ws k W hP h.yh h.expr);have t:=Zp3 h.term (λW hP=>ZQK Pb ws k W hP f);have e:=Zp3 h.expr (λW hP=>ZQk Pb ws k W hP t);have b:=Zc7 h.basic (λW hP=>ZP7 Pb ws k W hP e.rds h.cond h.query);have n:=Zc7 h.neg (λW hP=>ZQw Pb ws k W hP h.neg b);have j:=Zc7 h.yM (λW hP=>ZQh Pb ws k W hP n);have c:=Zc7 h.cond (λW hP=>ZQe Pb ws k W hP j);have o:=Zc7 h.core (λW hP=>ZQi Pb ws k W hP h.query h.expr h.cond);have q:=Zc7 h.query (λW hP=>ZQA Pb ws k W hP o);exact⟨q,o,c,j,n,b,e,t,f⟩
def ZDT{k:Nat}(h:ws.length<k):Zdl Pb ws k:=by
 have no:∀j W,k<=j->PS Pb ws j W->False:=λj W hj hP=>by have:=hP.le;omega
 exact⟨λj W hj hP=>(no j W hj hP).elim,λj W hj hP=>(no j W hj hP).elim,λj W hj hP=>(no j W hj hP).elim,λj W hj hP=>(no j W hj hP).elim,λj W hj hP=>(no j W hj hP).elim,λj W hj hP=>(no j W hj hP).elim,λj W hj hP=>(no j W hj hP).elim,λj W hj hP=>(no j W hj hP).elim,λj W hj hP=>(no j W hj hP).elim⟩
def ZDU(Pb)(ws):Zdl Pb ws 0:=by
 have h:∀n,Zdl Pb ws (ws.length+1-n):=by
  intro n;induction n with
  |zero=>exact ZDT Z
  |succ n ih=>
   by_cases hn:n<ws.length+1
   ·rw[show ws.length+1-n=(ws.length+1-(n+1))+1 from Z]at ih;exact ZDV ih
   ·rw[show ws.length+1-(n+1)=ws.length+1-n from Z];exact ih
 have:=h (ws.length+1);rwa [tC]at this
end
section
open Go.RowKit
open T NT PK
def ZDk(W:World):Except Nat (List RW)->Ending->World->Prop
 | .error n,e,w'=>Yg W.heap.size 2 n W e w'
 | .ok l,e,w'=>(¬vW (P query) (l.map wI)=some []/\Yg W.heap.size 3 0 W e w')\/(vW (P query) (l.map wI)=some []/\deep l=true/\Yg W.heap.size 4 0 W e w')\/(vW (P query) (l.map wI)=some []/\deep l=false/\vV W w'/\∃Pb n y t,e= .returned (.iface n y)/\D query l t/\wX Pb W.heap.size w' (.v (.iface n y)) t)
theorem Zzz:∀l i (h:i<l.length),(Oo l)[i*3]? =some (.int .i64 (Be l[i]))/\(Oo l)[i*3+1]? =some (.string ⟨(Cn l[i]).toArray⟩)/\(Oo l)[i*3+2]? =some (FZ l[i])
 |w::l,0,h=>by simp[Oo,Zki]
 |w::l,i+1,h=>by
  have ih:=Zzz l i ay;have e:∀j,(Oo (w::l))[j+3]? =(Oo l)[j]? :=λj=>by simp[Oo,Zki]
  rw[show(i+1)*3=i*3+3 from Z,show i*3+3+1=i*3+1+3 from Z,show i*3+3+2=i*3+2+3 from Z,e,e,e];simpa using ih
def ZPS{v:Value}{l:List RW}(h:W.ownsRow B 128 3 v l.length (Oo l)):∃a cap,v= .slice a l.length cap/\l.length<=cap/\Zbk W.heap.size W a l:=by
 rcases h.2 with⟨rfl,h0⟩|⟨g,cap,cur,rfl,_,hh,hc,_⟩
 ·exact⟨none,0,bB,Z,λi hi=>Z⟩
 ·have hlt:=(wo hh);refine⟨_,cap,rfl,hc,λi hi=>⟨g,rfl,Z,?_⟩⟩;obtain⟨e1,e2,e3⟩:=Zzz l i hi;have h1:=h.cells (g:=g) rfl _ _ e1;have h2:=h.cells (g:=g) rfl _ _ e2;have h3:=h.cells (g:=g) rfl _ _ e3;rw[oV,o9]at h1 h2 h3;exact⟨h1,h2,h3⟩
def ZQ7{a}{l}(hw:Zbk W.heap.size W a l)(hc:l.length<=cap)(wQ:∀w∈l,EU w)(hl:l.length<=400):PS W.heap.size l 0 (W.alloc (.cells #[.slice a l.length cap,.int .i64 0] 124)):=by
 have hn:=oK W (.cells #[.slice a l.length cap,.int .i64 0] 124);refine⟨hl,wQ,pI _,⟨a,cap,hn,λi hi=>?_⟩,λa' zY e=>?_⟩
 ·obtain⟨g,e,hg,c1,c2,c3⟩:=hw i hi;have hk:=wU.alloc W.heap.size W (.cells #[.slice a l.length cap,.int .i64 0] 124);exact⟨g,e,hg,hk.cell hg c1,hk.cell hg c2,hk.cell hg c3⟩
 ·rw[hn]at e;simp at e;omega
def ZsY{w}(h:Below n0 W w)(hK:wU Pb w w')(hP:n0<=Pb)(hn:n0<=w.heap.size):Below n0 W w':=
 ⟨hK.os.trans h.os,hK.tape.trans h.tape,hK.output.trans h.output,om h.size hK.size,λg hg=>(hK.block g Z Z).trans (h.block g hg)⟩
def ZsU{w}{e}(h:Below n0 W w)(hP:n0<=Pb)(hn:n0<=w.heap.size)(hb:FK Pb w e w'):Yg n0 3 0 W e w':=by
 obtain⟨b,h1,h2,h3,h4⟩:=hb;exact⟨b,h1,h2,h3,ZsY h h4 hP hn⟩
theorem PS.slice{k}(h:PS Pb ws k W):∃wa cap,W.cell? ⟨Pb,0,none⟩=some (.slice wa ws.length cap)/\Zbk Pb W wa ws:=by
 obtain⟨wa,cap,h1,_,_,h4⟩:=h.cells;exact⟨wa,cap,h1,h4⟩
def Zzk(s)(W)(hs:s.length<=90000)(hE:Lh W)(Fg:I5 W):
  Calls prog 21 #[.string ⟨s.toArray⟩] W (ZDk W (Ic s)):=by
 have hrd:=λw hE Fg=>ZUz s w hs hE Fg;have ET:Hid (∀l,Ic s= .ok l->(∀w∈l,EU w)/\l.length<=400):=λl h=>by
  obtain⟨h1,h2,h3⟩:=ZRN h;exact⟨h1,Z⟩
 generalize Ic s=R at ET hrd ⊢;go_enter func21,ntmps21;go_wp2_with fail;refine(hrd _ hE Fg).mono ?_;cases R with
 |error n=>
  rintro e w1 ⟨b,rfl,h1,h2,h3⟩;go_wp2;exact⟨rfl,b,rfl,h1,h2,h3⟩
 |ok l=>
  rintro e w1 ⟨v,rfl,wD,wE⟩;obtain⟨wQ,hlen⟩:=ET.out l rfl;obtain⟨a,cap,rfl,O3,hw⟩:=ZPS wD;have hP0:=ZQ7 hw O3 wQ hlen;have yA:=wE.size;have yx:vV W (w1.alloc (.cells #[.slice a l.length cap,.int .i64 0] 124)):=wE.alloc yA _;clear hrd ET wD hw;generalize xS:w1.heap.size=Pb at hP0 yA;go_wp2_with fail;generalize w1.alloc (.cells #[.slice a l.length cap,.int .i64 0] 124)=w2 at hP0 yx ⊢;have Pp:=yx.size;refine((ZDU Pb l).query 0 w2 (nV _) hP0).mono ?_;rintro e w3 (⟨k,x,_,hA,rfl,⟨t,hD,hR⟩,hP3,xP⟩|⟨hA,hb⟩)
  ·obtain⟨n,y,rfl⟩:=hR.iface;have HA:=wN hA;have HD:=wN hD;clear hA hD;have wH:=ZsY yx xP yA Pp;go_wp2_with fail;refine(Zgn Pb l k _ hP3).mono ?_;rintro e w4 ⟨rfl,xw⟩;have Am:=hP3.wJ xw;have ZbN:=wH.trans (xw.mono wH.size);unfold L9;have f0:=λw=>ZmM (DU l k) ⟨(EN l k).toArray⟩ (Jo l k) (Vi l k) w;by_cases hk:k<l.length
   ·have wF:(DU l k==0)=false:=by
     have:DU l k≠0:=by
      rw[(Zas hk).1];unfold Be;split
      ·decide
      ·split<;>decide
     exact nR
    have HN:Hid (¬vW (P query) (l.map wI)=some []):=λhG=>by
     have h1:=hG;have h2:vW (P query) (vX l 0)=some []:=h1;rw[HA.out]at h2;have h3:=congrArg List.length (oN h2);rw[VJ]at h3;simp at h3;omega
    go_wp2_with fail;refine(ZpD Pb _).mono ?_;rintro e w5 hb;obtain⟨b,rfl,h1,h2,h3⟩:=ZsU ZbN yA ZbN.size hb;exact j4
   ·have zl:k=l.length:=by have:=hP3.le;omega
    have he:(DU l k==0)=true:=by rw[(Zat hk).1];rfl
    have HG:Hid (vW (P query) (l.map wI)=some []):=by
     have h2:=HA.out;rw[ZqG hk]at h2;exact h2
    have FL:Hid (D query l t):=by
     have h2:=HD.out;rw[zl,ZSH]at h2;exact h2
    obtain⟨wa,zY,c0,hw'⟩:=Am.slice;have hR4:=(hR.low Pp).wJ (wU.of Pb xw);clear hk zl HA HD;go_wp2_with fail;refine(ZQd l Pb wa zY _ hw' wQ hlen).mono ?_;rintro e w5 (⟨hd,rfl,yl⟩|⟨hd,hb⟩)
    ·have Hd:=wN hd;clear hd;go_wp2_with fail;go_ret;exact .inr (.inr ⟨HG.out,Hd.out,ZbN.trans (yl.mono ZbN.size),Pb,n,y,t,rfl,FL.out,hR4.wJ (wU.of Pb yl)⟩)
    ·have Hd:=wN hd;clear hd;obtain⟨b,rfl,h1,h2,h3⟩:=hb;go_wp2;exact⟨rfl,.inr (.inl ⟨HG.out,Hd.out,b,rfl,h1,h2,ZbN.trans (h3.mono ZbN.size)⟩)⟩
  ·have HN:Hid (¬vW (P query) (l.map wI)=some []):=λhG=>by
    have h1:=hG;have h2:vW (P query) (vX l 0)=some []:=h1;rw[hA]at h2;cases h2
   clear hA;obtain⟨b,rfl,h1,h2,h3⟩:=ZsU yx yA Pp hb;exact j4
end
end Go.Proofs.YtncnkiabjhhclaaGreatDoor
