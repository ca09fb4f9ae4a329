import Derived.Conc.LoneSelect
import Derived.RowKitTokens
import Derived.Test.YtncnkiabjhhclaaGreatDoorBgJa02
import Derived.Test.YtncnkiabjhhclaaGreatDoorBgShelf
set_option maxRecDepth 100000
set_option maxHeartbeats 8000000
set_option linter.all false
namespace Go.Proofs.YtncnkiabjhhclaaGreatDoor
open Go.Proofs.Tryz
variable{ms:Array (String×TypeId)}{buf:Array Value}{tm:Bool}{cap m:Nat}{ti tn:TypeId}{z:Value}{wr:World}{rest:vS}
def kC{p:Prop}(h:p:=by go_wp2;go_ret;exact⟨rfl,rfl⟩):p:=h
def oM:=@Go.info_parts
def pV:=@Go.World.ownsRow_nil
def nW:=@Go.RowKit.Below.refl
def pE:=@Go.wpList_append_own
def rq:=@Go.cell_one_new
def jX{p:Prop}(h:p:=by go_enter func29,ntmps29;go_wp2;exact⟨rfl,rfl,rfl⟩):p:=h
def af{p:Prop}(h:p:=by kernel_rfl):p:=h
def qO:=@Go.leaves_cons
def aR{p:Prop}(h:p:=by simp[go_sem]):p:=h
def rT:=@Go.World.cell?_setCell_same'
def gN{p:Prop}(h:p:=by simp[results,Tryz.results13,go_sem,FX]):p:=h
def pg:=@Go.Sem.run_bind
def qF:=@Go.run_callFunc_extern
def oD:=@Go.World.cell?_alloc_lt
def sW:=@Go.World.frozen?_alloc_old
def pU:=@Go.run_underlying
def sZ:=@Go.run_typeAssert_lacksB
def oH:=@Go.World.block_lt_of_cell?
section
open Go.RowKit
def PE{a b:Bool}(h:a=b):Ending.returned (.bool a)= .returned (.bool b):=by rw[h]
def ZaB{k:IntKind}{a b:Int}(h:a=b):Ending.returned (.int k a)= .returned (.int k b):=by rw[h]
def VL{k:IntKind}{a b:Int}(h:a=b):Value.int k a= .int k b:=by rw[h]
end
section
open Go.RowKit
def Li(c:UInt8):Bool:=yT.contains c
def Ms(c:UInt8):Bool:=(Iq++yT).contains c
def Mr(c:UInt8):Bool:=c != 10
def ZhL{p:UInt8->Bool}(h:(List.range 256).all (λn=>p (UInt8.ofNat n))=true)(c):p c=true:=by
 have h1:=pR.1 h c.toNat (by simp;exact c.toNat_lt);rwa [UInt8.ofNat_toNat]at h1
def ZsZ(c):Li c=decide (48<=(c.toNat:Int)/\(c.toNat:Int)<=57):=by
 have:=ZhL (p:=λc=>Li c==decide (48<=(c.toNat:Int)/\(c.toNat:Int)<=57)) bG c;exact nR
def ZEU(c):Ms c=decide ((48<=(c.toNat:Int)/\(c.toNat:Int)<=57)\/(97<=(c.toNat:Int)/\(c.toNat:Int)<=122)\/(65<=(c.toNat:Int)/\(c.toNat:Int)<=90)\/(c.toNat:Int)=95):=by
 have:=ZhL (p:=λc=>Ms c==decide ((48<=(c.toNat:Int)/\(c.toNat:Int)<=57)\/(97<=(c.toNat:Int)/\(c.toNat:Int)<=122)\/(65<=(c.toNat:Int)/\(c.toNat:Int)<=90)\/(c.toNat:Int)=95)) bG c;exact nR
def ZEM(c):Mr c=((c.toNat:Int) != 10):=by
 have:=ZhL (p:=λc=>Mr c==((c.toNat:Int) != 10)) bG c;exact nR
theorem ZhP(p):∀(s:vS),(∀j,(h:j<s.length)->p s[j]=true)->(s.takeWhile p).length=s.length
 | [],_=>rfl
 |c::s,h=>by
  have h0:=h 0 ae;simp only[List.getElem_cons_zero]at h0;rw[qB,h0,nY rfl,List.length_cons,ZhP p s (λj hj=>gL),List.length_cons]
theorem ZhQ(p):∀(s:vS) k (hk:k<s.length),(∀j,j<k->(h':j<s.length)->p s[j]=true)->p s[k]=false->(s.takeWhile p).length=k
 |c::s,0,_,_,h0=>by
  simp only[List.getElem_cons_zero]at h0;rw[qB,h0];rfl
 |c::s,k+1,hk,h,h0=>by
  have h1:=h 0 Z ae;simp only[List.getElem_cons_zero]at h1;simp only[List.getElem_cons_succ]at h0;rw[qB,h1,nY rfl,List.length_cons,ZhQ p s k bH (λj hj hl=>by have:=h (j+1) Z ah;simpa using this) h0]
def ZZj{p:Prop}(h:p:=by
 rw[p9];simp only[oL,r9,oJ,si,iff_true,true_iff,rF,iff_false,false_iff];omega):p:=h
def ZqR(c)(w):
  Calls prog 105 #[.int .u8 c.toNat] w λe w'=>e= .returned (.bool (Li c))/\w=w':=by
 have H:Hid _:=ZsZ c;go_enter func105,ntmps105;go_wp2;all_goals
  go_ret;refine⟨PE ?_,rfl⟩;rw[H.out];exact ZZj
def ZA8(c)(w):
  Calls prog 104 #[.int .u8 c.toNat] w λe w'=>e= .returned (.bool (Mr c))/\w=w':=by
 go_enter func104,ntmps104;go_wp2;go_ret;exact⟨PE (ZEM c).symm,rfl⟩
def ZA9(c)(w):
  Calls prog 107 #[.int .u8 c.toNat] w λe w'=>e= .returned (.bool (Ms c))/\w=w':=by
 have H:Hid _:=ZEU c;have H2:Hid _:=ZsZ c;go_enter func107,ntmps107;go_wp2_with fail;refine(ZqR c _).mono ?_;rintro e w' ⟨rfl,rfl⟩;cases hd:Li c;all_goals
  have HD:Hid _:=hd;clear hd;go_wp2
 all_goals
  go_ret;refine⟨PE ?_,rfl⟩;have hd:=HD.out;rw[H2.out]at hd;rw[H.out];first|(rw[qZ]at hd)|(rw[oL]at hd)
  exact ZZj
def ZZi{p:Prop}(h:p:=by
 go_wp2;refine⟨⟨k+1,Z,ak,?_⟩,aT⟩;intro j hj hl;by_cases LD:j=k
 ·subst LD;exact hc
 ·exact hn.out j Z hl):p:=h
def ZUI(s:vS)(w)(hs:s.length<=90000):
  Calls prog 103 #[.string ⟨s.toArray⟩,.func (.func 105) #[] #[]] w λe w'=>e= .returned (.int .i64 (s.takeWhile Li).length)/\w=w':=by
 go_enter func103,ntmps103;go_wp2;go_loop [5] (λn=>∃k:Nat,k<=s.length/\n= .int .i64 k/\Hid (∀j,j<k->(h:j<s.length)->Li s[j]=true)) (λn=>s.length-(intOf n).toNat);case atStart=>exact⟨0,pI _,rfl,dL⟩
 case round=>
  obtain⟨k,hk,rfl,hn⟩:=hrel;by_cases hlt:k<s.length
  ·have yA:k<(ByteArray.mk s.toArray).size:=hlt;go_wp2_with fail;refine(ZqR ((ByteArray.mk s.toArray)[k]'yA) _).mono ?_;rintro e w' ⟨rfl,rfl⟩;cases hc:Li ((ByteArray.mk s.toArray)[k]'yA)
   ·go_wp2;go_ret;exact⟨ZaB (by rw[ZhQ Li s k hlt hn.out hc]),rfl⟩
   ·exact ZZi
  ·go_wp2;go_ret;exact⟨ZaB (by rw[ZhP Li s (λj h=>hn.out j Z h)];omega),rfl⟩
def ZUK(s:vS)(w)(hs:s.length<=90000):
  Calls prog 103 #[.string ⟨s.toArray⟩,.func (.func 107) #[] #[]] w λe w'=>e= .returned (.int .i64 (s.takeWhile Ms).length)/\w=w':=by
 go_enter func103,ntmps103;go_wp2;go_loop [5] (λn=>∃k:Nat,k<=s.length/\n= .int .i64 k/\Hid (∀j,j<k->(h:j<s.length)->Ms s[j]=true)) (λn=>s.length-(intOf n).toNat);case atStart=>exact⟨0,pI _,rfl,dL⟩
 case round=>
  obtain⟨k,hk,rfl,hn⟩:=hrel;by_cases hlt:k<s.length
  ·have yA:k<(ByteArray.mk s.toArray).size:=hlt;go_wp2_with fail;refine(ZA9 ((ByteArray.mk s.toArray)[k]'yA) _).mono ?_;rintro e w' ⟨rfl,rfl⟩;cases hc:Ms ((ByteArray.mk s.toArray)[k]'yA)
   ·go_wp2;go_ret;exact⟨ZaB (by rw[ZhQ Ms s k hlt hn.out hc]),rfl⟩
   ·exact ZZi
  ·go_wp2;go_ret;exact⟨ZaB (by rw[ZhP Ms s (λj h=>hn.out j Z h)];omega),rfl⟩
def ZUJ(s:vS)(w)(hs:s.length<=90000):
  Calls prog 103 #[.string ⟨s.toArray⟩,.func (.func 104) #[] #[]] w λe w'=>e= .returned (.int .i64 (s.takeWhile Mr).length)/\w=w':=by
 go_enter func103,ntmps103;go_wp2;go_loop [5] (λn=>∃k:Nat,k<=s.length/\n= .int .i64 k/\Hid (∀j,j<k->(h:j<s.length)->Mr s[j]=true)) (λn=>s.length-(intOf n).toNat);case atStart=>exact⟨0,pI _,rfl,dL⟩
 case round=>
  obtain⟨k,hk,rfl,hn⟩:=hrel;by_cases hlt:k<s.length
  ·have yA:k<(ByteArray.mk s.toArray).size:=hlt;go_wp2_with fail;refine(ZA8 ((ByteArray.mk s.toArray)[k]'yA) _).mono ?_;rintro e w' ⟨rfl,rfl⟩;cases hc:Mr ((ByteArray.mk s.toArray)[k]'yA)
   ·go_wp2;go_ret;exact⟨ZaB (by rw[ZhQ Mr s k hlt hn.out hc]),rfl⟩
   ·exact ZZi
  ·go_wp2;go_ret;exact⟨ZaB (by rw[ZhP Mr s (λj h=>hn.out j Z h)];omega),rfl⟩
def ZE1(s):(s.takeWhile Li).length=ze yT s:=rfl
def ZE2(s):(s.takeWhile Ms).length=ze (Iq++yT) s:=rfl
def ZkG(s)(w)(hs:s.length<=90000):
  Calls prog 162 #[.string ⟨s.toArray⟩] w λe w'=>e= .returned (.int .i64 (ze yT s))/\w=w':=by
 go_enter func162,ntmps162;go_wp2_with fail;refine(ZUI s _ hs).mono ?_;rintro e w' ⟨rfl,rfl⟩;rw[ZE1];exact kC
def ZA7(s)(w)(hs:s.length<=90000):
  Calls prog 139 #[.string ⟨s.toArray⟩] w λe w'=>e= .returned (.int .i64 (if 0<ze yT s then 0 else ze (Iq++yT) s:Nat))/\w=w':=by
 by_cases h:0<ze yT s
 ·rw[nY h];go_enter func139,ntmps139;go_wp2_with fail;refine(ZkG s _ hs).mono ?_;exact mG
 ·rw[nU h];go_enter func139,ntmps139;go_wp2_with fail;refine(ZkG s _ hs).mono ?_;rintro e w' ⟨rfl,rfl⟩;go_wp2_with fail;refine(ZUK s _ hs).mono ?_;rintro e w' ⟨rfl,rfl⟩;rw[ZE2];exact kC
end
section
open Go.RowKit
def Ij(l:vS):Value:=.string ⟨l.toArray⟩
def Tryz.ZMJ:(prog.info? 9).map (λi=>(i.zero,i.size,i.bytes))=some (some (.string ⟨#[]⟩),1,16):=by kernel_rfl
def R6{n}{w0}{w1:World}{o:Obj}{e:TypeId}{sz:Nat}{v:Value}{xs:List Value}(hB:Below n w0 wr)(hn:n<=wr.heap.size)(wD:wr.ownsRow n e sz v m xs)(hg:(wr.alloc o).grownBy w1 v.ownBlock):Below n w0 w1:=
 (hB.alloc hn o).grown hg ah (λk e=>(wD.lt k e).1)
end
section
open Go.RowKit
def Tryz.ZxX:(prog.info? 5).map (λi=>(i.zero,i.size,i.bytes))=some (some (.int .u8 0),1,1):=by kernel_rfl
def Eh(c:UInt8):Value:=.int .u8 c.toNat
def Zzf{base:Nat}{v:Value}{l:vS}(h:wr.ownsRow base 5 1 v l.length (l.map Eh)):
  (convert 220 9 v).run prog wr= .ok (.string ⟨l.toArray⟩) wr:=by
 rcases h.2 with⟨rfl,h0⟩|⟨g,cap,cur,rfl,_⟩
 ·obtain rfl:l= []:=uz.1 h0;rw[run_convert_bytes_string wr 220 9 5 none 0 0 underlying220 underlying5 underlying9];simp[Conv.bytesToString];rfl
 ·refine run_convert_bytes_back wr 220 9 5 ⟨g,0,none⟩ cap l underlying220 underlying5 underlying9 λj hj=>?_;exact h.cells (g:=g) rfl j _ (by simp[oW hj,Eh])
def ZqP(s)(w)(hs:s.length<=90000):
  Calls prog 109 #[.string ⟨s.toArray⟩] w λe w'=>e= .returned (.tuple #[.string ⟨(EX s).1.toArray⟩,.int .i64 (EX s).2])/\vV w w':=by
 have hex:=OJ;obtain⟨i0,hi,hz0,yo,hz2⟩:=oM Tryz.ZxX;go_enter func109,ntmps109;go_wp2;go_loopw [4,5] (λv i wr=>∃(k:Nat) (acc:vS),1<=k/\k<=s.length+1/\acc.length<=k/\i= .int .i64 k/\wr.ownsRow w.heap.size 5 1 v acc.length (acc.map Eh)/\vV w wr/\Hid (GZ acc k (s.drop k)=EX s)) (λ_ i _=>s.length+1-(intOf i).toNat);case atStart=>exact⟨1, [],Z,Z,ae,rfl,pV _ _ _ _,nW _ _,rfl⟩
 case round=>
  obtain⟨k,acc,yU,hk,hacc,rfl,wD,hB,hq⟩:=hrel;by_cases hlt:k<s.length
  ·have yA:k<(ByteArray.mk s.toArray).size:=hlt;have HD:Hid (s.drop k=s[k]::s.drop (k+1)):=ZhM s k hlt;go_wp2_with fail;refine(ZA8 ((ByteArray.mk s.toArray)[k]'yA) _).mono ?_;rintro e w' ⟨rfl,rfl⟩;cases hc:Mr ((ByteArray.mk s.toArray)[k]'yA)
   ·go_wp2;go_ret2;have LA:Mr s[k]=false:=hc;have e1:s[k]=10:=by simpa[Mr]using LA
    have hr:EX s=([],0):=by rw[<-hq.out,HD.out,e1,Zs5]
    exact⟨by rw[hr];rfl,hB⟩
   ·have LA:Mr s[k]=true:=hc;have n1:s[k]≠10:=by simpa[Mr]using LA
    clear LA;have HN:=wN n1;clear n1;go_wp2_with (at_builtin;refine pE _ rfl _ _ 220 rfl w.heap.size 5 i0 (.int .u8 0) 1 1 underlying220 hi hz0 yo hz2 rfl O _ _ _ rfl (wD.alloc _) ⟨wr.heap.size,0,none⟩ 1 1 [Eh ((ByteArray.mk s.toArray)[k]'yA)] rfl rfl (rq _ _ _) (by simp[Value.oneCell',Eh]) aj Z fA ?_;intro v' w1 zm xQ _)
    ·have h2:(((ByteArray.mk s.toArray)[k].toNat:Int)==39)=true:=by assumption
     have e39:s[k]=39:=ZEH 39 h2 rfl;rw[oO ae];refine(Tryz.strings_HasPrefix _ _ _).mono ?_;rintro e w' ⟨rfl,hw⟩;obtain rfl:=hw.symm;have hpx:Lib.hasPrefix (s.drop k) [39,39]=((s.drop (k+1)).head? ==some 39):=by
      rw[HD.out,e39];cases s.drop (k+1)with
      |nil=>rfl
      |cons d r=>simp[Lib.hasPrefix,List.isPrefixOf,sQ (a:=d)]
     rw[show(ByteArray.mk (s.drop k).toArray).data.toList=s.drop k from rfl,show(ByteArray.mk #[39,39]).data.toList= [39,39] from rfl,hpx];cases Dw:((s.drop (k+1)).head? ==some 39);rotate_left
     ·have EA:∃r',s.drop (k+1)=39::r':=by
       cases hd:s.drop (k+1)with
       |nil=>rw[hd]at Dw;cases Dw
       |cons d r=>rw[hd]at Dw;simp at Dw;exact⟨r,by rw[Dw]⟩
      clear Dw hpx;obtain⟨r',BR⟩:=EA;have HR:=wN BR;have Fu:k+1<s.length:=by
       have:=congrArg List.length BR;exact nN
      clear BR;have Pp:k+1<(ByteArray.mk s.toArray).size:=Fu;go_wp2_with (at_builtin;refine pE _ rfl _ _ 220 rfl w.heap.size 5 i0 (.int .u8 0) 1 1 underlying220 hi hz0 yo hz2 rfl O _ _ _ rfl (wD.alloc _) ⟨wr.heap.size,0,none⟩ 1 1 [Eh ((ByteArray.mk s.toArray)[k+1]'Pp)] rfl rfl (rq _ _ _) (by simp[Value.oneCell',Eh]) aj Z fA ?_;intro v' w1 zm xQ _);have zI:w1.ownsRow w.heap.size 5 1 v' (acc.length+1) (acc.map Eh++ [Eh s[k+1]]):=zm;have e2:s[k+1]=39:=by
       have:=HR.out;rw[ZhM s (k+1) Fu]at this;exact(rE this).1
      rw[e2]at zI;refine⟨⟨k+2,acc++ [39],Z,Z,ah,ak,by simpa using zI,R6 hB hB.size wD xQ,?_⟩,aT⟩;show GZ (acc++ [39]) (k+2) (s.drop (k+2))=EX s;rw[<-hq.out,HD.out,ZhM s (k+1) Fu,e39,e2,Zs7]
     ·have ZJ6:=Zzf wD;clear hpx;have HR:Hid (EX s=(acc,k+1)):=by
       show EX s=(acc,k+1);rw[<-hq.out,HD.out,e39,Zs4 _ _ _ (λr' e=>by rw[e]at Dw;cases Dw)]
      clear Dw;go_wp2;go_ret2;exact⟨by rw[HR.out];rfl,hB⟩
    ·have h2:(((ByteArray.mk s.toArray)[k].toNat:Int)==39)=false:=by assumption
     have n39:s[k]≠39:=ZEG 39 h2 rfl;have zI:w1.ownsRow w.heap.size 5 1 v' (acc.length+1) (acc.map Eh++ [Eh s[k]]):=zm;refine⟨⟨k+1,acc++ [s[k]],Z,Z,ah,ak,by simpa using zI,R6 hB hB.size wD xQ,?_⟩,aT⟩;show GZ (acc++ [s[k]]) (k+1) (s.drop (k+1))=EX s;rw[<-hq.out,HD.out,Zs6 _ _ _ _ HN.out n39]
  ·go_wp2;go_ret2;have hr:EX s=([],0):=by
    rw[<-hq.out,qM Z,ZhN]
   exact⟨by rw[hr];rfl,hB⟩
end
section
open Go.RowKit
def Ky(b:Nat):List PanicEntry:= [{v:=.iface 53 (.pointer (some ⟨b,0,none⟩)),recovered:=false}]
def ZgJ(kind at_)(w):
  Calls prog 29 #[.int .i64 kind,.int .i64 at_] w λe w'=>e= .panicked (Ky w.heap.size)/\w.alloc (.cells #[.int .i64 kind,.int .i64 at_] 58)=w':=by
 exact jX
def ZFX(pe po)(w):
  CallsD prog 28 #[.pointer (some pe),.pointer (some po)] .returning w λe u' w'=>e= .returned (.tuple #[])/\u'= .returning/\w'=w:=by
 refine callsD_of_wpS func28 rfl λc₀ cs hu=>?_;simp only[ntmps28,qf,List.length_cons,List.length_nil,Nat.reduceAdd,Nat.reduceSub,qg,Array.replicate_zero,qh,qj,List.nil_append,List.cons_append];apply wpS_seq;apply wpS_region;simp[wpOpsS,go_sem,recoverD,hu,Exit.thenS];refine wpS_of_wp ?_;go_wp2;cases c₀;simp_all [bodyPostS,results,Tryz.results28]
def ZFW(pe po)(b)(MX)(w)(hc:w.cell? pe=some MX)(hz:w.frozen? pe=false):
  CallsD prog 28 #[.pointer (some pe),.pointer (some po)] (.panicking (Ky b)) w λe u' w'=>
   e= .returned (.tuple #[])/\u'= .panicking [{v:=.iface 53 (.pointer (some ⟨b,0,none⟩)),recovered:=true}]/\w'=w.setCell pe (.iface 53 (.pointer (some ⟨b,0,none⟩))):=by
 refine callsD_of_wpS func28 rfl λc₀ cs hu=>?_;simp only[ntmps28,qf,List.length_cons,List.length_nil,Nat.reduceAdd,Nat.reduceSub,qg,Array.replicate_zero,qh,qj,List.nil_append,List.cons_append];apply wpS_seq;apply wpS_region;simp[wpOpsS,go_sem,recoverD,hu,Ky,Exit.thenS];refine wpS_of_wp ?_;have hta:∀w,(Instr.typeAssert (.iface 53 (.pointer (some ⟨b,0,none⟩))) 20 53 true).run prog w= .ok (.tuple #[.pointer (some ⟨b,0,none⟩),.bool true]) w:=λ_=>af
 go_wp2;cases c₀;simp_all [bodyPostS,results,Tryz.results28]
abbrev EY(w:World)(other:Int):World:=(w.alloc (.cells #[.int .i64 other] 47)).alloc (.cells #[.nilIface] 35)
abbrev Qj(b:Nat):Value:=.iface 53 (.pointer (some ⟨b,0,none⟩))
def ZFV(pd)(other)(w)(G:Addr->World->Prop)(B:Nat->World->Prop)(h:Calls prog 14 #[.pointer (some pd)] (EY w other) λe w2=>Below (w.heap.size+2) (EY w other) w2/\
   ((∃q,e= .returned (.pointer (some q))/\G q w2)\/(∃b,e= .panicked (Ky b)/\B b w2))):
  Calls prog 13 #[.int .i64 other,.func (.func 14) #[] #[.pointer (some pd)]] w λe w'=>∃w2,Below (w.heap.size+2) (EY w other) w2/\
   ((∃q,G q w2/\e= .returned (.tuple #[.pointer (some q),.nilIface])/\w'=w2.setCell ⟨w.heap.size+1,0,none⟩ .nilIface)\/
    (∃b,B b w2/\e= .returned (.tuple #[.pointer none,Qj b])/\w'=w2.setCell ⟨w.heap.size+1,0,none⟩ (Qj b))):=by
 have BD:∀(fn:Fn) (first cap:Array Value) (w:World),(Instr.makeFunc fn first cap).run prog w= .ok (.func fn first cap) w:=λ_ _ _ _=>rfl;have yV:(EY w other).cell? ⟨w.heap.size+1,0,none⟩=some .nilIface:=bM
 have Ci:(EY w other).frozen? ⟨w.heap.size+1,0,none⟩=false:=bM
 have H:=h;have HH:=wN H;clear h H;go_enter_defers func13,ntmps13;go_wp2_with fail;refine HH.out.mono ?_;rintro e w2 ⟨hB,⟨q,rfl,hG⟩|⟨b,rfl,Zm0⟩⟩
 ·have Aa:=wT hB ae yV;have yj:=(hB.frozen (p:=⟨w.heap.size+1,0,none⟩) ae).trans Ci;go_wp2;refine qO (f:=28) (args:=#[.pointer (some ⟨w.heap.size+1,0,none⟩),.pointer (some ⟨w.heap.size,0,none⟩)]) ae aR ?_;refine(ZFX _ _ _).mono ?_;rintro e u' GU ⟨rfl,rfl,rfl⟩;have FX:(w2.setCell ⟨w.heap.size+1,0,none⟩ .nilIface).cell? ⟨w.heap.size+1,0,none⟩=some .nilIface:=rT _ _ _ dM;exact⟨.tuple #[.pointer (some q),.nilIface],gN,w2,hB,.inl ⟨q,hG,rfl,rfl⟩⟩
 ·have Aa:=wT hB ae yV;have yj:=(hB.frozen (p:=⟨w.heap.size+1,0,none⟩) ae).trans Ci;go_wp2;refine qO (f:=28) (args:=#[.pointer (some ⟨w.heap.size+1,0,none⟩),.pointer (some ⟨w.heap.size,0,none⟩)]) ae aR ?_;refine(ZFW _ _ b .nilIface _ Aa yj).mono ?_;rintro e u' GU ⟨rfl,rfl,rfl⟩;have FX:(w2.setCell ⟨w.heap.size+1,0,none⟩ (Qj b)).cell? ⟨w.heap.size+1,0,none⟩=some (Qj b):=rT _ _ _ dM;exact⟨.tuple #[.pointer none,Qj b],gN,w2,hB,.inr ⟨b,Zm0,rfl,rfl⟩⟩
end
def ZR4(s r:vS)(h:(32:UInt8)∉s):(s++32::r).takeWhile (λc=>c != 32)=s:=by
 induction s with
 |nil=>rfl
 |cons c s ih=>
  have hc:c≠32:=λe=>h cO;rw[List.cons_append,qB,nY aD,ih (λe=>h (qb _ e))]
def ZRY:((List.range 124).all λi=>(G5.drop i).head? != some 32||(Gm.map Prod.fst).contains ((G5.drop (i+1)).takeWhile λc=>c != 32))=true:=by decide +kernel
def ZRZ:((Gm.map Prod.fst).all OL)=true:=by decide +kernel
def ZR0(s)(h:(32:UInt8)∉s):OL s=true↔s∈Gm.map Prod.fst:=by
 constructor
 ·intro h1;unfold OL Wu at h1;obtain⟨i,hi,he⟩:=rR.1 h1;rw[ru]at hi;have hl:G5.length=125:=rfl;rw[hl]at hi;simp only[List.length_cons,o6,List.length_nil]at hi;have O5:(G5.drop i).take (s.length+2)=32::(s++ [32]):=by
   have:=eq_of_beq he;exact nR
  have hd:G5.drop i=32::(s++ [32])++(G5.drop i).drop (s.length+2):=by rw[<-O5,sS]
  have O4:G5.drop (i+1)=s++32::(G5.drop i).drop (s.length+2):=by
   have:G5.drop (i+1)=(G5.drop i).drop 1:=fB
   rw[this];conv=>lhs;rw[hd]
   simp
  have hc:=pR.1 ZRY i (by rw[ru];omega);rw[O4,ZR4 _ _ h,hd]at hc;simpa using hc
 ·intro h1;exact pR.1 ZRZ s h1
def X0:vS:= [40,41,44,46,42,43,45,47,37,61,60,62]
def two(s:vS):Bool:=s.take 2== [60,62]||s.take 2== [60,61]||s.take 2== [62,61]
def Zc6:RW×Nat:=(⟨[], [],0⟩,0)
def Td(s:vS):Nat:=ze (Iq++yT) s
def WK(s:vS):Nat:=ze yT s
def Dc(s:vS):RW×Nat:=
 if 0<WK s then
  (if(JA (s.take (WK s)) false).2 then(⟨Bu, [],(JA (s.take (WK s)) false).1⟩,WK s)else Zc6)
 else if 0<Td s then(⟨if OL (s.take (Td s))then Cm else AQ,s.take (Td s),0⟩,Td s)
 else if s.head? =some 39 then(⟨BH,(EX s).1,0⟩,(EX s).2)
 else if two s then(⟨CQ,s.take 2,0⟩,2)
 else if Wu (s.take 1) X0 then(⟨CQ,s.take 1,0⟩,1)
 else Zc6
def blank(c:UInt8):Bool:=c==32||c==9||c==10
def Oe(s:vS):Nat:=(s.takeWhile λc=>c != 10).length
def Er(s:vS):Nat->Nat->Except Nat (List RW)
 |0,_=>.ok []
 |f+1,i=>
  match s.drop i with
  | []=>.ok []
  |c::r=>
   if blank c then Er s f (i+1)
   else if(c::r).take 2= [45,45]then Er s f (i+Oe (c::r))
   else if(Dc (c::r)).2=0 then .error i
   else(Er s f (i+(Dc (c::r)).2)).map λl=>(Dc (c::r)).1::l
def Ic(s:vS):Except Nat (List RW):=if 400<s.length then .error 400 else Er s (s.length+1) 0
def ZAH(p)(s:vS):(s.takeWhile p).length<=s.length:=(sH p).length_le
def ZzR(c)(r:vS):(Dc (c::r)).2<=(c::r).length:=by
 unfold Dc Zc6;split
 ·split
  ·exact ZhO _ _
  ·exact pI _
 ·split
  ·exact ZhO _ _
  ·split
   ·exact Zl6 c r
   ·split
    ·rename_i h;unfold two at h;cases r with
     |nil=>exact absurd h ae
     |cons d r=>simp
    ·split
     ·simp
     ·exact pI _
def Zqd(set):∀s:vS,∀x∈s.take (ze set s),set.contains x=true:=by
 intro s;unfold ze;induction s with
 |nil=>intro x hx;simp at hx
 |cons c s ih=>
  intro x hx;rw[qB]at hx;split at hx
  ·rename_i h;rw[List.length_cons,List.take_succ_cons]at hx;rcases oQ.1 hx with rfl|hx
   ·exact h
   ·exact ih x hx
  ·simp at hx
def ZRK(s:vS)(wF:s≠ [])(h:(Dc s).2≠0):EU (Dc s).1:=by
 unfold Dc at h ⊢;split
 ·rename_i h1;rw[nY h1]at h;split
  ·exact .inr (.inr (.inr (.inl rfl)))
  ·rename_i h2;rw[nU h2]at h;exact jq
 ·rename_i h1;rw[nU h1]at h;split
  ·by_cases hk:OL (s.take (Td s))=true
   ·refine .inl ⟨by show(if OL (s.take (Td s))=true then Cm else AQ)=Cm;rw[nY hk],?_⟩;refine(ZR0 _ (λhx=>?_)).1 hk;exact absurd (Zqd _ s _ hx) O
   ·refine .inr (.inr (.inl ?_));show(if OL (s.take (Td s))=true then Cm else AQ)=AQ;rw[nU hk]
  ·rename_i h2;rw[nU h2]at h;split
   ·exact .inr (.inr (.inr (.inr rfl)))
   ·rename_i h3;rw[nU h3]at h;split
    ·rename_i h4;refine .inr (.inl ⟨rfl,?_⟩);unfold two at h4;simp only[r9,si]at h4;show s.take 2∈_;rcases h4 with(e|e)|e<;>rw[e]<;>decide
    ·rename_i h4;rw[nU h4]at h;split
     ·rename_i h5;refine .inr (.inl ⟨rfl,?_⟩);show s.take 1∈_;cases s with
      |nil=>exact absurd rfl wF
      |cons c r=>
       have hc:X0.contains c=true:=by
        simp only[List.take_succ_cons,List.take_zero]at h5;rwa [Zs3]at h5
       have:∀x∈X0, [x]∈K6.map Prod.fst:=O
       exact this c aD
     ·rename_i h5;rw[nU h5]at h;exact jq
def ZRM(s)(f):∀i l,Er s f i= .ok l->(∀w∈l,EU w)/\l.length+i<=max i s.length:=by
 induction f with
 |zero=>intro i l h;unfold Er at h;cases h;exact⟨λw hw=>(by cases hw),ah⟩
 |succ f ih=>
  intro i l h;unfold Er at h;split at h
  ·cases h;exact⟨λw hw=>(by cases hw),ah⟩
  ·rename_i c r e;have hl:=congrArg List.length e;rw[qD]at hl;simp only[List.length_cons]at hl;split at h
   ·obtain⟨h1,h2⟩:=ih _ _ h;exact⟨h1,Z⟩
   ·split at h
    ·obtain⟨h1,h2⟩:=ih _ _ h;have:=ZAH (λc=>c != 10) (c::r);unfold Oe at h2;simp only[List.length_cons]at this;exact⟨h1,Z⟩
    ·split at h
     ·cases h
     ·rename_i h0;cases hr:Er s f (i+(Dc (c::r)).2)with
      |error e=>rw[hr]at h;cases h
      |ok l'=>
       rw[hr]at h;cases h;obtain⟨h1,h2⟩:=ih _ _ hr;have hle:=ZzR c r;simp only[List.length_cons]at hle ⊢;refine⟨λw hw=>?_,Z⟩;rcases oQ.1 hw with rfl|hw
       ·exact ZRK _ ae h0
       ·exact h1 w hw
def ZRN{s:vS}{l:List RW}(h:Ic s= .ok l):(∀w∈l,EU w)/\l.length<=s.length/\s.length<=400:=by
 unfold Ic at h;split at h
 ·cases h
 ·obtain⟨h1,h2⟩:=ZRM s _ _ _ h;exact⟨h1,Z,Z⟩
def Zp1(s)(f):∀g i,s.length-i<f->s.length-i<g->Er s f i=Er s g i:=by
 induction f with
 |zero=>intro g i h;omega
 |succ f ih=>
  intro g i h1 h2;cases g with
  |zero=>omega
  |succ g=>
   unfold Er;split
   ·rfl
   ·rename_i c r e;have hl:=congrArg List.length e;rw[qD]at hl;simp only[List.length_cons]at hl;split
    ·exact ih g _ Z Z
    ·rename_i hb;split
     ·have:1<=Oe (c::r):=by
       unfold Oe;rw[qB,nY]
       ·simp
       ·unfold blank at hb;simp at hb ⊢;exact hb.2
      exact ih g _ Z Z
     ·split
      ·rfl
      ·rename_i h0;rw[ih g _ Z Z]
def ZSd{s:vS}{i:Nat}(h:s.length<=i):Er s (s.length+1) i= .ok []:=by
 unfold Er;rw[qM h]
def Zqf{s:vS}{i:Nat}(h:i<s.length):Er s (s.length+1) i=if blank s[i]then Er s (s.length+1) (i+1)else if(s.drop i).take 2= [45,45]then Er s (s.length+1) (i+Oe (s.drop i))else if(Dc (s.drop i)).2=0 then .error i else(Er s (s.length+1) (i+(Dc (s.drop i)).2)).map λl=>(Dc (s.drop i)).1::l:=by
 conv=>lhs;unfold Er
 rw[pM h];simp only;split
 ·exact Zp1 s _ _ _ Z Z
 ·rename_i hb;split
  ·have:1<=Oe (s[i]::s.drop (i+1)):=by
    unfold Oe;rw[qB,nY]
    ·simp
    ·unfold blank at hb;simp at hb ⊢;exact hb.2
   exact Zp1 s _ _ _ Z Z
  ·split
   ·rfl
   ·rename_i h0;rw[Zp1 s s.length (s.length+1) _ Z Z]
section
open Go.RowKit
def ZE6(c):blank c=(((c.toNat:Int)==32||(c.toNat:Int)==9)||(c.toNat:Int)==10):=by
 have:=ZhL (p:=λc=>blank c==(((c.toNat:Int)==32||(c.toNat:Int)==9)||(c.toNat:Int)==10)) bG c;exact nR
def ZUC(c)(w):
  Calls prog 101 #[.int .u8 c.toNat] w λe w'=>e= .returned (.bool (blank c))/\w=w':=by
 have HB:=wN (ZE6 c);go_enter func101,ntmps101;go_wp2;all_goals
  go_ret;refine⟨PE ?_,rfl⟩;rw[HB.out];try simp[*]
structure VR (rest:vS) (n:Nat):Prop where
 le:n<=rest.length
 same:∀(s:vS) (i:Nat),s.drop i=rest->Er s (s.length+1) (i+n)=Er s (s.length+1) i
structure ZBA (rest:vS) (n:Nat):Prop extends VR rest n where
 stop:∀h:n<rest.length,blank rest[n]=false/\(rest.drop n).take 2≠ [45,45]
def drop_at{s:vS}{i n:Nat}(h:s.drop i=rest)(hn:n<rest.length):∃hl:i+n<s.length,s[i+n]=rest[n]/\s.drop (i+n)=rest.drop n:=by
 subst h;rw[qD]at hn;refine⟨Z,?_,fB⟩;simp
def VR.sp{n}(h:VR rest n)(hn:n<rest.length)(hb:blank rest[n]=true):VR rest (n+1):=by
 refine⟨Z,λs i e=>?_⟩;obtain⟨hl,e1,e2⟩:=drop_at e hn;rw[<-h.same s i e,Zqf hl,e1,nY hb];rfl
def VR.ln{n}(h:VR rest n)(hn:n<rest.length)(hb:blank rest[n]=false)(hc:(rest.drop n).take 2= [45,45]):VR rest (n+Oe (rest.drop n)):=by
 have hle:Oe (rest.drop n)<=(rest.drop n).length:=ZAH _ _;rw[qD]at hle;refine⟨Z,λs i e=>?_⟩;obtain⟨hl,e1,e2⟩:=drop_at e hn;rw[<-h.same s i e,Zqf hl,e1,nU (by rw[hb];simp),e2,nY hc,Nat.add_assoc]
def ZpS(s:vS)(a b):Lib.hasPrefix s [a,b]=(s.take 2== [a,b]):=by
 rcases s with _|⟨c,_|⟨d,r⟩⟩
 ·simp[Lib.hasPrefix,List.isPrefixOf]
 ·simp[Lib.hasPrefix,List.isPrefixOf]
 ·simp[Lib.hasPrefix,List.isPrefixOf,sQ (a:=c),sQ (a:=d)]
def ZqQ(rest)(w)(hs:rest.length<=400):
  Calls prog 67 #[.string ⟨rest.toArray⟩] w λe w'=>(∃n:Nat,e= .returned (.int .i64 n)/\ZBA rest n)/\w=w':=by
 have hex:=OJ;go_enter func67,ntmps67;go_wp2_with fail;go_loopg [3] (rest.length+1) (λgk iv wr=>∃k:Nat,gk=rest.length-k+1/\k<=rest.length/\iv= .int .i64 k/\w=wr/\Hid (VR rest k));case atStart=>exact⟨0,Z,Z,rfl,rfl,⟨Z,λs i e=>rfl⟩⟩
 case round=>
  obtain⟨k,rfl,hk,rfl,rfl,hg⟩:=hrel;by_cases hlt:k<rest.length
  ·have yA:k<(ByteArray.mk rest.toArray).size:=hlt;go_wp2_with fail;refine(ZUC ((ByteArray.mk rest.toArray)[k]'yA) _).mono ?_;rintro e w' ⟨rfl,rfl⟩;cases hb:blank ((ByteArray.mk rest.toArray)[k]'yA)with
   |true=>
    have HG:=wN (hg.out.sp hlt hb);clear hb;go_wp2_with fail;go_roundg (rest.length-(k+1)+1);case measure=>omega
    case rel=>exact⟨k+1,rfl,Z,bN,rfl,HG⟩
   |false=>
    have HB:Hid (blank rest[k]=false):=hb;clear hb;have HT:Hid (List.take (List.length rest-k) (List.drop k rest)=rest.drop k):=by show _=_;rw[oO aL]
    go_wp2_with fail;rw[HT.out];refine(Tryz.strings_HasPrefix _ _ _).mono ?_;rintro e w' ⟨rfl,hw⟩;obtain rfl:=hw.symm;rw[show(ByteArray.mk (rest.drop k).toArray).data.toList=rest.drop k from rfl,show(ByteArray.mk #[45,45]).data.toList= [45,45] from rfl,ZpS];cases hc:((rest.drop k).take 2== [45,45])with
    |true=>
     have HC:Hid ((rest.drop k).take 2= [45,45]):=by show _=_;simpa using hc
     have HG:=wN (hg.out.ln hlt HB.out HC.out);have zQ:1<=Oe (rest.drop k):=by
      have h1:=HC.out;cases hd:rest.drop k with
      |nil=>rw[hd]at h1;simp at h1
      |cons c r=>
       rw[hd]at h1;unfold Oe;have:c=45:=by
        cases r with
        |nil=>simp at h1
        |cons d r=>simp at h1;exact h1.1
       rw[qB,nY (by rw[this];decide)];simp
     have hle:=HG.out.le;clear hc;go_wp2_with fail;rw[HT.out];refine(ZUJ (rest.drop k) _ aL).mono ?_;rintro e w' ⟨rfl,rfl⟩;rw[show((rest.drop k).takeWhile Mr).length=Oe (rest.drop k) from rfl];generalize Oe (rest.drop k)=m at HG zQ hle ⊢;go_wp2_with fail;go_roundg (rest.length-(k+m)+1);case measure=>omega
     case rel=>exact⟨k+m,rfl,Z,bN,rfl,HG⟩
    |false=>
     have HC:Hid ((rest.drop k).take 2≠ [45,45]):=by show _≠_;simpa using hc
     clear hc;go_wp2_with fail;go_ret;exact⟨⟨k,rfl,hg.out,λ_=>⟨HB.out,HC.out⟩⟩,rfl⟩
  ·go_wp2_with fail;go_ret;exact⟨⟨k,rfl,hg.out,λh=>absurd h hlt⟩,rfl⟩
end
section
open Go.RowKit
structure ZrZ where
 kind:vS
 num:Int
 text:vS
def ZrZ.v(x:ZrZ):Value:=.agg #[.string ⟨x.kind.toArray⟩,.int .i64 x.num,.string ⟨x.text.toArray⟩]
def ZA4(W:World)(v:Value)(l:List vS):Prop:=
 ∃a cap,v= .slice a l.length cap/\∀i (h:i<l.length),∃g o,a=some ⟨g,o,none⟩/\W.cell? ⟨g,o+i,none⟩=some (Ij l[i])
end
section
open Go.RowKit
def zn:List vS->List (vS×vS)
 |n::t::r=>(n,t)::zn r
 |_=> []
end
section
open Go.RowKit Go.Extern.Stop Go.Stop Go.Extern
def As.ZUv(t)(w):(ReflectliteValue.unpack (.iface 55 (.pointer (some t)))).run prog w
 = .ok (.agg #[.pointer (some ⟨13,55,none⟩),.pointer (some ⟨w.heap.size,0,none⟩),.int .u64 150]) (w.alloc (.cells #[.pointer (some t)] 55)):=af
def As.type27(a:Addr)(w:World):(ReflectliteValue.methodAny (ReflectliteValue.valueError "reflectlite.Value.Type" 0) (λt _ _ _=>ReflectliteType.toType t) #[.agg #[.pointer (some ⟨13,55,none⟩),.pointer (some a),.int .u64 150]]).run prog w
 = .ok (.iface 149 (.agg #[.pointer (some ⟨13,55,none⟩)])) w:=af
def As.ZOT(h)(w):(Go.method 760 149 (.agg #[h]) "Kind").run prog w= .ok (429,h) w:=by kernel_rfl
def As.ZNO(w):((ReflectliteType.abiMethod λt=>(λa:Nat=>Value.int IntKind.u8 (a:Int)) <$> Rtype.kind t) #[.pointer (some ⟨13,55,none⟩)]).run prog w= .ok (.int .u8 22) w:=by kernel_rfl
def As.ZNN(w):((ReflectliteType.abiMethod λt=>(λa:Nat=>Value.int IntKind.u8 (a:Int)) <$> Rtype.kind t) #[.pointer (some ⟨13,53,none⟩)]).run prog w= .ok (.int .u8 22) w:=by kernel_rfl
def As.Zzy(a)(w):(ReflectliteValue.parts (.agg #[.pointer (some ⟨13,55,none⟩),.pointer (some a),.int .u64 150])).run prog w= .ok (some (55,a,150)) w:=by kernel_rfl
def As.ZMN(a p)(W)(ha:W.cell? a=some (.pointer (some p))):
  (ReflectliteValue.method (ReflectliteValue.valueError "reflectlite.Value.IsNil" 0) ReflectliteValue.isNil #[.agg #[.pointer (some ⟨13,55,none⟩),.pointer (some a),.int .u64 150]]).run prog W= .ok (.bool false) W:=by
 show(Bind.bind (ReflectliteValue.parts (.agg #[.pointer (some ⟨13,55,none⟩),.pointer (some a),.int .u64 150])) (λp=>_):Sem Value).run _ _=_;simp only[pg,As.Zzy,Result.andThen];simp[ReflectliteValue.isNil,loadVar,isAgg,underlying,underlying55,ha,Result.andThen]
def As.ZOR(h)(w):(Go.method 760 149 (.agg #[h]) "Elem").run prog w= .ok (449,.agg #[h]) w:=by kernel_rfl
def As.ZOS(h)(w):(Go.method 760 149 (.agg #[h]) "Implements").run prog w= .ok (450,.agg #[h]) w:=by kernel_rfl
def As.ZOP(h)(w):(Go.method 760 149 (.agg #[h]) "AssignableTo").run prog w= .ok (447,.agg #[h]) w:=by kernel_rfl
def As.ZHa(w):(ReflectliteType.method ReflectliteType.elem #[.agg #[.pointer (some ⟨13,55,none⟩)]]).run prog w= .ok (.iface 149 (.agg #[.pointer (some ⟨13,53,none⟩)])) w:=by kernel_rfl
def As.ZMt(w):(ReflectliteType.relation "Implements" ReflectliteType.implements_ #[.agg #[.pointer (some ⟨13,53,none⟩)],.iface 149 (.agg #[.pointer (some ⟨13,35,none⟩)])]).run prog w= .ok (.bool true) w:=by kernel_rfl
def As.ZUo(v)(w):(ReflectliteType.typeOf #[.iface 53 v]).run prog w= .ok (.iface 149 (.agg #[.pointer (some ⟨13,53,none⟩)])) w:=by kernel_rfl
def As.ZEp(w):(ReflectliteType.relation "AssignableTo" ReflectliteType.assignableTo #[.agg #[.pointer (some ⟨13,53,none⟩)],.iface 149 (.agg #[.pointer (some ⟨13,53,none⟩)])]).run prog w= .ok (.bool true) w:=by kernel_rfl
def As.ZUu(e)(w):(ReflectliteValue.unpack (.iface 53 (.pointer (some e)))).run prog w
 = .ok (.agg #[.pointer (some ⟨13,53,none⟩),.pointer (some ⟨w.heap.size,0,none⟩),.int .u64 150]) (w.alloc (.cells #[.pointer (some e)] 53)):=af
def As.ZHb(w):(Rtype.elem? 55).run prog w= .ok (some 53) w:=by kernel_rfl
def As.ZOW(p)(w):(ReflectliteValue.mk 53 p ReflectliteValue.flagAddr).run prog w= .ok (.agg #[.pointer (some ⟨13,53,none⟩),.pointer (some p),.int .u64 406]) w:=by kernel_rfl
def As.ZHc(a p)(W)(ha:W.cell? a=some (.pointer (some p))):
  (ReflectliteValue.method (ReflectliteValue.valueError "reflectlite.Value.Elem" 0) ReflectliteValue.elem #[.agg #[.pointer (some ⟨13,55,none⟩),.pointer (some a),.int .u64 150]]).run prog W
   = .ok (.agg #[.pointer (some ⟨13,53,none⟩),.pointer (some p),.int .u64 406]) W:=by
 show(Bind.bind (ReflectliteValue.parts (.agg #[.pointer (some ⟨13,55,none⟩),.pointer (some a),.int .u64 150])) (λp=>_):Sem Value).run _ _=_;simp only[pg,As.Zzy,Result.andThen];simp[ReflectliteValue.elem,loadVar,isAgg,underlying,underlying55,ha,Result.andThen,As.ZHb,As.ZOW]
def As.ZQV(a)(w):(ReflectliteValue.parts (.agg #[.pointer (some ⟨13,53,none⟩),.pointer (some a),.int .u64 406])).run prog w= .ok (some (53,a,406)) w:=by kernel_rfl
def As.ZQU(a)(w):(ReflectliteValue.parts (.agg #[.pointer (some ⟨13,53,none⟩),.pointer (some a),.int .u64 150])).run prog w= .ok (some (53,a,150)) w:=by kernel_rfl
def As.ZGX(w):(Rtype.directlyAssignable 53 53).run prog w= .ok true w:=by kernel_rfl
def As.ZSw(ta b e)(MX)(W)(hb:W.cell? b=some (.pointer (some e)))(ht:W.cell? ta=some MX)(hf:W.frozen? ta=false):
  (ReflectliteValue.set #[.agg #[.pointer (some ⟨13,53,none⟩),.pointer (some ta),.int .u64 406],.agg #[.pointer (some ⟨13,53,none⟩),.pointer (some b),.int .u64 150]]).run prog W
   = .ok (.tuple #[]) (W.setCell ta (.pointer (some e))):=by
 show(Bind.bind (ReflectliteValue.parts (.agg #[.pointer (some ⟨13,53,none⟩),.pointer (some ta),.int .u64 406])) (λp=>Bind.bind (ReflectliteValue.parts (.agg #[.pointer (some ⟨13,53,none⟩),.pointer (some b),.int .u64 150])) (λq=>_)):Sem Value).run _ _=_;simp only[pg,As.ZQV,As.ZQU,Result.andThen];simp[ReflectliteValue.flagAddr,loadVar,isAgg,underlying,underlying53,hb,Result.andThen,As.ZGX,storeVar,Value.cells,storeCells,Addr.add];rw[run_store prog W ta _ _ (by rfl)];simp[ht,hf]
def ZEj(e t)(MX)(w)(hg:w.cell? ⟨0,0,none⟩=some (.iface 149 (.agg #[.pointer (some ⟨13,35,none⟩)])))(LV:w.cell? t=some MX)(IA:w.frozen? t=false):
  Calls prog 16 #[.iface 53 (.pointer (some e)),.iface 55 (.pointer (some t))] w λev w'=>ev= .returned (.bool true)/\w'=((((w.alloc (.cells #[.pointer (some t)] 55)).alloc (.cells #[.pointer (some ⟨13,55,none⟩),.pointer (some ⟨w.heap.size,0,none⟩),.int .u64 150] 99)).alloc (.cells #[.pointer (some ⟨13,55,none⟩),.pointer (some ⟨w.heap.size,0,none⟩),.int .u64 150] 99)).alloc (.cells #[.pointer (some e)] 53)).setCell t (.pointer (some e)):=by
 have h6:=@qF prog 34 _ (λargs=>ReflectliteValue.unpack (args.getD 0 (.tuple #[]))) func34 af af af af;have h7:=@qF prog 35 _ (ReflectliteValue.methodAny (ReflectliteValue.valueError "reflectlite.Value.Type" 0) (λt _ _ _=>ReflectliteType.toType t)) func35 af af af af;have h8:=@qF prog 36 _ (ReflectliteValue.method (ReflectliteValue.valueError "reflectlite.Value.IsNil" 0) ReflectliteValue.isNil) func36 af af af af;have h27:=@qF prog 429 _ (ReflectliteType.abiMethod λt=>do pure (.int .u8 (<-Rtype.kind t))) func429 af af af af;have h37:=@qF prog 449 _ (ReflectliteType.method ReflectliteType.elem) func449 af af af af;have h38:=@qF prog 450 _ (ReflectliteType.relation "Implements" ReflectliteType.implements_) func450 af af af af;have Nv:=@qF prog 38 _ ReflectliteType.typeOf func38 af af af af;have h35:=@qF prog 447 _ (ReflectliteType.relation "AssignableTo" ReflectliteType.assignableTo) func447 af af af af;have h11:=@qF prog 63 _ (ReflectliteValue.method (ReflectliteValue.valueError "reflectlite.Value.Elem" 0) ReflectliteValue.elem) func63 af af af af;have h12:=@qF prog 64 _ ReflectliteValue.set func64 af af af af;have tO:=As.ZUo;have mA:=As.ZOP;have a25:=As.ZEp;have v25:=As.ZUu;have f6:=As.ZUv;have f7:=As.type27;have mK:=As.ZOT;have mE:=As.ZOR;have mI:=As.ZOS;have k27:=As.ZNO;have k25:=As.ZNN;have e27:=As.ZHa;have i25:=As.ZMt;have n8:=As.ZMN ⟨w.heap.size,0,none⟩ t ((w.alloc (.cells #[.pointer (some t)] 55)).alloc (.cells #[.pointer (some ⟨13,55,none⟩),.pointer (some ⟨w.heap.size,0,none⟩),.int .u64 150] 99)) ae;have hlt:0<w.heap.size:=by
  rcases sV w.heap.size with h0|h
  ·simp[World.cell?,h0]at hg
  ·exact h
 have Cj:((w.alloc (.cells #[.pointer (some t)] 55)).alloc (.cells #[.pointer (some ⟨13,55,none⟩),.pointer (some ⟨w.heap.size,0,none⟩),.int .u64 150] 99)).cell? ⟨0,0,none⟩=some (.iface 149 (.agg #[.pointer (some ⟨13,35,none⟩)])):=by
  rw[oD _ _ ⟨0,0,none⟩ aX,oD _ _ ⟨0,0,none⟩ hlt];exact hg
 have zW:t.block<w.heap.size:=by
  rcases sj t.block w.heap.size with h|h
  ·exact h
  ·simp[World.cell?,uA h]at LV
 have el:=As.ZHc ⟨w.heap.size,0,none⟩ t (((w.alloc (.cells #[.pointer (some t)] 55)).alloc (.cells #[.pointer (some ⟨13,55,none⟩),.pointer (some ⟨w.heap.size,0,none⟩),.int .u64 150] 99)).alloc (.cells #[.pointer (some ⟨13,55,none⟩),.pointer (some ⟨w.heap.size,0,none⟩),.int .u64 150] 99)) (by rw[oD _ _ ⟨w.heap.size,0,none⟩ ah];simp);have st:=As.ZSw t ⟨w.heap.size+1+1+1,0,none⟩ e MX ((((w.alloc (.cells #[.pointer (some t)] 55)).alloc (.cells #[.pointer (some ⟨13,55,none⟩),.pointer (some ⟨w.heap.size,0,none⟩),.int .u64 150] 99)).alloc (.cells #[.pointer (some ⟨13,55,none⟩),.pointer (some ⟨w.heap.size,0,none⟩),.int .u64 150] 99)).alloc (.cells #[.pointer (some e)] 53))
  (by rw[World.cell?_alloc_at _ _ _ _ ae];rfl)
  (by rw[oD _ _ t ah,oD _ _ t ah,oD _ _ t ah,oD _ _ t zW];exact LV)
  (by rw[sW _ _ t ah,sW _ _ t ah,sW _ _ t ah,sW _ _ t (Nat.ne_of_lt zW)];exact IA)
 go_enter func16,ntmps16;go_wp2;refine wp_loop_rounds 1 ?_;rw[rounds_succ];exact kC
end
section
open Go.RowKit Go.Extern.Stop Go.Stop Go.Extern
def ZR7{P:Program}(w)(d){i:TypeInfo}{k:IntKind}(a b)(hi:P.underlying ti=some (.interface ms))(hn:P.underlying tn=some (.int k))(Zog:P.info? tn=some i)(ZnY:i.comparable=true):
  (Op.equalIn (d+2) ti (.iface tn (.int k a)) (.iface tn (.int k b))).run P w= .ok (a==b) w:=by
 simp[Op.equalIn,pU hi,pU hn,typeInfo,Zog,ZnY]
def ZR6{P:Program}(w){i:TypeInfo}{k:IntKind}(a b)(hi:P.underlying ti=some (.interface ms))(hn:P.underlying tn=some (.int k))(Zog:P.info? tn=some i)(ZnY:i.comparable=true):
  (binOp .eql ti (.iface tn (.int k a)) (.iface tn (.int k b))).run P w= .ok (.bool (a==b)) w:=by
 simp only[binOp];simp[Op.equal,Op.maxDepth,ZR7 w 9998 a b hi hn Zog ZnY]
theorem Is.typeOf(v)(w):(ReflectliteType.typeOf #[.iface 47 v]).run prog w= .ok (.iface 149 (.agg #[.pointer (some ⟨13,47,none⟩)])) w:=by kernel_rfl
def Is.ZtQ(t:TypeId):Sem Value:=do Rtype.noPackHeld "Comparable" t;pure (.bool (<-typeInfo t).comparable)
def Is.comparable(w):(ReflectliteType.method Is.ZtQ #[.agg #[.pointer (some ⟨13,47,none⟩)]]).run prog w= .ok (.bool true) w:=by kernel_rfl
def Is.ZOQ(v)(w):(Go.method 760 149 v "Comparable").run prog w= .ok (448,v) w:=by kernel_rfl
def Is.comp:(prog.info? 47).map (·.comparable)=some true:=by kernel_rfl
def Is.ZPl(v)(xT)(w):(Instr.typeAssert (.iface 47 v) xT 161 true).run prog w= .ok (.tuple #[.nilIface,.bool false]) w:=sZ underlying161 af af v xT w
def Is.ZPn(v)(xT)(w):(Instr.typeAssert (.iface 47 v) xT 156 true).run prog w= .ok (.tuple #[.nilIface,.bool false]) w:=sZ underlying156 af af v xT w
def Is.ZPo(v)(xT)(w):(Instr.typeAssert (.iface 47 v) xT 158 true).run prog w= .ok (.tuple #[.nilIface,.bool false]) w:=sZ underlying158 af af v xT w
def Is.ZPm(v)(xT)(w):(Instr.typeAssert (.iface 53 v) xT 161 true).run prog w= .ok (.tuple #[.nilIface,.bool false]) w:=sZ underlying161 af af v xT w
def Is.ZJR(v)(xT)(w):(Instr.typeAssert (.iface 53 v) xT 156 true).run prog w= .ok (.tuple #[.iface 53 v,.bool true]) w:=run_typeAssert_hasB underlying156 af v xT w
def Is.ZOU(v)(w):(Go.method 760 53 v "Unwrap").run prog w= .ok (435,v) w:=by kernel_rfl
def ZZk{p:Prop}(h:p:=by
 go_enter func17,ntmps17;go_wp2;refine wp_loop_rounds 2 ?_;rw[rounds_succ];go_wp2;rw[rounds_succ];go_wp2;go_ret;exact⟨rfl,rfl⟩):p:=h
def ZMO(p)(kind k)(w)(h0:w.cell? p=some (.int .i64 kind)):
  Calls prog 17 #[.iface 53 (.pointer (some p)),.iface 47 (.int .i64 k)] w λe w'=>e= .returned (.bool (kind==k))/\w=w':=by
 obtain⟨i,hi,hcmp⟩:=pO.1 Is.comp;have hT:=@qF prog 38 _ ReflectliteType.typeOf func38 af af af af;have hC:=@qF prog 448 _ (ReflectliteType.method Is.ZtQ) func448 af af af af;have tT:=Is.typeOf;have cT:=Is.comparable;have mR:=Is.ZOQ;have nE:=Is.ZPl;have uE:=Is.ZPn;have vE:=Is.ZPo;have nF:=Is.ZPm;have uF:=Is.ZJR;have mU:=Is.ZOU;have he1:=run_eql_iface_types (P:=prog) 53 47 (.pointer (some p)) (.int .i64 k) underlying35 O w;have O5:=ZR6 (P:=prog) w kind k underlying35 underlying47 hi hcmp;cases hk:(kind==k)
 ·exact ZZk
 ·exact ZZk
end
section
open Go.RowKit
def ZEi(e)(tb)(MX)(w)(hg:w.cell? ⟨0,0,none⟩=some (.iface 149 (.agg #[.pointer (some ⟨13,35,none⟩)])))(LV:w.cell? ⟨tb,0,none⟩=some MX)(IA:w.frozen? ⟨tb,0,none⟩=false):
  Calls prog 16 #[.iface 53 (.pointer (some e)),.iface 55 (.pointer (some ⟨tb,0,none⟩))] w λev w'=>ev= .returned (.bool true)/\w'.cell? ⟨tb,0,none⟩=some (.pointer (some e))/\Below tb w w':=by
 have hlt:tb<w.heap.size:=oH w ⟨tb,0,none⟩ LV;refine(ZEj e ⟨tb,0,none⟩ MX w hg LV IA).mono ?_;rintro ev w' ⟨rfl,rfl⟩;refine⟨rfl,?_,?_⟩
 ·refine rT _ _ _ ?_;rw[oD _ _ ⟨tb,0,none⟩ ah,oD _ _ ⟨tb,0,none⟩ ah,oD _ _ ⟨tb,0,none⟩ ah,oD _ _ ⟨tb,0,none⟩ hlt,LV];rfl
 ·exact(((((nW tb w).alloc Z _).alloc ah _).alloc ah _).alloc ah _).setCell (p:=⟨tb,0,none⟩) (nV _) _
def ZQW(b)(kind at_)(w)(h1:1<=kind)(h9:kind<=9)(h0:w.cell? ⟨b,0,none⟩=some (.int .i64 kind))(ha:w.cell? ⟨b,1,none⟩=some (.int .i64 at_))(hg:w.cell? ⟨0,0,none⟩=some (.iface 149 (.agg #[.pointer (some ⟨13,35,none⟩)]))):
  Calls prog 9 #[.iface 53 (.pointer (some ⟨b,0,none⟩))] w λe w'=>e= .returned (.tuple #[.int .i64 kind,.int .i64 at_])/\vV w w':=by
 go_enter func9,ntmps9;go_wp2_with fail;have zi:b<w.heap.size:=oH w ⟨b,0,none⟩ h0;have xL:0<w.heap.size:=oH w ⟨0,0,none⟩ hg;refine(ZEi ⟨b,0,none⟩ w.heap.size (.pointer none) _ ?_ ?_ ?_).mono ?_
 ·rw[oD _ _ ⟨0,0,none⟩ xL];exact hg
 ·simp
 ·simp
 rintro e w1 ⟨rfl,JE,hB⟩;have wE:=((nW _ w).alloc (nV _) _).trans hB;have Av:=wT wE zi h0;have Qy:=wT wE zi ha;clear hB;go_wp2_with fail;go_loopw [5] (λk wr=>∃j:Nat,j<=10/\k= .int .i64 j/\wr.cell? ⟨w.heap.size,0,none⟩=some (.pointer (some ⟨b,0,none⟩))/\wr.cell? ⟨b,0,none⟩=some (.int .i64 kind)/\wr.cell? ⟨b,1,none⟩=some (.int .i64 at_)/\vV w wr)
  (λk _=>10-(intOf k).toNat)
 case atStart=>exact⟨0,Z,rfl,JE,Av,Qy,wE⟩
 case round=>
  clear JE Av Qy wE;obtain⟨j,hj,rfl,JE,Av,Qy,wE⟩:=hrel;by_cases hlt:j<=9
  ·go_wp2_with fail;go_quiet ((go_at_call 17;exact Calls.quiet_of_same ((ZMO ⟨b,0,none⟩ kind j _ (by simpa using Av)).mono (λ_ _ h=>⟨h.1,h.2.symm⟩))));go_wp2
   ·have hx:(!(kind==(j:Int))==((j:Int)==kind))=true:=by assumption
    exfalso;rw[show((j:Int)==kind)=(kind==(j:Int)) from by rw[p9];simp;omega]at hx;cases hk:(kind==(j:Int))<;>rw[hk]at hx<;>cases hx
   ·refine⟨⟨j+1,Z,ak,by simpa using JE,by simpa using Av,by simpa using Qy,Go.below_drewN wE _⟩,aT⟩
  ·have Bc:(kind==0)=false:=by simp;omega
   go_wp2;go_quiet (fail);go_wp2;go_ret2;exact⟨rfl,Go.below_drewN wE _⟩
end
section
open Go.RowKit Go.Conc
def Zmq{F:Fence}{n:Nat}{P:Program}{id:Nat}{ops:Array Oper}{Q:Exit->Act->World->Prop}{a:Act}{w w':World}{o:Oper}{v:Value}(ho:ops[0]? =some o)(ha:∀f,o.about P w a.eval=some f->F.fn f)(QY:∀(b:Frame) k cs rest,step P (lone (b.atR a (.inRegion ops (0::rest)::k)) cs w)= .next (lone (b.atR (a.put o.dst v) (.inRegion ops rest::k)) cs w'))(yA:ops.size=m+1)(h:wpOpsIn F n P ops Q (List.range' 1 m) (a.put o.dst v) w'):(Code.region id ops false).wpIn F n P Q a w:=by
 intro b k cs JJ hb hr;obtain⟨e,a',w2,hq,harr⟩:=wp_opsIn _ _ _ h b k cs JJ hb hr;refine⟨e,a',w2,hq,.of_steps (.head (fenced_calm hb hr rfl) stepR_region (.one ?_ ?_)) harr⟩
 ·rw[uB,yA,List.range'_succ];exact fenced_oper hb hr ho ha
 ·rw[uB,yA,List.range'_succ];exact QY b k cs _
section
variable {P:Program} {ops:Array Oper} {a:Act} {w:World} {o:Oper} {b:Frame} {k:List Item} {cs:List Frame} {rest:List Nat}
def ZmI(ho:ops[0]? =some o)(v):(b.atR a (.inRegion ops (0::rest)::k)).finish v=b.atR (a.put o.dst v) (.inRegion ops rest::k):=by
 rw[Frame.finish_atR,ho];rfl
def ZSk{x y:Operand}{e:TypeId}{c:Nat}(ho:ops[0]? =some o)(hg:o.guard=none)(Pg:o.op= .select #[{chan:=x,send:=some y,elem:=e}] false)(hx:a.eval x= .chan (some c))(hz:(zeroValue e).run P w= .ok z w):
  ∃es,stepG P true (Conc.G (b.atR a (.inRegion ops (0::rest)::k)) cs) w= .comm (Conc.G (b.atR a (.inRegion ops (0::rest)::k)) cs) #[scase c (a.eval y) z] false .select w es:=by
 have hw:Region.wanted o (yielded ops a.tmps)=true:=dN
 have h:=stepGR_op (P:=P) (b:=b) (k:=k) (cs:=cs) (w:=w) (rest:=rest) ho hw;unfold Conc.G;rw[h];simp[stepG.apply,Oper.semAt,Pg,execOp,hx,scase,hz,Result.andThen];exact⟨_,rfl⟩
def ZzZ{x:Operand}{t e:TypeId}{d:ChanDir}{c:Nat}(ho:ops[0]? =some o)(hg:o.guard=none)(Pg:o.op= .recv t x true)(ht:P.underlying t=some (.chan d e))(hx:a.eval x= .chan (some c))(hz:(zeroValue e).run P w= .ok z w):
  ∃es,stepG P true (Conc.G (b.atR a (.inRegion ops (0::rest)::k)) cs) w= .comm (Conc.G (b.atR a (.inRegion ops (0::rest)::k)) cs) #[rcase c z] true (.recv true) w es:=by
 have hw:Region.wanted o (yielded ops a.tmps)=true:=dN
 have h:=stepGR_op (P:=P) (b:=b) (k:=k) (cs:=cs) (w:=w) (rest:=rest) ho hw;unfold Conc.G;rw[h];simp[stepG.apply,Oper.semAt,Pg,execOp,hx,rcase,hz,pU ht,Result.andThen];exact⟨_,rfl⟩
def ZSn{x y:Operand}{e:TypeId}{c s r:Nat}(ho:ops[0]? =some o)(hg:o.guard=none)(Pg:o.op= .select #[{chan:=x,send:=some y,elem:=e}] false)(hx:a.eval x= .chan (some c))(hz:(zeroValue e).run P w= .ok z w)(hc:w.heap[c]? =some (.chan cap buf false s r tm))(Zac:buf.size<cap):
  step P (lone (b.atR a (.inRegion ops (0::rest)::k)) cs w)= .next (lone (b.atR (a.put o.dst (.tuple #[goInt 0,.bool false])) (.inRegion ops rest::k)) cs (w.setChan c cap (buf.push (a.eval y)) false (s+1) r tm)):=by
 obtain⟨es,h⟩:=ZSk (b:=b) (k:=k) (cs:=cs) (rest:=rest) ho hg Pg hx hz;have:=step_lone_select_send_room h hc Zac;rw[ZmI ho]at this;exact this
def ZRW{x:Operand}{t e:TypeId}{d:ChanDir}{c s r:Nat}{closed:Bool}(ho:ops[0]? =some o)(hg:o.guard=none)(Pg:o.op= .recv t x true)(ht:P.underlying t=some (.chan d e))(hx:a.eval x= .chan (some c))(hz:(zeroValue e).run P w= .ok z w)(hc:w.heap[c]? =some (.chan cap buf closed s r tm))(ZLM:0<buf.size):
  step P (lone (b.atR a (.inRegion ops (0::rest)::k)) cs w)= .next (lone (b.atR (a.put o.dst (.tuple #[buf.getD 0 undef,.bool true])) (.inRegion ops rest::k)) cs (w.setChan c cap (buf.extract 1 buf.size) closed s (r+1) tm)):=by
 obtain⟨es,h⟩:=ZzZ (b:=b) (k:=k) (cs:=cs) (rest:=rest) ho hg Pg ht hx hz;have:=step_lone_recv_buf true h hc ZLM;rw[ZmI ho]at this;exact this
def ZRX{x:Operand}{t e:TypeId}{d:ChanDir}{c s r:Nat}(ho:ops[0]? =some o)(hg:o.guard=none)(Pg:o.op= .recv t x true)(ht:P.underlying t=some (.chan d e))(hx:a.eval x= .chan (some c))(hz:(zeroValue e).run P w= .ok z w)(hc:w.heap[c]? =some (.chan cap #[] true s r tm)):
  step P (lone (b.atR a (.inRegion ops (0::rest)::k)) cs w)= .next (lone (b.atR (a.put o.dst (.tuple #[z,.bool false])) (.inRegion ops rest::k)) cs w):=by
 obtain⟨es,h⟩:=ZzZ (b:=b) (k:=k) (cs:=cs) (rest:=rest) ho hg Pg ht hx hz;have:=step_lone_recv_shut true h hc;rw[ZmI ho]at this;exact this
end
end
end Go.Proofs.YtncnkiabjhhclaaGreatDoor
