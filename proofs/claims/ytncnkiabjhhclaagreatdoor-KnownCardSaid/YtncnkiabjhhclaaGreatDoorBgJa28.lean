import Derived.Test.YtncnkiabjhhclaaGreatDoorBgJa25
set_option maxRecDepth 100000
set_option maxHeartbeats 8000000
set_option linter.all false
namespace Go.Proofs.YtncnkiabjhhclaaGreatDoor
open Go.Proofs.Tryz
variable{cu:Array Value}{cl:Bool}{ks:List Nat}{ts:List TypeId}{xs:List Value}{B C M Mx gty sz:Nat}{fr:Nat×Nat}{e' ty:TypeId}{gv sv wv:Value}{V W W' W0 wz:World}{wW:vS}
def vI{p:Prop}(h:p:=by rw[<-he]at q;clear he;go_wp2_with fail;go_ret;exact⟨⟨k,rfl,Z,Z,⟨λ_=>HM.out,λ_=>Z⟩⟩,rfl⟩):p:=h
def vJ{p:Prop}(h:p:=by go_wp2_with fail;go_ret;exact⟨⟨-1,rfl,Z,Z,⟨λh=>Z,λh=>absurd h HM.out⟩⟩,rfl⟩):p:=h
def vK:=@Go.World.ownsMap.look_ok
def lY{p:Prop}(h:p:=by obtain⟨b',rfl,_⟩:=wV;go_wp2;exact⟨rfl,.inl ⟨HR.out,xM.out⟩⟩):p:=h
def vL{p:Prop}(h:p:=by
 refine⟨h.1,?_⟩;rcases h.2 with h0|⟨g,cap,cu,rfl,hg,hh,r⟩
 ·exact jg
 ·have GH:g≠b:=by
   intro e1;subst e1;rw[hb]at hh;exact wF gV
  exact jk):p:=h
def vM:=@Go.wp_region_held_drew
open Go.RowKit
structure Ar where
 wu:List (vS×Nat)
 rows:List (List wG)
structure SX where
 name:vS
 T:Nat
 tb:Ar
def AL(xs:List SX)(i:Nat):Nat:=((xs.take i).map λx=>x.tb.wu.length).sum
def ZIc(xs)(i)(h:i<xs.length):AL xs (i+1)=AL xs i+xs[i].tb.wu.length:=by
 unfold AL;rw[o8 h,oo,tL];simp
def QZ(text:vS):List (vS×Nat)->Nat->Option (Nat×Nat)
 | [],_=>none
 |x::r,c=>if x.1=text then some (c,x.2)else QZ text r (c+1)
theorem ZxR{text:vS}:∀{l:List (vS×Nat)} {i:Nat} (c:Nat),(l.map (·.1)).Nodup->∀(h:i<l.length),l[i].1=text->QZ text l c=some (c+i,l[i].2)
 |x::r,0,c,_,h,e=>by
  have e':x.1=text:=e;rw[QZ,nY e'];try rfl
 |x::r,i+1,c,hn,h,e=>by
  rw[oq,sK]at hn;have hi:i<r.length:=ay
  have e':r[i].1=text:=e;have hx:x.1≠text:=λhx=>hn.1 (by rw[hx,<-e'];exact qm.2 ⟨r[i],oC hi,rfl⟩);rw[QZ,nU hx,ZxR (c+1) hn.2 hi e'];simp;omega
theorem ZxT{text:vS}:∀{l:List (vS×Nat)} (c:Nat),text∉l.map (·.1)->QZ text l c=none
 | [],_,_=>rfl
 |x::r,c,h=>by
  rw[oq,oQ,not_or]at h;rw[QZ,nU (λe=>h.1 e.symm),ZxT (c+1) h.2]
def MV(wW text:vS)(xs:List SX):Nat->Option (List (Nat×Nat))
 |0=>some []
 |k+1=>(MV wW text xs k).bind λl=>match xs[k]? with
  |none=>some l
  |some s=>match QZ text s.tb.wu 0 with
   |none=>if wW=s.name then none else some l
   |some p=>some (if wW= []\/wW=s.name then l++ [(AL xs k+p.1,p.2)]else l)
def ZO7{wW text : vS}{xs : List SX}{k n : Nat}(h : MV wW text xs k = none)(hn : k <= n) : MV wW text xs n = none := by
  induction n with
  | zero => have : k = 0 := by omega
            subst this; exact h
  | succ n ih =>
    rcases sj n k with hl | hl
    · have : k = n + 1 := by omega
      subst this; exact h
    · rw [MV, ih hl]; rfl
def Vj(wW text:vS)(xs:List SX):Option (List (Nat×Nat)):=MV wW text xs xs.length
structure Ub (W0:World) (T:Nat) (tb:Ar):Prop where
 obj:∃gc cap P rv,W0.heap[T]? =some (.cells #[.slice (some ⟨gc,0,none⟩) tb.wu.length cap,.map (some P),rv] 232)/\gc<W0.heap.size/\P<W0.heap.size/\(∀i (h:i<tb.wu.length),W0.cell? ⟨gc,i*2,none⟩=some (.string ⟨tb.wu[i].1.toArray⟩)/\W0.cell? ⟨gc,i*2+1,none⟩=some (.int .i64 (tb.wu[i].2:Nat)))/\JS W0 P tb.wu.length (placesOf (tb.wu.map (·.1)))/\FN W0 rv tb.rows
 nd:(tb.wu.map (·.1)).Nodup
 le:tb.wu.length<=6
 pos:1<=tb.wu.length
def I6(W:World)(v:Value)(xs:List SX):Prop:=
 ∃a cap,v= .slice a xs.length cap/\∀i (h:i<xs.length),∃g cu,a=some ⟨g,0,none⟩/\W.heap[g]? =some (.cells cu 261)/\W.cell? ⟨g,i*3,none⟩=some (.string ⟨xs[i].name.toArray⟩)/\W.cell? ⟨g,i*3+1,none⟩=some (.pointer (some ⟨xs[i].T,0,none⟩))/\W.cell? ⟨g,i*3+2,none⟩=some (.int .i64 (AL xs i:Nat))
structure Ml (W0:World) (xs:List SX):Prop where
 le:xs.length<=3
 VH:∀x∈xs,Ub W0 x.T x.tb
 ne:∀x∈xs,x.name≠ []
def ZeB{xs}(h:Ml W0 xs):∀i,AL xs i<=6*i:=by
 have:∀(l:List SX),(∀x∈l,x.tb.wu.length<=6)->∀i,((l.take i).map λx=>x.tb.wu.length).sum<=6*i:=by
  intro l;induction l with
  |nil=>intro _ i;simp
  |cons x l ih=>
   intro hl i;cases i with
   |zero=>simp
   |succ i=>
    have h1:=hl x tF;have h2:=ih (λy hy=>hl y (qb _ hy)) i;simp only[List.take_succ_cons,oq,List.sum_cons];omega
 exact this xs (λx hx=>(h.VH x hx).le)
def Y0:List TypeId:= [113,267,457,402,461]
structure CF (W W':World):Prop where
 os:W'.os=W.os
 tape:W'.tape=W.tape
 output:W'.output=W.output
 size:W.heap.size<=W'.heap.size
 bl:∀(g:Nat) (ob:Obj),W.heap[g]? =some ob->(∀cu ty fr,ob= .cells cu ty fr->ty∉Y0)->W'.heap[g]? =some ob
def CF.refl(W):CF W W:=⟨rfl,rfl,rfl,nV _,λ_ _ e _=>e⟩
theorem CF.trans{a b c}(h:CF a b)(k:CF b c):CF a c:=⟨k.os.trans h.os,k.tape.trans h.tape,k.output.trans h.output,om h.size k.size,λg ob e hn=>k.bl g ob (h.bl g ob e hn) hn⟩
def CF.vZ(h:vV W W'):CF W W':=⟨h.os,h.tape,h.output,h.size,λg ob e _=>xq h e⟩
theorem CF.cells(h:CF W W'){g:Nat}(e:W.heap[g]? =some (.cells cu ty fr))(ht:ty∉Y0):W'.heap[g]? =some (.cells cu ty fr):=h.bl g _ e (λ_ _ _ e2=>by cases e2;exact ht)
def CF.BV(h:CF W W'):KT IQ W W':=λg cu ty ht e=>h.cells e (by intro hm;revert ht;unfold Y0 at hm;simp at hm;rcases hm with rfl|rfl|rfl|rfl|rfl<;>decide)
def I6.cf{v}{xs}(h:I6 W v xs)(hc:CF W W'):I6 W' v xs:=by
 obtain⟨a,cap,rfl,hx⟩:=h;refine⟨a,cap,rfl,λi hi=>?_⟩;obtain⟨g,cu,e,ho,c0,c1,c2⟩:=hx i hi;have h1:=hc.cells ho O;have hb:=h1.trans ho.symm;exact⟨g,cu,e,h1,yP hb c0,yP hb c1,yP hb c2⟩
def Ni(W:World)(v:Value)(ks:List Nat):Prop:=
 ∃a cap,v= .slice a ks.length cap/\∀i (h:i<ks.length),∃g cu,a=some ⟨g,0,none⟩/\W.heap[g]? =some (.cells cu 3)/\W.cell? ⟨g,i,none⟩=some (.int .i64 (ks[i]:Nat))
def Ni.cf{v}(h:Ni W v ks)(hc:CF W W'):Ni W' v ks:=by
 obtain⟨a,cap,rfl,hx⟩:=h;refine⟨a,cap,rfl,λi hi=>?_⟩;obtain⟨g,cu,e,ho,c0⟩:=hx i hi;have h1:=hc.cells ho O;exact⟨g,cu,e,h1,yP (h1.trans ho.symm) c0⟩
def Gx(W0:World)(e:Ending)(W':World):Prop:=∃b,e= .panicked (ZgK b)/\W'.heap[b]? =some (.cells #[.int .i64 5,.int .i64 0] 58)/\W0.heap.size<=b/\vV W0 W'
def Um(w):Calls prog 98 #[.bool true] w λe w'=>e= .returned (.tuple #[])/\w=w':=by
 go_enter func98,ntmps98;go_wp2_with fail;go_end0;exact⟨rfl,rfl⟩
def Ul(w):Calls prog 98 #[.bool false] w λe w'=>Gx w e w':=by
 go_enter func98,ntmps98;go_wp2_with fail;refine(ZqF 5 0 _).mono ?_;rintro e w' ⟨rfl,rfl⟩;go_wp2;exact⟨rfl,w.heap.size,rfl,xI _ _,nV _,(nW _ _).alloc (nV _) _⟩
def Gx.from{e}(h:Gx W e W')(hB:vV W0 W):Gx W0 e W':=by
 obtain⟨b,h1,h2,h3,h4⟩:=h;exact⟨b,h1,h2,om hB.size h3,hB.trans (h4.mono hB.size)⟩
structure yL (W0:World) (C M:Nat) (cl:Bool) (W:World):Prop where
 low:vV W0 W
 hC:W0.heap.size<=C
 obj:W.heap[C]? =some (.cells #[.map (some M),.bool cl] 113)
def yL.below(h:yL W0 C M cl W)(hB:vV W W'):yL W0 C M cl W':=
 ⟨h.low.trans (hB.mono h.low.size),h.hC,xq hB h.obj⟩
def yL.set(h:yL W0 C M cl W)(b):yL W0 C M b (W.setCell ⟨C,1,none⟩ (.bool b))/\Ox [C] W (W.setCell ⟨C,1,none⟩ (.bool b)):=by
 have h1:=zD (k:=1) (u:=.bool b) h.obj;refine⟨⟨h.low.setCell (p:=⟨C,1,none⟩) h.hC _,h.hC,bQ⟩,rfl,rfl,rfl,by rw[Bf];exact nV _,λg _ hg=>uX _ _ _ _ (λe=>hg (by have e2:g=C:=e;simp[e2]))⟩
def Cz(a b:Nat):Bool:=decide (a≠0)&&(decide (b≠0)&&decide (a≠b))
def JP(a b:Nat):Nat:=if a=0 then b else a
def Z0f{p:Prop}(h:p:=by
 go_enter func93,ntmps93;go_wp2_with fail;go_ret;exact⟨eT,(HI.out.set false).2,by rw[HC.out];exact(HI.out.set false).1⟩):p:=h
def ZhV(W0)(C M)(cl)(a b:Nat)(W)(h:yL W0 C M cl W):
  Calls prog 93 #[vU C,.int .i64 a,.int .i64 b] W λe W'=>e= .returned (.int .i64 (JP a b:Nat))/\Ox [C] W W'/\yL W0 C M (cl||Cz a b) W':=by
 have z1:=zS h.obj;have zf:W.frozen? ⟨C,1,none⟩=false:=by simp[World.frozen?,h.obj]
 have HI:=vR h;clear h;unfold vU;by_cases ha:a=0
 ·subst ha;have HC:Hid (Cz 0 b=false):=by show _=_;simp[Cz]
  have HP:Hid (JP 0 b=b):=by show _=_;simp[JP]
  have hz:((0:Nat):Int)=0:=rfl;rw[hz];go_enter func93,ntmps93;go_wp2_with fail;go_ret;exact⟨eT,Ox.refl _ _,by rw[HC.out,Bool.or_false];exact HI.out⟩
 ·have ha0:((a:Int)==0)=false:=by rw[pQ];omega
  have HP:Hid (JP a b=a):=by show _=_;simp[JP,ha]
  cases cl with
  |true=>
   go_enter func93,ntmps93;go_wp2_with fail;go_ret;exact⟨eT,(HI.out.set true).2,(HI.out.set true).1⟩
  |false=>
   by_cases hb:b=0
   ·subst hb;have HC:Hid (Cz a 0=false):=by show _=_;simp[Cz]
    have hz:((0:Nat):Int)=0:=rfl;rw[hz];exact Z0f
   ·have Bj:((b:Int)==0)=false:=by rw[pQ];omega
    by_cases ZC:a=b
    ·subst ZC;have HC:Hid (Cz a a=false):=by show _=_;simp[Cz]
     exact Z0f
    ·have ZJO:((a:Int)==(b:Int))=false:=by rw[pQ];omega
     have HC:Hid (Cz a b=true):=by show _=_;simp[Cz,ha,hb,ZC]
     have HV:Hid (((b:Int) != 0&&(a:Int) != (b:Int))=true):=by show _=_;simp[bne,Bj,ZJO]
     go_enter func93,ntmps93;go_wp2_with fail;go_ret;rw[HV.out];exact⟨eT,(HI.out.set true).2,by rw[HC.out];exact(HI.out.set true).1⟩
def tyV:wG->Nat| .null=>0| .int _=>1| .text _=>2
def ZFO(W)(v):Calls prog 215 #[xe v] W λe w'=>e= .returned (.int .i64 (tyV v:Nat))/\w'=W:=by
 have t1:∀n w,(Instr.typeAssert (.iface 142 (.int .i64 n)) 80 142 true).run prog w= .ok (.tuple #[.int .i64 n,.bool true]) w:=λ_ _=>af
 have t2:∀n w,(Instr.typeAssert (.iface 82 (.string n)) 80 142 true).run prog w= .ok (.tuple #[.int .i64 0,.bool false]) w:=λ_ _=>af
 have t3:∀n w,(Instr.typeAssert (.iface 82 (.string n)) 80 82 true).run prog w= .ok (.tuple #[.string n,.bool true]) w:=λ_ _=>af
 have t4:∀w,(Instr.typeAssert (.iface 140 (.agg #[])) 80 142 true).run prog w= .ok (.tuple #[.int .i64 0,.bool false]) w:=λ_=>af
 have t5:∀w,(Instr.typeAssert (.iface 140 (.agg #[])) 80 82 true).run prog w= .ok (.tuple #[.string ⟨#[]⟩,.bool false]) w:=λ_=>af
 cases v;all_goals
  unfold xe;go_enter func215,ntmps215;exact kN
def ZAU(w:World)(o1)(a b)(ty):(((w.alloc o1).alloc (.cells #[a,b] ty)).drew).cell? ⟨w.heap.size+1,0,none⟩=some a/\(((w.alloc o1).alloc (.cells #[a,b] ty)).drew).cell? ⟨w.heap.size+1,1,none⟩=some b:=by
 have h:=xI (w.alloc o1) (.cells #[a,b] ty);have hs:(w.alloc o1).heap.size=w.heap.size+1:=ae
 rw[hs]at h;have h':(((w.alloc o1).alloc (.cells #[a,b] ty)).drew).heap[w.heap.size+1]? =some (.cells #[a,b] ty):=h;generalize (((w.alloc o1).alloc (.cells #[a,b] ty)).drew)=W at h';exact⟨by simp[World.cell?,h'],by simp[World.cell?,h']⟩
def Ztx(W0)(nm:vS)(T)(tb)(first i:Nat)(W)(ht:Ub W0 T tb)(hB:vV W0 W)(hi:i<tb.wu.length)(hf:first<=1000):
  Calls prog 230 #[.agg #[.string ⟨nm.toArray⟩,vU T,.int .i64 first],.int .i64 i] W λe W'=>e= .returned (.agg #[.int .i64 ((first+i:Nat):Int),.int .i64 (tb.wu[i].2:Nat)])/\vV W W':=by
 obtain⟨gc,cap,P,rv,ho,hg,hP,Cv,_⟩:=ht.obj;have hT:=(wo ho);have hle:=ht.le;have t0:W.cell? ⟨T,0,none⟩=some (.slice (some ⟨gc,0,none⟩) tb.wu.length cap):=wT hB hT (xH ho);have t1:=wT hB hg (Cv i hi).2;have Lu:=oU hT hB.size;have xL:=oU hg hB.size;generalize tb.wu[i].2=ty at *;have Hr:(i:Int)<(tb.wu.length:Int):=Z
 clear ht ho Cv hB;generalize tb.wu.length=nc at *;unfold vU;go_enter func230,ntmps230;go_wp2_with fail;have t0a:=λo1 o2=>(oD _ o2 ⟨T,0,none⟩ ah).trans ((oD W o1 ⟨T,0,none⟩ Lu).trans t0);have t1a:=λo1 o2=>(oD _ o2 ⟨gc,i*2+1,none⟩ ah).trans ((oD W o1 ⟨gc,i*2+1,none⟩ xL).trans t1);have r0:=fun(w:World) (o1:Obj) (a:Value) (b:Value) (ty:TypeId)=>(ZAU w o1 a b ty).1;have r1:=fun(w:World) (o1:Obj) (a:Value) (b:Value) (ty:TypeId)=>(ZAU w o1 a b ty).2;go_region;go_wp2;refine uZ (v:=.agg #[.int .i64 (first+i:Int),.int .i64 (ty:Nat)]) (by simp[results,Tryz.results230,go_sem,r0,r1]) rfl ⟨by rfl,?_⟩;exact yF (((nW _ W).alloc (nV _) _).alloc ae _) 1
def ZFz(kv)(ks)(v:Nat)(W)(h:Ni W kv ks)(hl:ks.length<=400):
  Calls prog 338 #[kv,.int .i64 v] W λe w'=>(∃n,e= .returned (.int .i64 n)/\ -1<=n/\n<=400/\(0<=n↔v∈ks))/\W=w':=by
 obtain⟨a,cap,rfl,hc⟩:=h;have HT:Hid (∀i (h:i<ks.length),∃g,a=some ⟨g,0,none⟩/\W.cell? ⟨g,i,none⟩=some (.int .i64 (ks[i]:Nat))):=λi hi=>by
  obtain⟨g,cu,e,_,c0⟩:=hc i hi;exact⟨g,e,c0⟩
 clear hc;go_enter func338,ntmps338;go_wp2_with fail;go_loopg [8] (ks.length+1) (λgk iv wr=>∃k:Nat,k<=ks.length/\gk=ks.length-k+1/\iv= .int .i64 k/\W=wr/\Hid (∀j (hj:j<ks.length),j<k->v≠ks[j]));case atStart=>exact⟨0,Z,Z,rfl,rfl,λj _ h=>Z⟩
 case round=>
  obtain⟨k,hk,rfl,rfl,rfl,wO⟩:=hrel;by_cases hlt:k<ks.length
  ·obtain⟨g,rfl,q⟩:=HT.out k hlt;by_cases he:v=ks[k]
   ·have HM:Hid (v∈ks):=by show v∈ks;rw[he];exact oC hlt
    exact vI
   ·have he':((v:Int)==(ks[k]:Int))=false:=by simp;omega
    have HN:Hid (∀j (hj:j<ks.length),j<k+1->v≠ks[j]):=λj hj h=>by
     by_cases e:j=k
     ·subst e;exact he
     ·exact wO.out j hj Z
    clear he;generalize ks[k]=x at q he';go_wp2_with fail;go_roundg (ks.length-(k+1)+1);case measure=>omega
    case rel=>exact⟨k+1,Z,rfl,ak,rfl,HN⟩
  ·have HM:Hid (v∉ks):=λhm=>by
    exact l9
   exact vJ
def ZFs(kv)(ks)(v:Nat)(W)(h:Ni W kv ks)(hl:ks.length<=400):
  Calls prog 281 #[kv,.int .i64 v] W λe w'=>e= .returned (.bool (decide (v∈ks)))/\w'=W:=by
 obtain⟨a,cap,rfl⟩:∃a cap,kv= .slice a ks.length cap:=by obtain⟨a,c,e,_⟩:=h;exact⟨a,c,e⟩
 go_enter func281,ntmps281;go_wp2_with fail;refine(ZFz _ ks v _ h hl).mono ?_;rintro e w' ⟨⟨n,rfl,h1,h2,h3⟩,rfl⟩;have HC:Hid (decide (v∈ks)=decide (0<=n)):=by
  show _=_;rw[p9,oL,oL,h3]
 clear h3;go_wp2_with fail;go_ret;rw[HC.out];exact jS
def Tryz.ZMx:(prog.info? 367).map (λi=>(i.zero,i.size,i.bytes))=some (some (.agg #[.int .i64 0,.int .i64 0]),2,16):=by kernel_rfl
def IB(l:List (Nat×Nat)):List Value:=l.flatMap λp=> [.int .i64 (p.1:Nat),.int .i64 (p.2:Nat)]
def ZwH(a b):IB (a++b)=IB a++IB b:=by simp[IB]
theorem Zoh:∀l i (h:i<l.length),(IB l)[i*2]? =some (.int .i64 (l[i].1:Nat))/\(IB l)[i*2+1]? =some (.int .i64 (l[i].2:Nat))
 |c::cs,0,h=>by simp[IB]
 |c::cs,i+1,h=>by
  have ih:=Zoh cs i ay;have e:∀j,(IB (c::cs))[j+2]? =(IB cs)[j]? :=λj=>by simp[IB]
  exact nD
def ZOs{P n}{names:List vS}(hn:names.Nodup)(s)(hs:s.length<=100000):
  (∃c:Nat,names[c]? =some s/\∀w,JS w P n (placesOf names)->(Instr.lookup 230 (.map (some P)) (.string ⟨s.toArray⟩) true).run prog w= .ok (.tuple #[.int .i64 c,.bool true]) w)\/
  (s∉names/\∀w,JS w P n (placesOf names)->(Instr.lookup 230 (.map (some P)) (.string ⟨s.toArray⟩) true).run prog w= .ok (.tuple #[.int .i64 0,.bool false]) w):=by
 by_cases hm:s∈names
 ·obtain⟨c,hc,rfl⟩:=rY hm;refine .inl ⟨c,oW hc,λw h=>?_⟩;obtain⟨v,ps,Ba,hv⟩:=vK (R:=Pv) (D:=Ov (placesOf names)) h K8 underlying230 (ZBt w) rfl (K7 names[c] hs);rw[ZiT,ZpR,rC.2 hm]at Ba;rw[ZsN (by rw[ZpR];exact hn) (ZQ1 hc)]at hv;rw[Zt7 hv]at Ba;exact Ba
 ·refine .inr ⟨hm,λw h=>?_⟩;obtain⟨v,ps,Ba,hv⟩:=vK (R:=Pv) (D:=Ov (placesOf names)) h K8 underlying230 (ZBt w) rfl (K7 s hs);have hh:Maps.has (Ov (placesOf names)) (AB s)=false:=by rw[ZiT,ZpR,uM];simpa using hm
  rw[hh]at Ba;rw[Maps.atKey_of_not_has hh]at hv;rw[Zt7 (k:=0) hv]at Ba;exact Ba
def xh{w:World}{b:Nat}{x y z:Value}(h:w.heap[b]? =some (.cells #[x,y,z] ty)):w.cell? ⟨b,0,none⟩=some x/\w.cell? ⟨b,1,none⟩=some y/\w.cell? ⟨b,2,none⟩=some z:=by
 refine⟨?_,?_,?_⟩<;>simp[World.cell?,h]
def Zh1(w:World)(a b)(ty):∀j u, [a,b][j]? =some u->(w.alloc (.cells #[a,b] ty)).cell? ((⟨w.heap.size,0,none⟩:Addr).add j)=some u:=λj u h=>by
 match j with
 |0=>simp at h;subst h;simp[Addr.add]
 |1=>simp at h;subst h;simp[Addr.add]
 |n+2=>simp at h
def Z0g{p:Prop}(h:p:=by
 go_wp2_with fail;go_roundg (xs.length-(k+1)+1);case measure=>omega
 case rel=>exact⟨k+1,l,Z,rfl,ak,SN,yF Ze nq,Z,HON.out⟩):p:=h
def ZFI(W0 W)(b)(sv av gv)(xs)(wW text)(x8:vV W0 W)(ho:W.heap[b]? =some (.cells #[sv,av,gv] 244))(CL:I6 W sv xs)(hs:Ml W0 xs)(zW:text.length<=90000):
  Calls prog 226 #[vU b,.agg #[.string ⟨wW.toArray⟩,.string ⟨text.toArray⟩]] W λe W'=>
   (Vj wW text xs=none/\Gx W e W')\/∃l lv,Vj wW text xs=some l/\e= .returned lv/\W'.ownsRow W.heap.size 367 2 lv l.length (IB l)/\vV W W':=by
 have c0:=xH ho;have zi:=(wo ho);obtain⟨sa,sc,rfl,hsc⟩:=CL;have hle:=hs.le;have HSC:Hid (∀w',vV W w'->∀k (hk:k<xs.length),∃g,sa=some ⟨g,0,none⟩/\w'.cell? ⟨g,k*3,none⟩=some (.string ⟨xs[k].name.toArray⟩)/\w'.cell? ⟨g,k*3+1,none⟩=some (.pointer (some ⟨xs[k].T,0,none⟩))/\w'.cell? ⟨g,k*3+2,none⟩=some (.int .i64 (AL xs k:Nat))):=λw' hB k hk=>by
  exact l8
 have HFL:=vR (ZeB hs);have SA:=vR (λw' (hB:vV W w')=>x8.trans (hB.mono x8.size));have HS:=vR hs;clear hsc hs;obtain⟨i0,hi,hz0,yo,hz2⟩:=oM Tryz.ZMx;unfold vU;go_enter func226,ntmps226;go_wp2_with fail;generalize yn:W.alloc (.cells #[.string ⟨wW.toArray⟩,.string ⟨text.toArray⟩] 365)=Wp;have xA:vV W Wp:=by rw[<-yn];exact(nW _ W).alloc (nV _) _
 have Hz:Wp.heap.size=W.heap.size+1:=by rw[<-yn];simp
 have SL:Wp.heap[W.heap.size]? =some (.cells #[.string ⟨wW.toArray⟩,.string ⟨text.toArray⟩] 365):=by rw[<-yn];exact xI W _
 have VZ:Hid (∀w',vV Wp w'->w'.cell? ⟨W.heap.size,0,none⟩=some (.string ⟨wW.toArray⟩)/\w'.cell? ⟨W.heap.size,1,none⟩=some (.string ⟨text.toArray⟩)/\vV W w'):=λw' hb=>by
  have h0:=(hb.block W.heap.size Z).trans SL;exact⟨by simp[World.cell?,h0],by simp[World.cell?,h0],xA.trans (hb.mono Z)⟩
 have zT:=wT xA zi c0;clear yn SL xA c0;go_loopg [5,15] (xs.length+1) (λgk lv iv wr=>∃(k:Nat) (l:List (Nat×Nat)),k<=xs.length/\gk=xs.length-k+1/\iv= .int .i64 k/\wr.ownsRow Wp.heap.size 367 2 lv l.length (IB l)/\vV Wp wr/\l.length<=k/\Hid (MV wW text xs k=some l));case atStart=>exact⟨0, [],Z,Z,rfl,pV _ _ _ _,nW _ _,nV _,rfl⟩
 case round=>
  obtain⟨k,l,hk,rfl,rfl,wD,hB,zQ,hI⟩:=hrel;obtain⟨cn0,cn1,xX⟩:=VZ.out wr hB;by_cases hlt:k<xs.length
  ·obtain⟨g,rfl,d0,d1,d2⟩:=HSC.out wr xX k hlt;have C9:=HS.out.VH xs[k] (oC hlt);obtain⟨gc,cap,P,rv,ND,hgc,Zr,Cv,Ji,_⟩:=C9.obj;have Lu:=(wo ND);have wF:=HS.out.ne _ (oC hlt);have Wd:Hid (MV wW text xs (k+1)=match QZ text xs[k].tb.wu 0 with|none=>if wW=xs[k].name then none else some l|some p=>some (if wW= []\/wW=xs[k].name then l++ [(AL xs k+p.1,p.2)]else l)):=by
    show _=_;rw[MV,hI.out,Option.bind_some,oW hlt];try rfl
   have Xv:=hB.size;have yx:∀ob n,vV Wp ((wr.alloc ob).drewN n):=λob n=>yF (hB.alloc Xv _) n;have NB:∀ob,(wr.alloc ob).cell? ⟨xs[k].T,1,none⟩=some (.map (some P)):=λob=>wT (SA.out _ (VZ.out _ (yx ob 0)).2.2) Lu (zS ND);have IJ:=λob n=>Il Ji ((SA.out _ (VZ.out _ (yx ob n)).2.2).block P Zr);have hkf:=HFL.out k;have HTK:=vR C9;have hcn:=C9.nd;have hc6:=C9.le;clear C9 Ji ND Cv Lu Zr hI;generalize Kg:AL xs k=fk at *;have HFK:=vR Kg;clear Kg;go_wp2_with fail;generalize yX:(Obj.cells #[.string ⟨xs[k].name.toArray⟩,.pointer (some ⟨xs[k].T,0,none⟩),.int .i64 (fk:Nat)] 261)=ob;have Jh:(wr.alloc ob).heap[wr.heap.size]? =some (.cells #[.string ⟨xs[k].name.toArray⟩,.pointer (some ⟨xs[k].T,0,none⟩),.int .i64 (fk:Nat)] 261):=by rw[<-yX];exact xI wr _
   obtain⟨e0,e1,e2⟩:=xh Jh;replace NB:=NB ob;replace IJ:=IJ ob;obtain⟨cm0,cm1,zA⟩:=VZ.out _ (yx ob 0);replace cm0:(wr.alloc ob).cell? ⟨W.heap.size,0,none⟩=some (.string ⟨wW.toArray⟩):=cm0;replace cm1:(wr.alloc ob).cell? ⟨W.heap.size,1,none⟩=some (.string ⟨text.toArray⟩):=cm1;have ZMg:vV W0 (wr.alloc ob):=SA.out _ zA;have Ze:=yx ob 0;replace Ze:vV Wp (wr.alloc ob):=Ze;have SN:=wD.alloc ob;clear hB xX wD cn0 cn1 yX Jh yx zA d0 d1 d2;rcases ZOs (P:=P) (n:=xs[k].tb.wu.length) hcn text Z with⟨c,hc,Ba⟩|⟨wO,Ba⟩
   ·have hl:=λn=>Ba _ (IJ n);have Jg:=hl 0;replace Jg:(Instr.lookup 230 (.map (some P)) (.string ⟨text.toArray⟩) true).run prog (wr.alloc ob)= .ok (.tuple #[.int .i64 c,.bool true]) (wr.alloc ob):=Jg;clear Ba IJ;generalize wr.alloc ob=w1 at *;go_quiet (fail);go_wp2_with fail;refine(Um _).mono ?_;rintro e w' ⟨rfl,rfl⟩;obtain⟨ZH,UK⟩:=qP.1 hc;rw[pY]at ZH;rw[uj]at UK;have Ju:Hid (QZ text xs[k].tb.wu 0=some (c,xs[k].tb.wu[c].2)):=by
     show _=_;rw[ZxR 0 hcn ZH UK];simp
    by_cases hA:wW= []\/wW=xs[k].name
    ·have HON:Hid (MV wW text xs (k+1)=some (l++ [(fk+c,xs[k].tb.wu[c].2)])):=by
      show _=_;rw[Wd.out,Ju.out];simp only;rw[nY hA]
     have Zfm:=λnq=>Ztx W0 xs[k].name xs[k].T xs[k].tb fk c (w1.drewN nq) HTK.out (yF ZMg nq) ZH Z;unfold vU at Zfm;generalize xs[k].tb.wu[c].2=ty at Zfm HON;have ZLN:((wW== [])=true)\/((wW== [])=false/\(wW==xs[k].name)=true):=by
      rcases hA with h|h
      ·exact .inl (by simp[h])
      ·by_cases h0:wW= []
       ·exact .inl (by simp[h0])
       ·exact .inr ⟨by simpa using h0,by simp[h]⟩
     clear hA UK Ju Wd;rcases ZLN with yz|⟨yz,Af⟩;all_goals
      go_wp2_with fail;refine(Zfm _).mono ?_;rintro e w2 ⟨rfl,wK⟩;have ZLp:(w1.drewN nq).ownsRow Wp.heap.size 367 2 u5 l.length (IB l):=SN;have zI:=zC ZLp wK;have MC:=(yF Ze nq).trans (wK.mono (yF Ze nq).size);have Ay:=MC.size;go_wp2_with (at_builtin;go_must (refine pE _ rfl _ _ 467 rfl Wp.heap.size 367 i0 (.agg #[.int .i64 0,.int .i64 0]) 2 16 underlying467 hi hz0 yo hz2 rfl O _ _ _ rfl (zI.alloc _) ⟨w2.heap.size,0,none⟩ 1 1 [.int .i64 ((fk+c:Nat):Int),.int .i64 (ty:Nat)] rfl rfl (Zh1 _ _ _ _) au aj Z ah ?_);intro v' w6 zm xQ _);go_roundg (xs.length-(k+1)+1);case measure=>omega
      case rel=>
       have Gf:=Zbx MC Ay zI xQ;exact⟨k+1,l++ [(fk+c,ty)],Z,rfl,ak,by rw[ZwH,o6];exact zm,Gf,ah,HON.out⟩
    ·have HON:Hid (MV wW text xs (k+1)=some l):=by
      show _=_;rw[Wd.out,Ju.out];simp only;rw[nU hA]
     have yz:(wW== [])=false:=by simpa using λh=>hA (.inl h)
     have Af:(wW==xs[k].name)=false:=by simpa using λh=>hA (.inr h)
     clear hA Wd Ju UK;exact Z0g
   ·have hl:=λn=>Ba _ (IJ n);have Jg:=hl 0;replace Jg:(Instr.lookup 230 (.map (some P)) (.string ⟨text.toArray⟩) true).run prog (wr.alloc ob)= .ok (.tuple #[.int .i64 0,.bool false]) (wr.alloc ob):=Jg;clear Ba IJ;generalize wr.alloc ob=w1 at *;have Ju:=vR (ZxT 0 wO);by_cases hA:wW=xs[k].name
    ·have HAT:Hid (Vj wW text xs=none):=by
      refine ZO7 (k:=k+1) ?_ Z;rw[Wd.out,Ju.out];simp only;rw[nY hA]
     have Af:(wW==xs[k].name)=true:=by simpa using hA
     have z8:(wW != xs[k].name)=false:=by simp[hA]
     clear hA Wd;go_quiet (fail);go_wp2_with fail;refine(Ul _).mono ?_;rintro e w' wV;have ZbQ:=(VZ.out w1 Ze).2.2;have HT:=vR (wV.from (yF ZbQ nq));obtain⟨b',rfl,_⟩:=wV;go_wp2;exact⟨rfl,.inl ⟨HAT.out,HT.out⟩⟩
    ·have Af:(wW==xs[k].name)=false:=by simpa using hA
     have HON:Hid (MV wW text xs (k+1)=some l):=by
      show _=_;rw[Wd.out,Ju.out];simp only;rw[nU hA]
     clear hA Wd;go_quiet (fail);go_wp2_with fail;refine(Um _).mono ?_;rintro e w' ⟨rfl,rfl⟩;exact Z0g
  ·obtain rfl:k=xs.length:=by omega
   have JY:Hid (wr.ownsRow W.heap.size 367 2 u5 l.length (IB l)):=by
    refine⟨wD.1,?_⟩;rcases wD.2 with h0|⟨g,cap,cur,e,hg,r⟩
    ·exact jg
    ·exact .inr ⟨g,cap,cur,e,Z,r⟩
   obtain⟨xa,xc,rfl⟩:=yN wD;clear wD;go_wp2_with fail;go_ret;exact .inr ⟨l,_,hI.out,rfl,JY.out,xX⟩
structure yR where
 xs:List SX
 xB:Option (List Nat×List (vS×PX))
 out:Option (List SX×List (Nat×Nat))
def Og(made:List (vS×PX))(fs:List Value):List Value:=(made.zip fs).flatMap λp=> [.string ⟨p.1.1.toArray⟩,p.2]
def Jv(W0 W:World)(wv:Value):Option (List SX×List (Nat×Nat))->Prop
 |none=>wv= .pointer none
 |some (zX,xY)=>∃w ob FD nv,wv=vU w/\W.heap[w]? =some (.cells #[vU ob,nv] 457)/\W.heap[ob]? =some (.cells #[FD,.pointer none,.pointer none] 244)/\I6 W FD zX/\Ml W0 zX/\W0.heap.size<=w/\xY.length<=400/\W.ownsRow W0.heap.size 461 2 nv xY.length (IB xY)/\∀n∈xY,n.1<=11/\n.2<=100
def Yl(W0 W:World)(sv wv gv:Value):Option (List Nat×List (vS×PX))->Prop
 |none=>gv= .pointer none
 |some (keys,made)=>∃G kv mv rb fs,gv=vU G/\W.heap[G]? =some (.cells #[kv,vU rb,mv] 267)/\Ni W kv keys/\keys.length<=400/\W.heap[rb]? =some (.cells #[sv,wv,.pointer none] 244)/\W0.heap.size<=G/\made.length<=400/\fs.length=made.length/\W.ownsRow W0.heap.size 402 2 mv made.length (Og made fs)/\∀i (h:i<made.length) (h':i<fs.length),zz W made[i].2 fs[i]
def yS(W0 W:World)(b:Nat)(e:yR):Prop:=∃sv wv gv,W.heap[b]? =some (.cells #[sv,wv,gv] 244)/\I6 W sv e.xs/\Ml W0 e.xs/\Jv W0 W wv e.out/\Yl W0 W sv wv gv e.xB
def ZgW:List TypeId:= [457,461]
def Cu:List TypeId:= [267,402]
def MZ{ty n:Nat}{v:Value}(h:W.ownsRow B ty sz v n xs)(hk:KT ts W W')(ht:ty∈ts):W'.ownsRow B ty sz v n xs:=by
 refine⟨h.1,?_⟩;rcases h.2 with h0|⟨g,cap,cur,e,hg,hh,r⟩
 ·exact jg
 ·exact .inr ⟨g,cap,cur,e,hg,hk g cur ty ht hh,r⟩
theorem Jv.cf:∀{o:Option (List SX×List (Nat×Nat))},Jv W0 W wv o->CF W W'->KT ZgW W W'->Jv W0 W' wv o
 |none,h,_,_=>h
 |some (zX,xY),⟨w,ob,FD,nv,e,h1,h2,h3,h4,h5,h6,h7,h8⟩,hc,hk=>⟨w,ob,FD,nv,e,hk _ _ _ O h1,hc.cells h2 O,h3.cf hc,h4,h5,h6,MZ h7 hk O,h8⟩
theorem Yl.cf:∀{o:Option (List Nat×List (vS×PX))},Yl W0 W sv wv gv o->CF W W'->KT Cu W W'->Yl W0 W' sv wv gv o
 |none,h,_,_=>h
 |some (keys,made),⟨G,kv,mv,rb,fs,e,h1,h2,h3,h4,h5,h6,h7,h8,h9⟩,hc,hk=>⟨G,kv,mv,rb,fs,e,hk _ _ _ O h1,h2.cf hc,h3,hc.cells h4 O,h5,h6,h7,MZ h8 hk O,λi p q=>(h9 i p q).same hc.BV⟩
theorem yS.cf{b}{e}(h:yS W0 W b e)(hc:CF W W')(h1:KT ZgW W W')(h2:KT Cu W W'):yS W0 W' b e:=by
 obtain⟨sv,wv,gv,k1,k2,k3,k4,k5⟩:=h;exact⟨sv,wv,gv,hc.cells k1 O,k2.cf hc,k3,k4.cf hc h1,k5.cf hc h2⟩
def yS.below{b}{e}(h:yS W0 W b e)(hB:vV W W'):yS W0 W' b e:=h.cf (CF.vZ hB) (KT.vZ hB) (KT.vZ hB)
def ZaL:Option (List Nat×List (vS×PX))->Nat->Bool
 |none,_=>true
 |some (keys,_),at_=>decide (at_∈keys)
def ZFK(W0 W)(b)(e)(at_ ty:Nat)(h:yS W0 W b e):
  Calls prog 228 #[vU b,.agg #[.int .i64 at_,.int .i64 ty]] W λen W'=>en= .returned (.bool (ZaL e.xB at_))/\vV W W':=by
 obtain⟨sv,wv,gv,ho,_,_,_,hg⟩:=h;have zi:=(wo ho);have c2:=KG ho;unfold vU;cases A7:e.xB with
 |none=>
  rw[A7]at hg;have Cj:gv= .pointer none:=hg;subst Cj;clear hg A7;go_enter func228,ntmps228;go_wp2_with fail;have c2a:=λo=>(oD W o ⟨b,2,none⟩ zi).trans c2;go_quiet (fail);go_wp2;go_ret;exact jT
 |some p=>
  obtain⟨keys,made⟩:=p;rw[A7]at hg;obtain⟨G,kv,mv,rb,fs,rfl,hG,hk,zl,_⟩:=hg;have hGl:=(wo hG);have g0:=xH hG;have HK:=vR (λw' (hB:vV W w')=>hk.cf (CF.vZ hB));obtain⟨ka,kc,rfl⟩:∃a c,kv= .slice a keys.length c:=by obtain⟨a,c,e,_⟩:=hk;exact⟨a,c,e⟩
  have HE:Hid (ZaL (some (keys,made)) at_=decide (at_∈keys)):=rfl;clear hk A7 hG;unfold vU at c2;go_enter func228,ntmps228;go_wp2_with fail;have c2a:=λo=>(oD W o ⟨b,2,none⟩ zi).trans c2;have g0a:=λo=>(oD W o ⟨G,0,none⟩ hGl).trans g0;go_quiet ((go_at_call 281;exact Calls.quiet_of_same ((ZFs _ keys at_ _ (HK.out _ (yF ((nW _ W).alloc (nV _) _) _)) zl))));go_wp2;go_ret;rw[HE.out];exact jT
def wS{w:World}{b:Nat}{x y:Value}(h:w.heap[b]? =some (.cells #[x,y] ty)):w.cell? ⟨b,0,none⟩=some x/\w.cell? ⟨b,1,none⟩=some y/\w.frozen? ⟨b,0,none⟩=false/\w.frozen? ⟨b,1,none⟩=false:=by
 refine⟨?_,?_,?_,?_⟩
 ·simp[World.cell?,h]
 ·simp[World.cell?,h]
 ·simp[World.frozen?,h]
 ·simp[World.frozen?,h]
def Wj(W0 W:World)(res:Option (Nat×Nat×Nat))(T:World->Prop)(en:Ending)(W':World):Prop:=
 (res=none/\Gx W0 en W')\/∃o a t,res=some (o,a,t)/\en= .returned (.tuple #[.int .i64 (o:Nat),.agg #[.int .i64 (a:Nat),.int .i64 (t:Nat)]])/\T W'/\CF W W'
def BI(wW text:vS)(xs:List SX)(xB:Option (List Nat×List (vS×PX)))(inner:Option (Nat×Nat×Nat)):Option (Nat×Nat×Nat):=
 match Vj wW text xs with
 |none=>none
 |some []=>inner.map λr=>(r.1+1,r.2.1,r.2.2)
 |some [p]=>if ZaL xB p.1 then some (0,p.1,p.2)else none
 |some (_::_::_)=>none
structure Tst (W:World) (T:World->Prop):Prop where
 bl:∀a c,T a->vV a c->T c
 set:∀(a:World) (g k:Nat) (cu:Array Value) (u:Value),T a->W.heap.size<=g->a.heap[g]? =some (.cells cu 367)->T (a.setCell ⟨g,k,none⟩ u)
def CF.own{a}{g k:Nat}{u:Value}(h:CF W a)(hg:W.heap.size<=g):CF W (a.setCell ⟨g,k,none⟩ u):=
 ⟨h.os,h.tape,h.output,eQ,λg' ob e hn=>(uX a ⟨g,k,none⟩ u g' (λe2=>by have e3:g'=g:=e2;have:=(wo e);omega)).trans (h.bl g' ob e hn)⟩
def EO{w:World}{b k g:Nat}{u:Value}{ob:Obj}(h:w.heap[g]? =some ob)(wF:g≠b):(w.setCell ⟨b,k,none⟩ u).heap[g]? =some ob:=(uX w ⟨b,k,none⟩ u g wF).trans h
def FH{w:World}{g k:Nat}{u:Value}(h:w.heap[g]? =some (.cells cu ty fr)):(w.setCell ⟨g,k,none⟩ u).heap[g]? =some (.cells (cu.setIfInBounds k u) ty fr):=zD h
def Zmg(W0 W)(b)(sv gv)(wa)(e)(wW text)(inner)(T)(x8:vV W0 W)(ho:W.heap[b]? =some (.cells #[sv,.pointer wa,gv] 244))(hp:yS W0 W b e)(zW:text.length<=90000)(hT:Tst W T)(yI:Vj wW text e.xs≠some []->∀a,vV W a->T a)(hio:∀r,inner=some r->r.1<=1000)(zP:∀W',vV W W'->Vj wW text e.xs=some []->Calls prog 227 #[.pointer wa,.agg #[.string ⟨wW.toArray⟩,.string ⟨text.toArray⟩]] W' (Wj W0 W' inner T)):
  Calls prog 155 #[vU b,.agg #[.string ⟨wW.toArray⟩,.string ⟨text.toArray⟩]] W (Wj W0 W (BI wW text e.xs e.xB inner) T):=by
 have HP:=vR hp;obtain⟨M7,wv',gv',ho',CL,hs,_,_⟩:=hp;rw[ho]at ho';cases ho';have HT:=vR hT;have Ca:=vR zP;clear hT zP;have Lf:=vR yI;clear yI;unfold vU;go_enter func155,ntmps155;go_wp2_with fail;generalize yn:(W.alloc (.cells #[.string ⟨wW.toArray⟩,.string ⟨text.toArray⟩] 365)).alloc (.cells #[.int .i64 0,.int .i64 0] 367)=Wp;have xA:vV W Wp:=by rw[<-yn];exact((nW _ W).alloc (nV _) _).alloc ae _
 have Hz:Wp.heap.size=W.heap.size+2:=by rw[<-yn];simp
 have DL:Wp.heap[W.heap.size]? =some (.cells #[.string ⟨wW.toArray⟩,.string ⟨text.toArray⟩] 365):=by rw[<-yn];exact(J6 W _ _).1
 have Gh:Wp.heap[W.heap.size+1]? =some (.cells #[.int .i64 0,.int .i64 0] 367):=by rw[<-yn];exact(J6 W _ _).2
 clear yn;have hx:∀w' g ob,vV W w'->W.heap[g]? =some ob->w'.heap[g]? =some ob:=λw' g ob hb e=>xq hb e;have Zjp:=ZFI W0 Wp b sv (.pointer wa) gv e.xs wW text (x8.trans (xA.mono x8.size)) (hx Wp _ _ xA ho) (CL.cf (CF.vZ xA)) hs zW;unfold vU at Zjp;refine Zjp.mono ?_;rintro en w2 (⟨wO,wV⟩|⟨l,lv,Bq,rfl,wD,wK⟩)
 ·have HR:Hid (BI wW text e.xs e.xB inner=none):=by show _=_;rw[BI,wO]
  have xM:=vR (wV.from (x8.trans (xA.mono x8.size)));obtain⟨b',rfl,_⟩:=wV;clear wO Zjp;go_wp2;exact⟨rfl,.inl ⟨HR.out,xM.out⟩⟩
 ·obtain⟨la,lc,rfl⟩:=yN wD;have xX:=xA.trans (wK.mono xA.size);have zi:=(wo ho);have Ay:=wK.size;have c2:w2.cell? ⟨b,1,none⟩=some (.pointer wa):=wT xX zi (zS ho);have Zw3:=(wK.block W.heap.size Z).trans DL;have Em:=(wK.block (W.heap.size+1) Z).trans Gh;obtain⟨d0,d1,_,_⟩:=wS Zw3;clear Zjp DL Gh Zw3 CL hs ho;match l,Bq,wD with
  | [],Bq,wD=>
   have HR:Hid (BI wW text e.xs e.xB inner=inner.map λr=>(r.1+1,r.2.1,r.2.2)):=by show _=_;rw[BI,Bq]
   have HI2:=vR (λw' (hb:vV w2 w')=>Ca.out w' (xX.trans (hb.mono xX.size)) Bq);have ZiW:b<w2.heap.size:=by have:=xX.size;omega
   have ZiN:W.heap.size<w2.heap.size:=Z
   have c2a:=λo=>(oD w2.drew o ⟨b,1,none⟩ ZiW).trans c2;have d0a:=λo=>(oD w2.drew o ⟨W.heap.size,0,none⟩ ZiN).trans d0;have d1a:=λo=>(oD w2.drew o ⟨W.heap.size,1,none⟩ ZiN).trans d1;have c2b:=λo=>(oD w2 o ⟨b,1,none⟩ ZiW).trans c2;have d0b:=λo=>(oD w2 o ⟨W.heap.size,0,none⟩ ZiN).trans d0;have d1b:=λo=>(oD w2 o ⟨W.heap.size,1,none⟩ ZiN).trans d1;clear Bq wD Ca;simp only[List.length_nil]at *;have Df:Hid (∀w' w3,vV w2 w'->CF w' w3->CF W w3/\w3.heap[W.heap.size+1]? =some (.cells #[.int .i64 0,.int .i64 0] 367)):=λw' w3 hb hc=>⟨(CF.vZ (xX.trans (hb.mono xX.size))).trans hc,hc.cells (xq hb Em) O⟩;have hWs:=xX.size;go_upto_region 1 with fail
   go_cut [7,8] (λov fv wx=>∃(o a t fb:Nat),Hid (inner=some (o,a,t))/\o<=1000/\ov= .int .i64 (o:Nat)/\fv= .pointer (some ⟨fb,0,none⟩)/\W.heap.size<=fb/\fb≠W.heap.size+1/\wx.heap[fb]? =some (.cells #[.int .i64 (a:Nat),.int .i64 (t:Nat)] 367)/\wx.heap[W.heap.size+1]? =some (.cells #[.int .i64 0,.int .i64 0] 367)/\Hid (T wx/\CF W wx));case first=>
    go_region_with (go_at_call 227;refine(HI2.out _ iI).mono ?_;intro en w3 IG;rcases IG with Iz|Zi9;(focus (obtain⟨wO,wV⟩:=Iz;have yD:Hid (BI wW text e.xs e.xB inner=none):=(by show _=_;rw[HR.out,wO];try rfl);have xM:=vR wV;obtain⟨b',rfl,_⟩:=wV;clear wO;go_wp2;exact⟨rfl,.inl ⟨yD.out,xM.out⟩⟩));obtain⟨o,a,t,xz,rfl,Ex,JE⟩:=Zi9;have yG:o<=1000:=hio _ xz;obtain⟨ZG,BR⟩:=Df.out _ w3 iI JE;first|(have hTv:w3.heap[w2.heap.size]? =some (.cells #[.int .i64 0,.int .i64 0] 367):=JE.cells (by exact xI _ _) O;obtain⟨q0,q1,q2,q3⟩:=wS hTv)|skip);all_goals
     have ZJ5:=ZG.size;go_wp2_with fail;go_meet;first
      |exact⟨o,a,t,_,xz,yG,rfl,rfl,ZJ5,by have:=(wo BR);omega,xI w3 _,(ow _ _ _ (wo BR)).trans BR,HT.out.bl _ _ Ex ((nW _ _).alloc (nV _) _),ZG.trans (CF.vZ ((nW _ _).alloc (nV _) _))⟩
      |exact⟨o,a,t,_,xz,yG,rfl,rfl,hWs,Z,by simpa using FH (k:=1) (u:=.int .i64 (t:Nat)) (FH (k:=0) (u:=.int .i64 (a:Nat)) hTv),EO (EO BR Z) Z,HT.out.set _ _ _ _ _ (HT.out.set _ _ _ _ _ Ex hWs hTv) hWs (FH hTv),(ZG.own hWs).own hWs⟩
   case rest=>
    obtain⟨o,a,t,fb,xz,yG,rfl,rfl,ZXa,ZXc,QE,BR,hTC⟩:=hcut;obtain⟨wx,Ll⟩:∃wx,wx=wc:=⟨_,rfl⟩;subst Ll;obtain⟨q0,q1,q2,q3⟩:=wS QE;obtain⟨r0,r1,r2,r3⟩:=wS BR;clear c2a d0a d1a c2b d0b d1b HI2 Df;go_wp2_with fail;have KA:Hid (BI wW text e.xs e.xB inner=some (o+1,a,t)):=by show _=_;rw[HR.out,xz.out];try rfl
    clear xz;have Gt:Hid (T ((wx.setCell ⟨W.heap.size+1,0,none⟩ (.int .i64 (a:Nat))).setCell ⟨W.heap.size+1,1,none⟩ (.int .i64 (t:Nat))).drew/\CF W ((wx.setCell ⟨W.heap.size+1,0,none⟩ (.int .i64 (a:Nat))).setCell ⟨W.heap.size+1,1,none⟩ (.int .i64 (t:Nat))).drew):=by
     have h1:=HT.out.set _ _ 0 _ (.int .i64 (a:Nat)) hTC.out.1 (by omega:W.heap.size<=W.heap.size+1) BR;have h2:=HT.out.set _ _ 1 _ (.int .i64 (t:Nat)) h1 (by omega:W.heap.size<=W.heap.size+1) (FH BR);exact⟨HT.out.bl _ _ h2 (yF (nW _ _) 1),(CF.own (g:=W.heap.size+1) (CF.own (g:=W.heap.size+1) hTC.out.2 Z) Z).trans (CF.vZ (yF (nW _ _) 1))⟩
    go_region;all_goals
     go_wp2;refine uZ (v:=.tuple #[.int .i64 ((o:Int)+1),.agg #[.int .i64 (a:Nat),.int .i64 (t:Nat)]]) (by simp[results,Tryz.results155,go_sem,r0,r1,r2,r3,q0,q1]) rfl ?_;exact .inr ⟨o+1,a,t,KA.out,rfl,Gt.out.1,Gt.out.2⟩
  | [p],Bq,wD=>
   have HR:Hid (BI wW text e.xs e.xB inner=if ZaL e.xB p.1 then some (0,p.1,p.2)else none):=by show _=_;rw[BI,Bq]
   have Ip:=vR (Lf.out (by rw[Bq];simp));have QX:=λw' hb=>ZFK W0 w' b e p.1 p.2 (HP.out.below (W':=w') hb);obtain⟨lg,rfl⟩:∃g,la=some ⟨g,0,none⟩:=by
    rcases wD.2 with⟨_,h0⟩|⟨g,cap,cur,e,_⟩
    ·cases h0
    ·cases e;exact⟨g,rfl⟩
   have l0:=wD.cells (g:=lg) rfl 0 _ rfl;have l1:=wD.cells (g:=lg) rfl 1 _ rfl;rw[uY,o9]at l0 l1;have ZwY:lg<w2.heap.size:=oH w2 _ l0;clear Bq wD Ca;unfold vU at QX;simp only[List.length_cons,List.length_nil,o9]at *;go_wp2_with fail;refine(QX w2 xX).mono ?_;rintro en w3 ⟨rfl,wH⟩;have Sr:=xX.trans (wH.mono xX.size);generalize yE:ZaL e.xB p.1=sb at *;have HSB:=vR yE;have l03:=wT wH ZwY l0;have l13:=wT wH ZwY l1;have BR:=(wH.block (W.heap.size+1) Z).trans Em;obtain⟨r0,r1,r2,r3⟩:=wS BR;clear yE QX l0 l1;cases sb with
   |false=>
    have HN:Hid (BI wW text e.xs e.xB inner=none):=by show _=_;rw[HR.out];try rfl
    go_wp2_with fail;refine(Ul _).mono ?_;rintro en w' wV;have xM:=vR (wV.from (x8.trans (Sr.mono x8.size)));obtain⟨b',rfl,_⟩:=wV;go_wp2;exact⟨rfl,.inl ⟨HN.out,xM.out⟩⟩
   |true=>
    have HN:Hid (BI wW text e.xs e.xB inner=some (0,p.1,p.2)):=by show _=_;rw[HR.out];try rfl
    clear HR;go_wp2_with fail;refine(Um _).mono ?_;rintro en w' ⟨rfl,rfl⟩;go_wp2_with fail;have Ex:=Ip.out _ Sr;have Gt:Hid (T ((w3.setCell ⟨W.heap.size+1,0,none⟩ (.int .i64 (p.1:Nat))).setCell ⟨W.heap.size+1,1,none⟩ (.int .i64 (p.2:Nat))).drew/\CF W ((w3.setCell ⟨W.heap.size+1,0,none⟩ (.int .i64 (p.1:Nat))).setCell ⟨W.heap.size+1,1,none⟩ (.int .i64 (p.2:Nat))).drew):=by
     have h1:=HT.out.set _ _ 0 _ (.int .i64 (p.1:Nat)) Ex (by omega:W.heap.size<=W.heap.size+1) BR;have h2:=HT.out.set _ _ 1 _ (.int .i64 (p.2:Nat)) h1 (by omega:W.heap.size<=W.heap.size+1) (FH BR);exact⟨HT.out.bl _ _ h2 (yF (nW _ _) 1),(CF.own (g:=W.heap.size+1) (CF.own (g:=W.heap.size+1) (CF.vZ Sr) Z) Z).trans (CF.vZ (yF (nW _ _) 1))⟩
    go_region;all_goals
     go_wp2;refine uZ (v:=.tuple #[.int .i64 0,.agg #[.int .i64 (p.1:Nat),.int .i64 (p.2:Nat)]]) (by simp[results,Tryz.results155,go_sem,r0,r1,r2,r3,l03,l13]) rfl ?_;exact .inr ⟨0,p.1,p.2,HN.out,rfl,Gt.out.1,Gt.out.2⟩
  |p1::p2::r,Bq,wD=>
   have HR:Hid (BI wW text e.xs e.xB inner=none):=by show _=_;rw[BI,Bq]
   have wF:((((p1::p2::r).length:Nat):Int)==1)=false:=by simp;omega
   have ZK9:((((p1::p2::r).length:Nat):Int)==0)=false:=by simp;omega
   clear Bq wD Ca;generalize (p1::p2::r).length=nn at *;go_wp2_with fail;refine(Ul _).mono ?_;rintro en w' wV;have xM:=vR (wV.from (x8.trans (xX.mono x8.size)));exact lY
def Tryz.ZME:(prog.info? 461).map (λi=>(i.zero,i.size,i.bytes))=some (some (.agg #[.int .i64 0,.int .i64 0]),2,16):=by kernel_rfl
def XM:List TypeId:=261::244::457::461::267::402::IQ
def ZQ2:∀t∈IQ,t∈XM:=λt h=>by unfold XM;simp[h]
def I6.kt{v}{xs}(h:I6 W v xs)(hk:KT XM W W'):I6 W' v xs:=by
 obtain⟨a,cap,rfl,hx⟩:=h;exact mr
def Ni.kt{v}(h:Ni W v ks)(hk:KT XM W W'):Ni W' v ks:=by
 obtain⟨a,cap,rfl,hx⟩:=h;refine⟨a,cap,rfl,λi hi=>?_⟩;obtain⟨g,cu,e,ho,c0⟩:=hx i hi;have h1:=hk _ _ _ O ho;exact⟨g,cu,e,h1,yP (h1.trans ho.symm) c0⟩
theorem Jv.kt(hk:KT XM W W'):∀{o:Option (List SX×List (Nat×Nat))},Jv W0 W wv o->Jv W0 W' wv o
 |none,h=>h
 |some (zX,xY),⟨w,ob,FD,nv,e,h1,h2,h3,h4,h5,h6,h7,h8⟩=>⟨w,ob,FD,nv,e,hk _ _ _ O h1,hk _ _ _ O h2,h3.kt hk,h4,h5,h6,MZ h7 hk O,h8⟩
theorem Yl.kt(hk:KT XM W W'):∀{o:Option (List Nat×List (vS×PX))},Yl W0 W sv wv gv o->Yl W0 W' sv wv gv o
 |none,h=>h
 |some (keys,made),⟨G,kv,mv,rb,fs,e,h1,h2,h3,h4,h5,h6,h7,h8,h9⟩=>⟨G,kv,mv,rb,fs,e,hk _ _ _ O h1,h2.kt hk,h3,hk _ _ _ O h4,h5,h6,h7,MZ h8 hk O,λi p q=>(h9 i p q).same (hk.less ZQ2)⟩
theorem yS.kt{b}{e}(h:yS W0 W b e)(hk:KT XM W W'):yS W0 W' b e:=by
 obtain⟨sv,wv,gv,k1,k2,k3,k4,k5⟩:=h;exact⟨sv,wv,gv,hk _ _ _ O k1,k2.kt hk,k3,k4.kt hk,k5.kt hk⟩
def KT.set{a:World}{g k:Nat}{u:Value}(hg:a.heap[g]? =some (.cells cu ty fr))(ht:ty∉ts):KT ts a (a.setCell ⟨g,k,none⟩ u):=λg' BA ty' SV e=>EO e (λe2=>by subst e2;rw[hg]at e;cases e;exact ht SV)
def KT.tc{a b c}(h:KT ts a b)(k:KT ts b c):KT ts a c:=λg cu ty ht e=>k g cu ty ht (h g cu ty ht e)
def Z0i{p:Prop}(h:p:=by
 generalize ks[k].2=x2 at *;go_upto_region 1 with fail
 go_region_with (fail);all_goals
  go_wp2;go_roundg (ks.length-(k+1)+1);case measure=>omega
  case rel=>exact⟨k+1,Z,rfl,ak,yF hB 1,F8.out⟩):p:=h
def ZFA(kv)(ks)(v:Nat×Nat)(W)(B)(h:W.ownsRow B 461 2 kv ks.length (IB ks))(hl:ks.length<=400):
  Calls prog 337 #[kv,.agg #[.int .i64 (v.1:Nat),.int .i64 (v.2:Nat)]] W λe w'=>(∃n,e= .returned (.int .i64 n)/\ -1<=n/\n<=400/\(0<=n↔v∈ks))/\vV W w':=by
 have HT:Hid (∀i (h:i<ks.length),∃g cap,kv= .slice (some ⟨g,0,none⟩) ks.length cap/\W.cell? ⟨g,i*2,none⟩=some (.int .i64 (ks[i].1:Nat))/\W.cell? ⟨g,i*2+1,none⟩=some (.int .i64 (ks[i].2:Nat))/\g<W.heap.size):=λi hi=>by
  rcases h.2 with⟨_,h0⟩|⟨g,cap,cur,e,hb,hh,_⟩
  ·omega
  ·subst e;obtain⟨e1,e2⟩:=Zoh ks i hi;have h1:=h.cells (g:=g) rfl _ _ e1;have h2:=h.cells (g:=g) rfl _ _ e2;rw[uY,o9]at h1 h2;exact⟨g,cap,rfl,h1,h2,(wo hh)⟩
 obtain⟨a,cap,rfl⟩:=yN h;clear h;go_enter func337,ntmps337;go_wp2_with fail;generalize yn:W.alloc (.cells #[.int .i64 (v.1:Nat),.int .i64 (v.2:Nat)] 461)=Wp;have xA:vV W Wp:=by rw[<-yn];exact(nW _ W).alloc (nV _) _
 have SL:Wp.heap[W.heap.size]? =some (.cells #[.int .i64 (v.1:Nat),.int .i64 (v.2:Nat)] 461):=by rw[<-yn];exact xI W _
 have Hz:Wp.heap.size=W.heap.size+1:=by rw[<-yn];simp
 clear yn;go_loopg [8] (ks.length+1) (λgk iv wr=>∃k:Nat,k<=ks.length/\gk=ks.length-k+1/\iv= .int .i64 k/\vV Wp wr/\Hid (∀j (hj:j<ks.length),j<k->v≠ks[j]));case atStart=>exact⟨0,Z,Z,rfl,nW _ _,λj _ h=>Z⟩
 case round=>
  obtain⟨k,hk,rfl,rfl,hB,wO⟩:=hrel;have xX:=xA.trans (hB.mono Z);by_cases hlt:k<ks.length
  ·obtain⟨g,c',e',q0,q1,xL⟩:=HT.out k hlt;cases e';have d0:=wT xX xL q0;have d1:=wT xX xL q1;obtain⟨n0,n1,_,_⟩:=wS ((hB.block W.heap.size Z).trans SL);clear q0 q1;obtain⟨v1,v2⟩:=v;have HN:Hid (v1≠ks[k].1\/v2≠ks[k].2->∀j (hj:j<ks.length),j<k+1->(v1,v2)≠ks[j]):=λhh j hj h=>by
    by_cases e:j=k
    ·subst e;intro e2;rw[<-e2]at hh;rcases hh with h|h<;>exact h rfl
    ·exact wO.out j hj Z
   by_cases h1:v1=ks[k].1
   ·by_cases h2:v2=ks[k].2
    ·have HM:Hid ((v1,v2)∈ks):=by show _∈ks;rw[show((v1,v2):Nat×Nat)=ks[k] from by rw[h1,h2]];exact oC hlt
     rw[<-h1]at d0;rw[<-h2]at d1;clear h1 h2 HN wO;go_upto_region 1 with fail
     go_region_with (fail);all_goals
      go_wp2;go_ret;exact⟨⟨k,rfl,Z,Z,⟨λ_=>HM.out,λ_=>Z⟩⟩,yF xX 1⟩
    ·have h3:((v2:Int)==(ks[k].2:Int))=false:=by rw[pQ];omega
     have F8:=vR (HN.out (.inr h2));rw[<-h1]at d0;clear h1 h2 HN wO;exact Z0i
   ·have h3:((v1:Int)==(ks[k].1:Int))=false:=by rw[pQ];omega
    have F8:=vR (HN.out (.inl h1));clear h1 HN wO;generalize ks[k].1=x1 at *;exact Z0i
  ·have HM:Hid (v∉ks):=λhm=>by
    exact l9
   go_wp2_with fail;go_ret;exact⟨⟨-1,rfl,Z,Z,⟨λh=>Z,λh=>absurd h HM.out⟩⟩,xX⟩
def ZFt(kv)(ks)(v:Nat×Nat)(W)(B)(h:W.ownsRow B 461 2 kv ks.length (IB ks))(hl:ks.length<=400):
  Calls prog 280 #[kv,.agg #[.int .i64 (v.1:Nat),.int .i64 (v.2:Nat)]] W λe w'=>e= .returned (.bool (decide (v∈ks)))/\vV W w':=by
 have HC:=vR (λw' (hB:vV W w')=>ZFA kv ks v w' B (zC h hB) hl);obtain⟨a,cap,rfl⟩:=yN h;clear h;go_enter func280,ntmps280;go_wp2_with fail;have zA:vV W (W.alloc (.cells #[.int .i64 (v.1:Nat),.int .i64 (v.2:Nat)] 461)):=(nW _ W).alloc (nV _) _;refine(HC.out _ zA).mono ?_;rintro e w' ⟨⟨n,rfl,h1,h2,h3⟩,wK⟩;have HD:Hid (decide (v∈ks)=decide (0<=n)):=by
  show _=_;rw[p9,oL,oL,h3]
 clear h3;go_wp2_with fail;go_ret;rw[HD.out];exact⟨rfl,zA.trans (wK.mono zA.size)⟩
def Mo(xY:List (Nat×Nat))(n:Nat×Nat):List (Nat×Nat):=if n∈xY then xY else xY++ [n]
def Zmk(W0 W)(wW text:vS)(T)(x8:vV W0 W):Calls prog 227 #[.pointer none,.agg #[.string ⟨wW.toArray⟩,.string ⟨text.toArray⟩]] W (Wj W0 W none T):=by
 go_enter func227,ntmps227;go_wp2_with fail;refine(Ul _).mono ?_;rintro e w' wV;have hB:vV W ((W.alloc (.cells #[.string ⟨wW.toArray⟩,.string ⟨text.toArray⟩] 365)).alloc (.cells #[.int .i64 0,.int .i64 0] 367)):=((nW _ W).alloc (nV _) _).alloc ae _;have xM:=vR (wV.from (x8.trans (hB.mono x8.size)));obtain⟨b',rfl,_⟩:=wV;go_wp2;exact⟨rfl,.inl ⟨rfl,xM.out⟩⟩
structure Yj (wz V:World) (G Mx B:Nat):Prop where
 os:V.os=wz.os
 tape:V.tape=wz.tape
 output:V.output=wz.output
 size:wz.heap.size<=V.heap.size
 wJ:∀(g:Nat) (ob:Obj),wz.heap[g]? =some ob->g≠G->(∀cu fr,ob≠.cells cu Mx fr)->V.heap[g]? =some ob
 low:∀g,g<B->g≠G->g<wz.heap.size->V.heap[g]? =wz.heap[g]?
def Zih{w7:World}{o:Obj}{G k n:Nat}{v u:Value}(wD:wz.ownsRow B Mx sz v n xs)(hg:(wz.alloc o).grownBy w7 v.ownBlock):Yj wz (w7.setCell ⟨G,k,none⟩ u) G Mx B:=by
 have yA:wz.heap.size<=w7.heap.size:=by have:=hg.size;simp at this;omega
 have key:∀g,g<wz.heap.size->g≠G->some g≠v.ownBlock->(w7.setCell ⟨G,k,none⟩ u).heap[g]? =wz.heap[g]? :=λg hl hG wF=>
  (uX w7 ⟨G,k,none⟩ _ g hG).trans ((hg.block g ah wF).trans (ow wz o g hl))
 refine⟨hg.os,hg.tape,hg.output,by rw[Bf];exact yA,λg ob e hG hn=>?_,λg hB hG hl=>?_⟩
 ·have hl:=(wo e);refine(key g hl hG (λeg=>?_)).trans e;rcases wD.2 with⟨e1,_⟩|⟨g1,cap,Au,e1,_,hh,_⟩
  ·rw[e1]at eg;cases eg
  ·rw[e1]at eg;cases eg;rw[e]at hh;cases hh;exact hn _ _ rfl
 ·refine key g hl hG (λeg=>?_);have:=(wD.lt g eg.symm).1;omega
def Yj.kt{G}(h:Yj wz V G Mx B)(hG:wz.heap[G]? =some (.cells cu gty fr))(h1:gty∉ts)(h2:Mx∉ts):KT ts wz V:=λg BA ty ht e=>h.wJ g _ e (λeg=>by subst eg;rw[hG]at e;cases e;exact h1 ht) (λ_ _ e2=>by cases e2;exact h2 ht)
def Yj.cf{G}(h:Yj wz V G Mx B)(hG:wz.heap[G]? =some (.cells cu gty fr))(h1:gty∈Y0)(h2:Mx∈Y0):CF wz V:=⟨h.os,h.tape,h.output,h.size,λg ob e hn=>h.wJ g ob e (λeg=>by subst eg;rw[hG]at e;cases e;exact hn _ _ _ rfl h1) (λ_ _ e2=>hn _ _ _ e2 h2)⟩
def Yj.bl{G}(h:Yj wz V G Mx B)(hG:B<=G)(hB:B<=wz.heap.size):Below B wz V:=⟨h.os,h.tape,h.output,h.size,λg hg=>h.low g hg Z Z⟩
def Vv{w:World}{e n:Nat}{v:Value}(h:w.ownsRow B e sz v n xs){b k:Nat}{u:Value}{cur:Array Value}(hb:w.heap[b]? =some (.cells cur e' fr))(wF:e≠e'):(w.setCell ⟨b,k,none⟩ u).ownsRow B e sz v n xs:=by
 exact vL
def Ib{w:World}{e n:Nat}{v:Value}(h:w.ownsRow B e sz v n xs){T:Nat}{cs:Array Value}(hT:w.heap[T]? =some (.cells cs e' fr))(wF:e≠e'):some T≠v.ownBlock:=by
 intro eg;rcases h.2 with⟨e1,_⟩|⟨g,cap,cu,e1,_,hh,_⟩
 ·rw[e1]at eg;cases eg
 ·rw[e1]at eg;cases eg;rw[hT]at hh;cases hh;exact wF rfl
def ZqT:List TypeId:=113::XM
def ZyE{text}{xs}{g}{o a t:Nat}(h:BI wW text xs g none=some (o,a,t)):o=0:=by
 unfold BI at h;split at h
 ·cases h
 ·cases h
 ·split at h
  ·cases h;rfl
  ·cases h
 ·cases h
theorem ZxS{text}:∀{l:List (vS×Nat)} {c:Nat} {p:Nat×Nat},QZ text l c=some p->p.1<c+l.length
 | [],c,p,h=>nomatch h
 |x::r,c,p,h=>by
  rw[QZ]at h;split at h
  ·cases h;simp
  ·have:=ZxS h;simp;omega
theorem ZyM{text}{xs}(hs:Ml W0 xs):∀{k:Nat} {l:List (Nat×Nat)},MV wW text xs k=some l->∀p∈l,p.1<=100
 |0,l,h,p,hp=>by cases h;cases hp
 |k+1,l,h,p,hp=>by
  rw[MV]at h;cases h1:MV wW text xs k with
  |none=>rw[h1]at h;cases h
  |some l1=>
   have ih:=ZyM hs h1;rw[h1,Option.bind_some]at h;split at h
   ·cases h;exact ih p hp
   ·rename_i s hk;have zl:=(qP.1 hk).1;split at h
    ·split at h
     ·cases h
     ·cases h;exact ih p hp
    ·rename_i q hq;cases h;split at hp
     ·rcases qH.1 hp with hp|hp
      ·exact ih p hp
      ·cases qU.1 hp;have h1:=ZxS hq;have h2:=(hs.VH s (uu hk)).le;have h3:=ZeB hs k;have h4:=hs.le;show AL xs k+q.1<=100;omega
     ·exact ih p hp
def Zj1{text}{xs}{g}{inner:Option (Nat×Nat×Nat)}(hs:Ml W0 xs)(hi:∀r,inner=some r->r.1<=10/\r.2.1<=100){r:Nat×Nat×Nat}(h:BI wW text xs g inner=some r):r.1<=11/\r.2.1<=100:=by
 unfold BI at h;split at h
 ·cases h
 ·cases zP:inner with
  |none=>rw[zP]at h;cases h
  |some r'=>
   rw[zP]at h;cases h;have:=hi r' zP;exact⟨by show r'.1+1<=11;omega,this.2⟩
 ·rename_i p hn;split at h
  ·cases h;exact⟨Z,ZyM hs hn p tF⟩
  ·cases h
 ·cases h
def ZDG{l:List (Nat×Nat)}{n:Nat×Nat}(h:∀m∈l,m.1<=11/\m.2<=100)(hn:n.1<=11/\n.2<=100):∀m∈Mo l n,m.1<=11/\m.2<=100:=by
 intro m hm;unfold Mo at hm;split at hm
 ·exact h m hm
 ·rcases qH.1 hm with h1|h1
  ·exact h m h1
  ·rw[qU.1 h1];exact hn
def Z0h{p:Prop}(h:p:=by
 go_wp2_with fail;go_region;all_goals
  go_wp2;refine uZ (v:=.tuple #[.int .i64 (o:Nat),.agg #[.int .i64 (a:Nat),.int .i64 (t:Nat)]]) (by simp[results,Tryz.results227,go_sem,r0,r1,r2,r3,z0,z1]) rfl ?_;exact HE.out):p:=h
def Z0j{p:Prop}(h:p:=by
 have xM:=vR wV;have yD:=vR wO;obtain⟨b',rfl,_⟩:=wV;clear wO;go_wp2;exact⟨rfl,.inl ⟨yD.out,xM.out⟩⟩):p:=h
def ZFQ(W0 W)(w ob)(FD nv)(zX)(xY)(wW text)(x8:vV W0 W)(hw:W.heap[w]? =some (.cells #[vU ob,nv] 457))(yX:W.heap[ob]? =some (.cells #[FD,.pointer none,.pointer none] 244))(CL:I6 W FD zX)(wQ:Ml W0 zX)(hwW:W0.heap.size<=w)(QP:xY.length<400)(wD:W.ownsRow W0.heap.size 461 2 nv xY.length (IB xY))(hbn:∀n∈xY,n.1<=11/\n.2<=100)(zW:text.length<=90000):
  Calls prog 227 #[vU w,.agg #[.string ⟨wW.toArray⟩,.string ⟨text.toArray⟩]] W (Wj W0 W (BI wW text zX none none) (λW'=>∀o a t,BI wW text zX none none=some (o,a,t)->Jv W0 W' (vU w) (some (zX,Mo xY (o,a)))/\KT (113::Cu) W W'/\vV W0 W')):=by
 have hx:∀w' g ob,vV W w'->W.heap[g]? =some ob->w'.heap[g]? =some ob:=λw' g ob hb e=>xq hb e;have HL:Hid (∀Wi,vV W Wi->Calls prog 155 #[vU ob,.agg #[.string ⟨wW.toArray⟩,.string ⟨text.toArray⟩]] Wi (Wj W0 Wi (BI wW text zX none none) (λa=>KT ZqT Wi a/\vV W0 a))):=λWi hBi=>by
  have Ziu:=x8.trans (hBi.mono x8.size);have JK:=Ziu.size;refine Zmg W0 Wi ob FD (.pointer none) none ⟨zX,none,none⟩ wW text none _ Ziu (hx Wi _ _ hBi yX) ⟨FD,.pointer none,.pointer none,hx Wi _ _ hBi yX,CL.cf (CF.vZ hBi),wQ,rfl,rfl⟩ zW ?_ ?_ ?_ ?_
  ·exact⟨λa c ha Xi=>⟨ha.1.tc (KT.vZ Xi),ha.2.trans (Xi.mono ha.2.size)⟩,λa g k cu u ha hg he=>⟨ha.1.tc (KT.set he O),ha.2.setCell (p:=⟨g,k,none⟩) (by show W0.heap.size<=g;omega) _⟩⟩
  ·exact λ_ a ha=>⟨KT.vZ ha,Ziu.trans (ha.mono JK)⟩
  ·intro r hr;cases hr
  ·intro W' hb _;exact Zmk W0 W' wW text _ (Ziu.trans (hb.mono JK))
 have HBN:Hid (∀o a t,BI wW text zX none none=some (o,a,t)->∀m∈Mo xY (o,a),m.1<=11/\m.2<=100):=λo a t h=>ZDG hbn (Zj1 wQ (inner:=none) (λr hr=>by cases hr) h);clear hbn;have Xv:=(wo hw);have ZXB:=(wo yX);have c0:W.cell? ⟨w,0,none⟩=some (.pointer (some ⟨ob,0,none⟩)):=(wS hw).1;obtain⟨na,nc,rfl⟩:=yN wD;unfold vU at *;go_enter func227,ntmps227;go_wp2_with fail;refine(Um _).mono ?_;rintro en w' ⟨rfl,rfl⟩;generalize yn:(W.alloc (.cells #[.string ⟨wW.toArray⟩,.string ⟨text.toArray⟩] 365)).alloc (.cells #[.int .i64 0,.int .i64 0] 367)=Wp;have xA:vV W Wp:=by rw[<-yn];exact((nW _ W).alloc (nV _) _).alloc ae _
 have Hz:Wp.heap.size=W.heap.size+2:=by rw[<-yn];simp
 have DL:Wp.heap[W.heap.size]? =some (.cells #[.string ⟨wW.toArray⟩,.string ⟨text.toArray⟩] 365):=by rw[<-yn];exact(J6 W _ _).1
 have Gh:Wp.heap[W.heap.size+1]? =some (.cells #[.int .i64 0,.int .i64 0] 367):=by rw[<-yn];exact(J6 W _ _).2
 clear yn;have c0p:=wT xA Xv c0;obtain⟨d0,d1,_,_⟩:=wS DL;go_wp2_with fail;have HW1:Hid (∀g ob,Wp.heap[g]? =some ob->∀o,(Wp.alloc o).heap[g]? =some ob):=λg ob e o=>(ow _ _ _ (wo e)).trans e;have hwp:=hx Wp _ _ xA hw;have HRL:=vR (λo a t (h:BI wW text zX none none=some (o,a,t))=>ZyE h);go_cut [6,7] (λov fv wx=>∃(o a t fb:Nat),Hid (BI wW text zX none none=some (o,a,t))/\ov= .int .i64 (o:Nat)/\fv= .pointer (some ⟨fb,0,none⟩)/\W.heap.size+1<fb/\wx.heap[fb]? =some (.cells #[.int .i64 (a:Nat),.int .i64 (t:Nat)] 367)/\wx.heap[W.heap.size+1]? =some (.cells #[.int .i64 0,.int .i64 0] 367)/\Hid (KT ZqT W wx/\CF W wx/\vV W0 wx));case first=>
  refine vM (S:=λw'=>w'.cell? ⟨w,0,none⟩=some (.pointer (some ⟨ob,0,none⟩))/\w'.cell? ⟨W.heap.size,0,none⟩=some (.string ⟨wW.toArray⟩)/\w'.cell? ⟨W.heap.size,1,none⟩=some (.string ⟨text.toArray⟩)) af ⟨by exact c0p,by exact d0,by exact d1⟩ (λwL=>?_);refine tk 0 ?_;refine tk 1 ?_;refine tk 2 ?_;refine tk 3 ?_;refine tk 4 ?_;refine og (rs:= [5,9]) af ae (nZ rfl (λK hK=>?_) (nZ rfl (λK hK=>?_) oh))
  ·go_simp;refine(HL.out _ (yF xA 1)).mono ?_;rintro en w3 (⟨wO,wV⟩|⟨o,a,t,hr,rfl,⟨xP,wH⟩,FX⟩)
   ·exact Z0j
   have k0:=FX.cells (g:=W.heap.size) (by exact DL) O;have k1:=FX.cells (g:=W.heap.size+1) (by exact Gh) O;have kw:=xP w _ 457 O (by exact hwp);obtain⟨e0,e1,_,_⟩:=wS k0;refine hK.out _ _ ⟨by exact(wS kw).1,by exact e0,by exact e1⟩ (λwL=>?_);clear hK K;refine tk 6 ?_;refine tk 7 ?_;refine tk 8 ?_;refine og (rs:= [9]) af ae (nZ rfl (λK hK=>?_) oh);go_simp;have SQ:(w3.alloc (.cells #[.int .i64 0,.int .i64 0] 367)).heap[w3.heap.size]? =some (.cells #[.int .i64 0,.int .i64 0] 367):=xI w3 _;obtain⟨q0,q1,q2,q3⟩:=wS SQ;have C8:=FX.size;replace C8:Wp.heap.size<=w3.heap.size:=C8;have ZIW:vV w3 (w3.alloc (.cells #[.int .i64 0,.int .i64 0] 367)):=(nW _ w3).alloc (nV _) _;have Zak:∀g ob,w3.heap[g]? =some ob->(w3.alloc (.cells #[.int .i64 0,.int .i64 0] 367)).heap[g]? =some ob:=λg ob e=>xq ZIW e;refine hK.out _ _ ⟨by exact(wS (Zak _ _ kw)).1,by exact(wS (Zak _ _ k0)).1,by exact(wS (Zak _ _ k0)).2.1⟩ (λwL=>?_);clear hK K;refine tk 10 ?_;refine og (rs:= [11]) af ae (nZ rfl (λK hK=>?_) oh);go_simp;have Ziq:vV w3 (w3.alloc (.cells #[.int .i64 (a:Nat),.int .i64 (t:Nat)] 367)):=(nW _ w3).alloc (nV _) _;have ZjL:∀g ob,w3.heap[g]? =some ob->(w3.alloc (.cells #[.int .i64 (a:Nat),.int .i64 (t:Nat)] 367)).heap[g]? =some ob:=λg ob e=>xq Ziq e;refine hK.out _ _ ⟨by exact(wS (ZjL _ _ kw)).1,by exact(wS (ZjL _ _ k0)).1,by exact(wS (ZjL _ _ k0)).2.1⟩ (λwL=>?_);clear hK K;refine oP af ?_ _;go_wp2_with fail;go_meet;exact⟨o,a,t,_,hr,rfl,rfl,Z,xI w3 _,ZjL _ _ k1,((KT.vZ (yF xA 1)).tc xP).tc (KT.vZ Ziq),((CF.vZ (yF xA 1)).trans FX).trans (CF.vZ Ziq),wH.trans (Ziq.mono wH.size)⟩
  ·go_simp;have yx:vV Wp (Wp.alloc (.cells #[.int .i64 0,.int .i64 0] 367)):=(nW _ Wp).alloc (nV _) _;have hwa:∀g ob,Wp.heap[g]? =some ob->(Wp.alloc (.cells #[.int .i64 0,.int .i64 0] 367)).heap[g]? =some ob:=λg ob e=>xq yx e;have ME:vV W ((Wp.alloc (.cells #[.int .i64 0,.int .i64 0] 367)).drew):=yF (xA.trans (yx.mono xA.size)) 1;refine hK.out _ _ ⟨by exact(wS (hwa _ _ hwp)).1,by exact(wS (hwa _ _ DL)).1,by exact(wS (hwa _ _ DL)).2.1⟩ (λwL=>?_);clear hK K;refine og (rs:= [5]) af ae (nZ rfl (λK hK=>?_) oh);go_simp;refine(HL.out _ ME).mono ?_;rintro en w3 (⟨wO,wV⟩|⟨o,a,t,hr,rfl,⟨xP,wH⟩,FX⟩)
   ·exact Z0j
   have k0:=FX.cells (g:=W.heap.size) (by exact hwa _ _ DL) O;have k1:=FX.cells (g:=W.heap.size+1) (by exact hwa _ _ Gh) O;have SQ:w3.heap[W.heap.size+2]? =some (.cells #[.int .i64 0,.int .i64 0] 367):=by
    rw[<-Hz];exact FX.cells (by exact xI Wp _) O
   have kw:=xP w _ 457 O (by exact hwa _ _ hwp);obtain⟨e0,e1,_,_⟩:=wS k0;obtain⟨q0,q1,q2,q3⟩:=wS SQ;refine hK.out _ _ ⟨by exact(wS kw).1,by exact e0,by exact e1⟩ (λwL=>?_);clear hK K;refine tk 6 ?_;refine tk 7 ?_;refine tk 8 ?_;refine tk 10 ?_;refine og (rs:= [11]) af ae (nZ rfl (λK hK=>?_) oh);go_simp;have ZX9:=(wo SQ);have yI:∀g ob,w3.heap[g]? =some ob->g≠W.heap.size+2->((w3.setCell ⟨W.heap.size+2,0,none⟩ (.int .i64 (a:Nat))).setCell ⟨W.heap.size+2,1,none⟩ (.int .i64 (t:Nat))).heap[g]? =some ob:=λg ob e h=>EO (EO e h) h;refine hK.out _ _ ⟨by exact(wS (yI _ _ kw Z)).1,by exact(wS (yI _ _ k0 Z)).1,by exact(wS (yI _ _ k0 Z)).2.1⟩ (λwL=>?_);clear hK K;refine oP af ?_ _;go_wp2_with fail;go_meet;exact⟨o,a,t,_,hr,rfl,rfl,Z,by simpa using FH (k:=1) (u:=.int .i64 (t:Nat)) (FH (k:=0) (u:=.int .i64 (a:Nat)) SQ),yI _ _ k1 Z,(((KT.vZ ME).tc xP).tc (KT.set SQ O)).tc (KT.set (FH SQ) O),CF.own (g:=W.heap.size+2) (CF.own (g:=W.heap.size+2) ((CF.vZ ME).trans FX) Z) Z,(wH.setCell (p:=⟨W.heap.size+2,0,none⟩) iJ _).setCell (p:=⟨W.heap.size+2,1,none⟩) iJ _⟩
 case rest=>
  obtain⟨o,a,t,fb,hr,rfl,rfl,QE,hfo,JJ,hH⟩:=hcut;obtain⟨wx,Ll⟩:∃wx,wx=wc:=⟨_,rfl⟩;subst Ll;obtain⟨q0,q1,q2,q3⟩:=wS hfo;have hwx:=hH.out.1 w _ 457 O hw;have ZLf:=hH.out.1 ob _ 244 O yX;have ZLq:=MZ wD hH.out.1 O;obtain⟨m0,m1,m2,m3⟩:=wS hwx;clear c0 c0p d0 d1 DL Gh HL HW1 hwp hw wD;go_wp2_with fail;generalize hwn:wx.alloc (.cells #[.int .i64 (o:Nat),.int .i64 (a:Nat)] 461)=wn;have Qp:vV wx wn:=by rw[<-hwn];exact(nW _ wx).alloc (nV _) _
  have hsn:wn.heap.size=wx.heap.size+1:=by rw[<-hwn];simp
  have NW:wn.heap[wx.heap.size]? =some (.cells #[.int .i64 (o:Nat),.int .i64 (a:Nat)] 461):=by rw[<-hwn];exact xI wx _
  clear hwn;have hxn:∀w' g ob,vV wn w'->wx.heap[g]? =some ob->w'.heap[g]? =some ob:=λw' g ob hb e=>(hb.block g (by have:=(wo e);omega)).trans (xq Qp e);have ZoD:=zC ZLq Qp;have VZ:=vR (ZFt (.slice na xY.length nc) xY (o,a) wn.drew W0.heap.size (zC ZoD (yF (nW _ _) 1)) Z);obtain⟨n0,n1,_,_⟩:=wS NW;have m1n:=(wS (hxn wn _ _ (nW _ _) hwx)).2.1;refine vM (S:=λw'=>w'.cell? ⟨w,1,none⟩=some (.slice na xY.length nc)/\w'.cell? ⟨wx.heap.size,0,none⟩=some (.int .i64 (o:Nat))/\w'.cell? ⟨wx.heap.size,1,none⟩=some (.int .i64 (a:Nat))) af ⟨by exact m1n,by exact n0,by exact n1⟩ (λwL=>?_);refine tk 0 ?_;refine tk 1 ?_;refine tk 2 ?_;refine tk 3 ?_;refine tk 4 ?_;refine og (rs:= [5]) af ae (nZ rfl (λK hK=>?_) oh);go_simp;refine VZ.out.mono ?_;rintro en w5 ⟨rfl,yl⟩;replace yl:vV wn w5:=(yF (nW _ wn) 1).trans (yl.mono (by exact nV _));have BG:=hxn w5 _ _ yl hwx;have Xu:=(yl.block wx.heap.size Z).trans NW;have QD:=hxn w5 _ _ yl hfo;have KX:=hxn w5 _ _ yl JJ;obtain⟨x0,x1,x2,x3⟩:=wS BG;obtain⟨y0,y1,y2,y3⟩:=wS Xu;refine hK.out _ _ ⟨by exact x1,by exact y0,by exact y1⟩ (λwL=>?_);clear hK K;refine tk 6 ?_;refine oP af ?_ _;have ZmW:=Qp.trans (yl.mono Z);have BF:=zC ZoD yl;clear wL n0 n1 m1n m0 m1 m2 m3 q0 q1 q2 q3 ZoD VZ NW;have ES:Hid (∀w6,Jv W0 w6 (.pointer (some ⟨w,0,none⟩)) (some (zX,Mo xY (o,a)))->KT (113::Cu) W w6->vV W0 w6->CF W w6->w6.heap[W.heap.size+1]? =some (.cells #[.int .i64 0,.int .i64 0] 367)->Wj W0 W (BI wW text zX none none) (λW'=>∀o a t,BI wW text zX none none=some (o,a,t)->Jv W0 W' (.pointer (some ⟨w,0,none⟩)) (some (zX,Mo xY (o,a)))/\KT (113::Cu) W W'/\vV W0 W') (.returned (.tuple #[.int .i64 (o:Nat),.agg #[.int .i64 (a:Nat),.int .i64 (t:Nat)]])) ((w6.setCell ⟨W.heap.size+1,0,none⟩ (.int .i64 (a:Nat))).setCell ⟨W.heap.size+1,1,none⟩ (.int .i64 (t:Nat))).drew):=λw6 h1 h2 h3 h4 h5=>by
   have s1:=FH (k:=0) (u:=.int .i64 (a:Nat)) h5;have SA:=x8.size;refine .inr ⟨o,a,t,hr.out,rfl,λo' a' t' he=>?_,(CF.own (g:=W.heap.size+1) (CF.own (g:=W.heap.size+1) h4 Z) Z).trans (CF.vZ (yF (nW _ _) 1))⟩;rw[hr.out]at he;cases he;have kk:∀ts,367∉ts->KT ts w6 ((w6.setCell ⟨W.heap.size+1,0,none⟩ (.int .i64 (a:Nat))).setCell ⟨W.heap.size+1,1,none⟩ (.int .i64 (t:Nat))).drew:=λts ht=>((KT.set h5 ht).tc (KT.set s1 ht)).tc (KT.vZ (yF (nW _ _) 1));exact⟨h1.kt (kk _ O),h2.tc (kk _ O),yF ((h3.setCell (p:=⟨W.heap.size+1,0,none⟩) iK _).setCell (p:=⟨W.heap.size+1,1,none⟩) iK _) 1⟩
  have ZmV:=hH.out.2.2.trans (ZmW.mono hH.out.2.2.size);have Zxa:=hxn w5 _ _ yl ZLf;have JZ:Hid (KT ZqT W w5/\CF W w5):=⟨hH.out.1.tc (KT.vZ ZmW),hH.out.2.1.trans (CF.vZ ZmW)⟩;have V8:=vR ((CL.cf JZ.out.2));by_cases zP:(o,a)∈xY
  ·have HAD:Hid (Mo xY (o,a)=xY):=by show _=_;rw[Mo,nY zP]
   have Zcc:=su zP;rw[Zcc];have HE:=vR (ES.out w5 ⟨w,ob,FD,_,rfl,BG,Zxa,V8.out,wQ,hwW,by rw[HAD.out];omega,by rw[HAD.out];exact BF,HBN.out _ _ _ hr.out⟩ (JZ.out.1.less O) ZmV JZ.out.2 KX);obtain⟨r0,r1,r2,r3⟩:=wS KX;obtain⟨z0,z1,z2,z3⟩:=wS QD;have Dl:fb≠W.heap.size+1:=Z
   clear zP Zcc ES;exact Z0h
  ·have HAD:Hid (Mo xY (o,a)=xY++ [(o,a)]):=by show _=_;rw[Mo,nU zP]
   have Zcc:=qd zP;rw[Zcc];clear zP Zcc;obtain⟨i1,Xo,UO,ZT,hj3⟩:=oM Tryz.ZME;have HNW:=vR (Ib BF BG O);have HNF:=vR (Ib BF QD O);have HNR:=vR (Ib BF KX O);have HW5:=vR BG;have HF5:=vR QD;have Mf:=vR KX;have ZMj:=(wo BG);have ZKo:=(wo QD);have ZLD:=(wo KX);have ZIR:=ZmV.size;clear BG QD KX Xu;go_wp2_with fail;go_region_law (refine qz _ rfl _ _ 455 rfl W0.heap.size 461 i1 (.agg #[.int .i64 0,.int .i64 0]) 2 16 underlying455 Xo UO ZT hj3 rfl O (.slice na xY.length nc) xY.length (IB xY) rfl (by exact BF.alloc _) ⟨w5.heap.size,0,none⟩ 1 1 [.int .i64 (o:Nat),.int .i64 (a:Nat)] rfl rfl gF au Z aj Z ah _ rfl ?_;intro g2 yZ w7 Dv zh ZW ZY;have hw7:=(zh.block w ah HNW.out).trans ((ow _ _ _ (by exact ZMj)).trans (by exact HW5.out));have hf7:=(zh.block fb ah HNF.out).trans ((ow _ _ _ (by exact ZKo)).trans (by exact HF5.out));have hr7:=(zh.block (W.heap.size+1) ah HNR.out).trans ((ow _ _ _ (by exact ZLD)).trans (by exact Mf.out));obtain⟨v0,v1,v2,v3⟩:=wS hw7);all_goals
    have Ki:(w5.alloc (.cells #[.int .i64 (o:Nat),.int .i64 (a:Nat)] 461)).grownBy w7 (Value.slice na xY.length nc).ownBlock:=⟨zh.os,zh.tape,zh.output,zh.size,zh.block⟩;have Gz:=Zih (G:=w) (k:=1) (u:=.slice (some ⟨g2,0,none⟩) (xY.length+1) yZ) BF Ki;have CO:=FH (k:=1) (u:=.slice (some ⟨g2,0,none⟩) (xY.length+1) yZ) hw7;have Gl:=EO (b:=w) (k:=1) (u:=.slice (some ⟨g2,0,none⟩) (xY.length+1) yZ) hr7 Z;have hf8:=EO (b:=w) (k:=1) (u:=.slice (some ⟨g2,0,none⟩) (xY.length+1) yZ) hf7 Z;have Ez:=Vv (k:=1) (u:=.slice (some ⟨g2,0,none⟩) (xY.length+1) yZ) Dv hw7 O;have QA:=Gz.cf HW5.out O O;have HE:=vR (ES.out _ ⟨w,ob,FD,.slice (some ⟨g2,0,none⟩) (xY.length+1) yZ,rfl,by unfold vU;simpa using CO,QA.cells Zxa O,V8.out.cf QA,wQ,hwW,by rw[HAD.out];simp;omega,by rw[HAD.out,ZwH];simpa[IB]using Ez,HBN.out _ _ _ hr.out⟩ ((JZ.out.1.less O).tc (Gz.kt HW5.out O O)) (ZmV.trans (Gz.bl hwW ZIR)) (JZ.out.2.trans QA) Gl);generalize w7.setCell ⟨w,1,none⟩ (.slice (some ⟨g2,0,none⟩) (xY.length+1) yZ)=w8 at *;obtain⟨r0,r1,r2,r3⟩:=wS Gl;obtain⟨z0,z1,z2,z3⟩:=wS hf8;have Dl:fb≠W.heap.size+1:=Z
    clear Gl hf8 CO Ez QA Gz Ki ZW ZY zh Dv hw7 hf7 hr7 ES;exact Z0h
def Q3(e:yR)(wW text:vS):Option ((Nat×Nat×Nat)×yR):=
 match Vj wW text e.xs with
 |none=>none
 |some []=>match e.out with
  |none=>none
  |some (zX,xY)=>(BI wW text zX none none).map λr=>((r.1+1,r.2.1,r.2.2),{e with out:=some (zX,Mo xY (r.1,r.2.1))})
 |some [p]=>if ZaL e.xB p.1 then some ((0,p.1,p.2),e)else none
 |some (_::_::_)=>none
def U7(e:yR)(wW text:vS):Option (Nat×Nat×Nat):=e.out.bind λo=>BI wW text o.1 none none
def ZyC(e)(wW text):(Q3 e wW text).map (·.1)=BI wW text e.xs e.xB (U7 e wW text):=by
 have key:∀inner,(BI wW text e.xs e.xB inner)=match Vj wW text e.xs with
  |none=>none
  |some []=>inner.map λr=>(r.1+1,r.2.1,r.2.2)
  |some [p]=>if ZaL e.xB p.1 then some (0,p.1,p.2)else none
  |some (_::_::_)=>none:=λ_=>rfl
 rw[key];unfold Q3 U7;cases Vj wW text e.xs with
 |none=>rfl
 |some l=>
  match l with
  | []=>
   cases e.out with
   |none=>rfl
   |some o=>
    simp only[Option.bind_some];cases BI wW text o.1 none none<;>rfl
  | [p]=>simp only[];split<;>rfl
  |_::_::_=>rfl
def room(e:yR):Nat:=(match e.xB with|none=>0|some g=>g.2.length)+(match e.out with|none=>0|some o=>o.2.length)
def ZDH(l)(n):(Mo l n).length<=l.length+1:=by unfold Mo;split<;>simp
def ZyD{e}{e':yR}{text:vS}{r:Nat×Nat×Nat}(h:Q3 e wW text=some (r,e')):room e'<=room e+1/\e'.xs=e.xs/\e'.xB=e.xB/\(e.out=none->e'.out=none):=by
 unfold Q3 at h;split at h
 ·cases h
 ·cases ho:e.out with
  |none=>rw[ho]at h;cases h
  |some o=>
   rw[ho]at h;obtain⟨zX,xY⟩:=o;cases hl:BI wW text zX none none with
   |none=>simp only[hl]at h;cases h
   |some r'=>
    simp only[hl,Option.map_some,sN,sO]at h;obtain⟨_,rfl⟩:=h;refine⟨?_,rfl,rfl,λh=>nomatch h⟩;have:=ZDH xY (r'.1,r'.2.1);simp only[room,ho];omega
 ·split at h
  ·cases h;exact⟨Z,rfl,rfl,λh=>h⟩
  ·cases h
 ·cases h
def yS.ZxY{b}{e}(h:yS W0 W b e){text:vS}:∀r,U7 e wW text=some r->r.1<=10/\r.2.1<=100:=by
 intro r hr;obtain⟨sv,wv,gv,_,_,_,k4,_⟩:=h;unfold U7 at hr;cases ho:e.out with
 |none=>rw[ho]at hr;cases hr
 |some o=>
  rw[ho,Option.bind_some]at hr;obtain⟨zX,xY⟩:=o;rw[ho]at k4;obtain⟨w,ob,FD,nv,_,_,_,_,wQ,_⟩:=k4;have h1:=Zj1 wQ (inner:=none) (λr hr=>by cases hr) hr;have h2:=ZyE (o:=r.1) (a:=r.2.1) (t:=r.2.2) hr;exact⟨Z,h1.2⟩
def LkE(W0 W:World)(b:Nat)(res:Option ((Nat×Nat×Nat)×yR))(en:Ending)(W':World):Prop:=
 (res=none/\Gx W0 en W')\/∃o a t e',res=some ((o,a,t),e')/\o<=11/\a<=100/\en= .returned (.tuple #[.int .i64 (o:Nat),.agg #[.int .i64 (a:Nat),.int .i64 (t:Nat)]])/\yS W0 W' b e'/\KT (113::Cu) W W'/\vV W0 W'/\CF W W'
def ZFH(W0 W)(b)(e)(wW text)(x8:vV W0 W)(hp:yS W0 W b e)(hr:room e<400)(zW:text.length<=90000):
  Calls prog 155 #[vU b,.agg #[.string ⟨wW.toArray⟩,.string ⟨text.toArray⟩]] W (LkE W0 W b (Q3 e wW text)):=by
 obtain⟨sv,wv,gv,k1,k2,k3,k4,k5⟩:=id hp;obtain⟨wa,rfl⟩:∃wa,wv= .pointer wa:=by
  cases ho:e.out with
  |none=>rw[ho]at k4;exact⟨_,k4⟩
  |some o=>obtain⟨zX,xY⟩:=o;rw[ho]at k4;obtain⟨w,ob,FD,nv,e1,_⟩:=k4;exact⟨_,e1⟩
 have JK:=x8.size;have key:=Zmg W0 W b sv gv wa e wW text (U7 e wW text) (λW'=>∀r e',Q3 e wW text=some (r,e')->yS W0 W' b e'/\KT (113::Cu) W W'/\vV W0 W') x8 k1 hp zW ?_ ?_ (λr hr=>by have:=hp.ZxY r hr;omega) ?_
 ·refine key.mono ?_;rintro en W' (⟨hn,ht⟩|⟨o,a,t,hr,rfl,hT,hc⟩)
  ·refine .inl ⟨?_,ht⟩;rw[<-ZyC]at hn;exact Option.map_eq_none_iff.1 hn
  ·have hb:=Zj1 k3 hp.ZxY hr;rw[<-ZyC]at hr;obtain⟨⟨r,e'⟩,EA,BR⟩:=pO.1 hr;cases BR;obtain⟨h1,h2,h3⟩:=hT _ e' EA;exact .inr ⟨o,a,t,e',EA,hb.1,hb.2,rfl,h1,h2,h3,hc⟩
 ·refine⟨λa c ha Xi r e' he=>?_,λa g k cu u ha hg ho r e' he=>?_⟩
  ·obtain⟨h1,h2,h3⟩:=ha r e' he;exact⟨h1.below Xi,h2.tc (KT.vZ Xi),h3.trans (Xi.mono h3.size)⟩
  ·obtain⟨h1,h2,h3⟩:=ha r e' he;exact⟨h1.kt (KT.set ho O),h2.tc (KT.set ho O),h3.setCell (p:=⟨g,k,none⟩) (by show W0.heap.size<=g;omega) _⟩
 ·intro wF a ha r e' he;have:e'=e:=by
   unfold Q3 at he;split at he
   ·cases he
   ·exact absurd ‹_› wF
   ·split at he
    ·cases he;rfl
    ·cases he
   ·cases he
  subst this;exact⟨hp.below ha,KT.vZ ha,x8.trans (ha.mono JK)⟩
 ·intro W' hb Bq;have Bj:=x8.trans (hb.mono JK);have hp':=hp.below hb;cases ho:e.out with
  |none=>
   rw[ho]at k4;have:wa=none:=by cases k4;rfl
   subst this;have hi:U7 e wW text=none:=by unfold U7;rw[ho];try rfl
   rw[hi];exact Zmk W0 W' wW text _ Bj
  |some o=>
   obtain⟨zX,xY⟩:=o;obtain⟨M7,wv',gv',q1,q2,q3,q4,q5⟩:=id hp';rw[ho]at q4;obtain⟨w,ob,FD,nv,e1,m1,m2,m3,m4,m5,m6,m7,m8⟩:=q4;have k1':=xq hb k1;rw[k1']at q1;cases q1;have hi:U7 e wW text=BI wW text zX none none:=by unfold U7;rw[ho];try rfl
   rw[hi,e1];have QP:xY.length<400:=by have:=hr;simp only[room,ho]at this;omega
   refine(ZFQ W0 W' w ob FD nv zX xY wW text Bj m1 m2 m3 m4 m5 QP m7 m8 zW).mono ?_;rintro en W2 (Iz|⟨o,a,t,hr,hen,hT,hc⟩)
   ·exact .inl Iz
   ·refine .inr ⟨o,a,t,hr,hen,?_,hc⟩;intro r e' he;obtain⟨h1,h2,h3⟩:=hT o a t hr;have hee:e'={e with out:=some (zX,Mo xY (o,a))}:=by
     unfold Q3 at he;rw[Bq]at he;simp only[ho,hr,Option.map_some,sN,sO]at he;exact he.2.symm
    subst hee;refine⟨⟨sv,.pointer wa,gv,hc.cells k1' O,q2.cf hc,q3,?_,?_⟩,?_,h3⟩
    ·rw[e1];exact h1
    ·exact q5.cf hc (h2.less (λt h=>qb _ h))
    ·exact(KT.vZ hb).tc h2
def ZTw(y)(w):(Instr.typeAssert (.iface 439 y) 336 439 true).run prog w= .ok (.tuple #[y,.bool true]) w:=by kernel_rfl
def ZTb(y)(w):(Instr.typeAssert (.iface 365 y) 336 439 true).run prog w= .ok (.tuple #[.agg #[.nilIface],.bool false]) w:=by kernel_rfl
def ZAA(y)(w):(Instr.typeAssert (.iface 365 y) 336 365 true).run prog w= .ok (.tuple #[y,.bool true]) w:=by kernel_rfl
def ZTy(y)(w):(Instr.typeAssert (.iface 444 y) 336 439 true).run prog w= .ok (.tuple #[.agg #[.nilIface],.bool false]) w:=by kernel_rfl
def ZAB(y)(w):(Instr.typeAssert (.iface 444 y) 336 365 true).run prog w= .ok (.tuple #[.agg #[.string ⟨#[]⟩,.string ⟨#[]⟩],.bool false]) w:=by kernel_rfl
def ZAC(y)(w):(Instr.typeAssert (.iface 444 y) 336 444 true).run prog w= .ok (.tuple #[y,.bool true]) w:=by kernel_rfl
def ZTa(y)(w):(Instr.typeAssert (.iface 448 y) 336 439 true).run prog w= .ok (.tuple #[.agg #[.nilIface],.bool false]) w:=by kernel_rfl
def ZAx(y)(w):(Instr.typeAssert (.iface 448 y) 336 365 true).run prog w= .ok (.tuple #[.agg #[.string ⟨#[]⟩,.string ⟨#[]⟩],.bool false]) w:=by kernel_rfl
def ZAy(y)(w):(Instr.typeAssert (.iface 448 y) 336 444 true).run prog w= .ok (.tuple #[.agg #[.nilIface],.bool false]) w:=by kernel_rfl
def ZAz(y)(w):(Instr.typeAssert (.iface 448 y) 336 448 true).run prog w= .ok (.tuple #[y,.bool true]) w:=by kernel_rfl
def ZAw(y)(w):(Instr.typeAssert (.iface 451 y) 336 439 true).run prog w= .ok (.tuple #[.agg #[.nilIface],.bool false]) w:=by kernel_rfl
def Zkw(y)(w):(Instr.typeAssert (.iface 451 y) 336 365 true).run prog w= .ok (.tuple #[.agg #[.string ⟨#[]⟩,.string ⟨#[]⟩],.bool false]) w:=by kernel_rfl
def ZqA(y)(w):(Instr.typeAssert (.iface 451 y) 336 444 true).run prog w= .ok (.tuple #[.agg #[.nilIface],.bool false]) w:=by kernel_rfl
def ZqB(y)(w):(Instr.typeAssert (.iface 451 y) 336 448 true).run prog w= .ok (.tuple #[.agg #[.nilIface,.string ⟨#[]⟩,.nilIface],.bool false]) w:=by kernel_rfl
def ZqC(y)(w):(Instr.typeAssert (.iface 451 y) 336 451 true).run prog w= .ok (.tuple #[y,.bool true]) w:=by kernel_rfl
def ZTx(y)(w):(Instr.typeAssert (.iface 330 y) 178 330 true).run prog w= .ok (.tuple #[y,.bool true]) w:=by kernel_rfl
def ZAD(y)(w):(Instr.typeAssert (.iface 333 y) 178 330 true).run prog w= .ok (.tuple #[.agg #[.nilIface,.string ⟨#[]⟩,.nilIface],.bool false]) w:=by kernel_rfl
def ZAE(y)(w):(Instr.typeAssert (.iface 333 y) 178 333 true).run prog w= .ok (.tuple #[y,.bool true]) w:=by kernel_rfl
def ZTc(y)(w):(Instr.typeAssert (.iface 340 y) 178 330 true).run prog w= .ok (.tuple #[.agg #[.nilIface,.string ⟨#[]⟩,.nilIface],.bool false]) w:=by kernel_rfl
def ZTd(y)(w):(Instr.typeAssert (.iface 340 y) 178 333 true).run prog w= .ok (.tuple #[.agg #[.nilIface],.bool false]) w:=by kernel_rfl
def ZTe(y)(w):(Instr.typeAssert (.iface 340 y) 178 340 true).run prog w= .ok (.tuple #[y,.bool true]) w:=by kernel_rfl
def ZTq(y)(w):(Instr.typeAssert (.iface 343 y) 178 330 true).run prog w= .ok (.tuple #[.agg #[.nilIface,.string ⟨#[]⟩,.nilIface],.bool false]) w:=by kernel_rfl
def ZTr(y)(w):(Instr.typeAssert (.iface 343 y) 178 333 true).run prog w= .ok (.tuple #[.agg #[.nilIface],.bool false]) w:=by kernel_rfl
def ZTs(y)(w):(Instr.typeAssert (.iface 343 y) 178 340 true).run prog w= .ok (.tuple #[.agg #[.nilIface,.string ⟨#[]⟩,.nilIface],.bool false]) w:=by kernel_rfl
def ZTt(y)(w):(Instr.typeAssert (.iface 343 y) 178 343 true).run prog w= .ok (.tuple #[y,.bool true]) w:=by kernel_rfl
def ZTf(y)(w):(Instr.typeAssert (.iface 353 y) 178 330 true).run prog w= .ok (.tuple #[.agg #[.nilIface,.string ⟨#[]⟩,.nilIface],.bool false]) w:=by kernel_rfl
def ZTg(y)(w):(Instr.typeAssert (.iface 353 y) 178 333 true).run prog w= .ok (.tuple #[.agg #[.nilIface],.bool false]) w:=by kernel_rfl
def ZTh(y)(w):(Instr.typeAssert (.iface 353 y) 178 340 true).run prog w= .ok (.tuple #[.agg #[.nilIface,.string ⟨#[]⟩,.nilIface],.bool false]) w:=by kernel_rfl
def ZTi(y)(w):(Instr.typeAssert (.iface 353 y) 178 343 true).run prog w= .ok (.tuple #[.agg #[.nilIface,.bool false],.bool false]) w:=by kernel_rfl
def ZTj(y)(w):(Instr.typeAssert (.iface 353 y) 178 353 true).run prog w= .ok (.tuple #[y,.bool true]) w:=by kernel_rfl
def ZTk(y)(w):(Instr.typeAssert (.iface 359 y) 178 330 true).run prog w= .ok (.tuple #[.agg #[.nilIface,.string ⟨#[]⟩,.nilIface],.bool false]) w:=by kernel_rfl
def ZTl(y)(w):(Instr.typeAssert (.iface 359 y) 178 333 true).run prog w= .ok (.tuple #[.agg #[.nilIface],.bool false]) w:=by kernel_rfl
def ZTm(y)(w):(Instr.typeAssert (.iface 359 y) 178 340 true).run prog w= .ok (.tuple #[.agg #[.nilIface,.string ⟨#[]⟩,.nilIface],.bool false]) w:=by kernel_rfl
def ZTn(y)(w):(Instr.typeAssert (.iface 359 y) 178 343 true).run prog w= .ok (.tuple #[.agg #[.nilIface,.bool false],.bool false]) w:=by kernel_rfl
def ZTo(y)(w):(Instr.typeAssert (.iface 359 y) 178 353 true).run prog w= .ok (.tuple #[.agg #[.nilIface],.bool false]) w:=by kernel_rfl
def ZTp(y)(w):(Instr.typeAssert (.iface 359 y) 178 359 true).run prog w= .ok (.tuple #[y,.bool true]) w:=by kernel_rfl
def ZTB(y)(w):(Instr.typeAssert (.iface 362 y) 178 330 true).run prog w= .ok (.tuple #[.agg #[.nilIface,.string ⟨#[]⟩,.nilIface],.bool false]) w:=by kernel_rfl
def ZTC(y)(w):(Instr.typeAssert (.iface 362 y) 178 333 true).run prog w= .ok (.tuple #[.agg #[.nilIface],.bool false]) w:=by kernel_rfl
def ZTD(y)(w):(Instr.typeAssert (.iface 362 y) 178 340 true).run prog w= .ok (.tuple #[.agg #[.nilIface,.string ⟨#[]⟩,.nilIface],.bool false]) w:=by kernel_rfl
def ZTE(y)(w):(Instr.typeAssert (.iface 362 y) 178 343 true).run prog w= .ok (.tuple #[.agg #[.nilIface,.bool false],.bool false]) w:=by kernel_rfl
def ZTF(y)(w):(Instr.typeAssert (.iface 362 y) 178 353 true).run prog w= .ok (.tuple #[.agg #[.nilIface],.bool false]) w:=by kernel_rfl
def ZTG(y)(w):(Instr.typeAssert (.iface 362 y) 178 359 true).run prog w= .ok (.tuple #[.agg #[.nilIface,.nilIface,.bool false],.bool false]) w:=by kernel_rfl
def ZTH(y)(w):(Instr.typeAssert (.iface 362 y) 178 362 true).run prog w= .ok (.tuple #[y,.bool true]) w:=by kernel_rfl
def ZTu(y)(w):(Instr.typeAssert (.iface 169 y) 65 169 true).run prog w= .ok (.tuple #[y,.bool true]) w:=by kernel_rfl
def ZTz(y)(w):(Instr.typeAssert (.iface 181 y) 65 169 true).run prog w= .ok (.tuple #[.agg #[.nilIface,.string ⟨#[]⟩,.nilIface],.bool false]) w:=by kernel_rfl
def ZTA(y)(w):(Instr.typeAssert (.iface 181 y) 65 181 true).run prog w= .ok (.tuple #[y,.bool true]) w:=by kernel_rfl
inductive TX|lit (v:wG)|zO (wW text:vS)|neg (e:TX)|arith (sign:vS) (l r:TX)|star (name:vS)|agg (name:vS) (e:TX)
def xV:TX->Value
 | .lit v=>.iface 439 (.agg #[xe v])
 | .zO o s=>.iface 365 (.agg #[.string ⟨o.toArray⟩,.string ⟨s.toArray⟩])
 | .neg e=>.iface 444 (.agg #[xV e])
 | .arith s l r=>.iface 448 (.agg #[xV l,.string ⟨s.toArray⟩,xV r])
 | .star n=>.iface 451 (.agg #[.string ⟨n.toArray⟩,.nilIface])
 | .agg n e=>.iface 451 (.agg #[.string ⟨n.toArray⟩,xV e])
def Gq(x):∃n y,xV x= .iface n y:=by cases x<;>exact⟨_,_,rfl⟩
def CS:TX->Nat
 | .lit _=>1| .zO _ _=>1| .neg e=>CS e+1| .arith _ l r=>CS l+CS r+1| .star _=>1| .agg _ e=>CS e+1
def Gp:TX->Prop
 | .lit _=>True| .zO _ s=>s.length<=90000| .neg e=>Gp e| .arith _ l r=>Gp l/\Gp r| .star _=>True| .agg _ e=>Gp e
def Ug(n:vS)(t:Nat):Nat:=if n= [99,111,117,110,116]\/n= [115,117,109]then 1 else t
def Uf(n:vS)(t:Nat)(cl:Bool):Bool:=if n= [115,117,109]then cl||Cz t 1 else cl
def Zea(n:vS)(g:List Nat×List (vS×PX))(r:PX×Nat×yR×Bool):PX×Nat×yR×Bool:=(.made g.2.length,Ug n r.2.1,{r.2.2.1 with xB:=some (g.1,g.2++ [(n,r.1)])},Uf n r.2.1 r.2.2.2)
def zo:TX->yR->Bool->Option (PX×Nat×yR×Bool)
 | .lit v,e,cl=>some (.lit v,tyV v,e,cl)
 | .zO o s,e,cl=>(Q3 e o s).map λr=>(.zO r.1.1 r.1.2.1,r.1.2.2,r.2,cl)
 | .neg x,e,cl=>(zo x e cl).map λr=>(.arith [45] (.lit (.int 0)) r.1,1,r.2.2.1,r.2.2.2||Cz r.2.1 1)
 | .arith s l r,e,cl=>(zo l e cl).bind λa=>(zo r a.2.2.1 (a.2.2.2||Cz a.2.1 1)).map λb=>(.arith s a.1 b.1,1,b.2.2.1,b.2.2.2||Cz b.2.1 1)
 | .star n,e,cl=>e.xB.map λg=>Zea n g (.lit (.int 1),1,{e with xB:=none},cl)
 | .agg n x,e,cl=>e.xB.bind λg=>(zo x {e with xB:=none} cl).map λr=>Zea n g r
theorem KN:∀{x:TX} {e e':yR} {cl cl':Bool} {p:PX} {t:Nat},zo x e cl=some (p,t,e',cl')->room e'<=room e+CS x/\e'.xs=e.xs/\(e.xB=none->e'.xB=none)
 | .lit v,e,e',cl,cl',p,t,h=>by
  rw[zo]at h;cases h;exact⟨Z,rfl,λh=>h⟩
 | .zO o s,e,e',cl,cl',p,t,h=>by
  rw[zo]at h;obtain⟨⟨r,e1⟩,hl,h2⟩:=pO.1 h;cases h2;have:=ZyD hl;exact⟨by rw[CS];exact this.1,this.2.1,λh=>this.2.2.1.trans h⟩
 | .neg x,e,e',cl,cl',p,t,h=>by
  rw[zo]at h;obtain⟨⟨p1,t1,e1,c1⟩,hl,h2⟩:=pO.1 h;cases h2;have:=KN hl;exact⟨by have:=this.1;rw[CS];dsimp only at this ⊢;omega,this.2⟩
 | .arith s l r,e,e',cl,cl',p,t,h=>by
  rw[zo]at h;obtain⟨⟨p1,t1,e1,c1⟩,hl,h2⟩:=qV.1 h;obtain⟨⟨p2,t2,e2,c2⟩,hr,h3⟩:=pO.1 h2;cases h3;have a:=KN hl;have b:=KN hr;simp only[]at b;exact⟨by have a1:=a.1;have b1:=b.1;rw[CS];dsimp only at a1 b1 ⊢;omega,b.2.1.trans a.2.1,λh=>b.2.2 (a.2.2 h)⟩
 | .star n,e,e',cl,cl',p,t,h=>by
  rw[zo]at h;cases hg:e.xB with
  |none=>rw[hg]at h;cases h
  |some g=>
   rw[hg]at h;cases h;refine⟨?_,rfl,λh=>aS⟩;simp only[room,hg,CS,o6,List.length_singleton];omega
 | .agg n x,e,e',cl,cl',p,t,h=>by
  rw[zo]at h;cases hg:e.xB with
  |none=>rw[hg]at h;cases h
  |some g=>
   rw[hg,Option.bind_some]at h;obtain⟨⟨p1,t1,e1,c1⟩,hl,h2⟩:=pO.1 h;cases h2;have:=KN hl;have h3:=this.2.2 rfl;refine⟨?_,this.2.1,λh=>aS⟩;have h4:=this.1;simp only[room,h3,hg,CS,o6,List.length_singleton]at h4 ⊢;omega
def Oy(W0 W:World)(C M b:Nat)(e:yR)(res:Option (PX×Nat×yR×Bool))(en:Ending)(W':World):Prop:=
 (res=none/\Gx W0 en W')\/∃p t e' cl' K cap,res=some (p,t,e',cl')/\en= .returned (.tuple #[.func (.func K) #[] cap,.int .i64 (t:Nat)])/\zz W' p (.func (.func K) #[] cap)/\yS W0 W' b e'/\yL W0 C M cl' W'/\CF W W'/\(e.xB=none->KT Cu W W')
def Na(x:TX):Prop:=∀(W0 W:World) (C M b:Nat) (e:yR) (cl:Bool),yL W0 C M cl W->yS W0 W b e->room e+CS x<=400->Gp x->
 Calls prog 149 #[vU C,xV x,vU b] W (Oy W0 W C M b e (zo x e cl))
def Oy.from{W1}{b}{e}{res}{en}(h:Oy W0 W1 C M b e res en W')(hB:vV W W1):Oy W0 W C M b e res en W':=by
 rcases h with h|⟨p,t,e',cl',K,cap,h1,h2,h3,h4,h5,h6,h7⟩
 ·exact .inl h
 ·exact .inr ⟨p,t,e',cl',K,cap,h1,h2,h3,h4,h5,(CF.vZ hB).trans h6,λhg=>(KT.vZ hB).tc (h7 hg)⟩
def ZHG(v):Na (.lit v):=by
 intro W0 W C M b e cl hC hP hr hk;obtain⟨n,y,hv⟩:∃n y,xe v= .iface n y:=by cases v<;>exact⟨_,_,rfl⟩
 have ZCl:Hid (∀w,Calls prog 214 #[.iface n y] w (YO w (.lit v))):=λw=>by rw[<-hv];exact ZpF w v
 have HTY:Hid (∀w,Calls prog 215 #[.iface n y] w λe w'=>e= .returned (.int .i64 (tyV v:Nat))/\w'=w):=λw=>by rw[<-hv];exact ZFO w v
 have Gt:Hid (∀w' K cap,vV W w'->zz w' (.lit v) (.func (.func K) #[] cap)->Oy W0 W C M b e (zo (.lit v) e cl) (.returned (.tuple #[.func (.func K) #[] cap,.int .i64 (tyV v:Nat)])) w'):=λw' K cap hB hf=>.inr ⟨_,_,_,_,_,_,rfl,rfl,hf,hP.below hB,hC.below hB,CF.vZ hB,λ_=>KT.vZ hB⟩;have ta:=ZTw (.agg #[.iface n y]);rw[xV,hv];generalize tyV v=k at *;generalize zo (.lit v) e cl=res at *;clear hv hC hP hr hk;unfold vU;go_enter func149,ntmps149;go_wp2_with fail;go_region_with (first|(go_at_call 214;refine(ZCl.out _).mono ?_;intro en w1 IG;obtain⟨f,rfl,hf,wE⟩:=IG;obtain⟨K,cap,rfl,_⟩:=hf.func;have yV:w1.cell? ⟨W.heap.size,0,none⟩=some (.iface n y):=(wE.cell (p:=⟨W.heap.size,0,none⟩) ae).trans ae)|(go_at_call 215;refine(HTY.out _).mono ?_;rintro e w2 ⟨rfl,rfl⟩));all_goals
  go_wp2_with fail;go_ret2;exact Gt.out _ _ _ ((yF ((nW _ W).alloc (nV _) _) 1).trans (wE.mono ae)) hf
def Z0k{p:Prop}(h:p:=by
 have xM:=vR wV;obtain⟨b',rfl,_⟩:=wV;clear wO;go_wp2;exact⟨rfl,.inl ⟨yD.out,xM.out⟩⟩):p:=h
def ZHF(o s):Na (.zO o s):=by
 intro W0 W C M b e cl hC hP hr hk;have RA:Hid (∀w',vV W w'->Calls prog 155 #[.pointer (some ⟨b,0,none⟩),.agg #[.string ⟨o.toArray⟩,.string ⟨s.toArray⟩]] w' (LkE W0 w' b (Q3 e o s))):=λw' hB=>ZFH W0 w' b e o s (hC.low.trans (hB.mono hC.low.size)) (hP.below hB) eU hk;have HC:=vR hC;have Ap:Hid (zo (.zO o s) e cl=(Q3 e o s).map λr=>(.zO r.1.1 r.1.2.1,r.1.2.2,r.2,cl)):=by show _=_;rw[zo]
 generalize zo (.zO o s) e cl=res at *;have ta:=ZTb (.agg #[.string ⟨o.toArray⟩,.string ⟨s.toArray⟩]);have tb:=ZAA (.agg #[.string ⟨o.toArray⟩,.string ⟨s.toArray⟩]);rw[xV];clear hC hP hr hk;unfold vU;go_enter func149,ntmps149;go_wp2_with fail;have xA:vV W (W.alloc (.cells #[.string ⟨o.toArray⟩,.string ⟨s.toArray⟩] 365)):=(nW _ W).alloc (nV _) _;refine(RA.out _ xA).mono ?_;rintro en w2 (⟨wO,wV⟩|⟨o',a,t,e',xz,ho,ha,rfl,hP2,wY,wK,hF2⟩)
 ·have yD:Hid (res=none):=by show _=_;rw[Ap.out,wO];try rfl
  exact Z0k
 ·have HR:Hid (res=some (.zO o' a,t,e',cl)):=by show _=_;rw[Ap.out,xz];try rfl
  have PZ:Hid (yL W0 C M cl w2):=⟨wK,HC.out.hC,wY _ _ _ O (HC.out.below xA).obj⟩;have Bz:Hid (CF W w2/\KT Cu W w2/\yS W0 w2 b e'):=⟨(CF.vZ xA).trans hF2,(KT.vZ xA).tc (wY.less (λt h=>qb _ h)),hP2⟩;clear xz hP2 wY wK hF2;go_wp2_with fail;go_region_with (go_at_call 216;refine(Zc0 _ _ _ Z Z).mono ?_;intro en w4 IG;obtain⟨f,rfl,hf,xw⟩:=IG;obtain⟨K,cap,rfl,_⟩:=hf.func;have hc4:w4.cell? ⟨w2.heap.size,1,none⟩=some (.int .i64 t):=(xw.cell (p:=⟨w2.heap.size,1,none⟩) ae).trans ae);all_goals
   go_wp2_with fail;go_ret2;have Uw:=(yF ((nW _ w2).alloc (nV _) _) 1).trans (xw.mono ae);exact .inr ⟨_,_,_,_,_,_,HR.out,rfl,hf,Bz.out.2.2.below Uw,PZ.out.below Uw,Bz.out.1.trans (CF.vZ Uw),λ_=>Bz.out.2.1.tc (KT.vZ Uw)⟩
def NuR(W0 W:World)(C M b:Nat)(e:yR)(res:Option (PX×Nat×yR×Bool))(en:Ending)(W':World):Prop:=
 (res=none/\Gx W0 en W')\/∃p t e' cl' K cap,res=some (p,t,e',cl')/\en= .returned (.func (.func K) #[] cap)/\zz W' p (.func (.func K) #[] cap)/\yS W0 W' b e'/\yL W0 C M (cl'||Cz t 1) W'/\CF W W'/\(e.xB=none->KT Cu W W')
def CF.ck(hx:Ox [C] W W')(hC:yL W0 C M cl W):CF W W'/\KT ZgW W W'/\KT Cu W W':=by
 have hk:=fun(g:Nat) (ob:Obj) (e:W.heap[g]? =some ob) (hn:(∀cu fr,ob≠.cells cu 113 fr))=>(hx.block g (wo e) (λhm=>by
  have:g=C:=bK
  subst this;rw[hC.obj]at e;cases e;exact hn _ _ rfl)).trans e
 exact⟨⟨hx.os,hx.tape,hx.output,hx.size,λg ob e hn=>hk g ob e (λcu fr e2=>hn _ _ _ e2 O)⟩,λg cu ty ht e=>hk g _ e (λ_ _ e2=>gD),λg cu ty ht e=>hk g _ e (λ_ _ e2=>gD)⟩
def Zmh(x)(hx:Na x)(W0 W)(C M b)(e)(cl)(hC:yL W0 C M cl W)(hP:yS W0 W b e)(hr:room e+CS x<=400)(hk:Gp x):
  Calls prog 218 #[vU C,xV x,vU b] W (NuR W0 W C M b e (zo x e cl)):=by
 have BC:=hx W0 W C M b e cl hC hP hr hk;obtain⟨xn,xy,hxv⟩:=Gq x;rw[hxv]at BC ⊢;generalize zo x e cl=res at *;unfold vU at *;clear hx hC hP hr hk hxv;go_enter func218,ntmps218;go_wp2_with fail;refine BC.mono ?_;rintro en w1 (⟨wO,wV⟩|⟨p,t,e',cl',K,cap,xz,rfl,hf,wP,zG,yQ,hG1⟩)
 ·have yD:=vR wO;exact Z0k
 ·have HR:=vR xz;have HH:Hid (zz w1 p (.func (.func K) #[] cap)/\yS W0 w1 b e'/\CF W w1/\(e.xB=none->KT Cu W w1)):=⟨hf,wP,yQ,hG1⟩;have Nf:=vR zG;clear xz hf wP zG yQ hG1 BC;go_wp2_with fail;refine(ZhV W0 C M cl' t 1 w1 Nf.out).mono ?_;rintro en w2 ⟨rfl,Fh,CE⟩;have HX2:=vR Fh;have PZ:=vR CE;clear Fh CE;go_wp2_with fail;go_ret;obtain⟨h1,h2,h3⟩:=CF.ck HX2.out Nf.out;exact .inr ⟨p,t,e',cl',K,cap,HR.out,rfl,HH.out.1.same h1.BV,HH.out.2.1.cf h1 h2 h3,PZ.out,HH.out.2.2.1.trans h1,λhg=>(HH.out.2.2.2 hg).tc h3⟩
def ZHH(x)(hx:Na x):Na (.neg x):=by
 intro W0 W C M b e cl hC hP hr hk;have OB:=vR (λw' (hB:vV W w')=>Zmh x hx W0 w' C M b e cl (hC.below hB) (hP.below hB) eU hk);have Ap:Hid (zo (.neg x) e cl=(zo x e cl).map λr=>(.arith [45] (.lit (.int 0)) r.1,1,r.2.2.1,r.2.2.2||Cz r.2.1 1)):=by show _=_;rw[zo]
 generalize zo (.neg x) e cl=res at *;rw[xV];obtain⟨ln,ly,hxv⟩:=Gq x;rw[hxv]at OB ⊢;have ta:=ZTy (.agg #[.iface ln ly]);have tb:=ZAB (.agg #[.iface ln ly]);have tc:=ZAC (.agg #[.iface ln ly]);clear hx hC hP hr hk hxv;unfold vU at *;go_enter func149,ntmps149;go_wp2_with fail;have xA:vV W (W.alloc (.cells #[.iface ln ly] 444)):=(nW _ W).alloc (nV _) _;refine(OB.out _ xA).mono ?_;rintro en w1 (⟨wO,wV⟩|⟨p,t,e',cl',K,cap,xz,rfl,hf,wP,zG,yQ,hG1⟩)
 ·have yD:Hid (res=none):=by show _=_;rw[Ap.out,wO];try rfl
  exact Z0k
 ·have HR:Hid (res=some (.arith [45] (.lit (.int 0)) p,1,e',cl'||Cz t 1)):=by show _=_;rw[Ap.out,xz];try rfl
  have HH:Hid (yS W0 w1 b e'/\yL W0 C M (cl'||Cz t 1) w1/\CF W w1/\(e.xB=none->KT Cu W w1)):=⟨wP,zG,(CF.vZ xA).trans yQ,λh=>(KT.vZ xA).tc (hG1 h)⟩;have OC:=vR (ZQx w1 _ p hf);clear xz hf wP zG yQ hG1;go_wp2_with fail;refine OC.out.mono ?_;rintro en w2 ⟨f,rfl,yj,wK⟩;obtain⟨K2,yZ,rfl,_⟩:=yj.func;go_wp2_with fail;go_ret2;exact .inr ⟨_,_,_,_,K2,yZ,HR.out,rfl,yj,HH.out.1.below wK,HH.out.2.1.below wK,HH.out.2.2.1.trans (CF.vZ wK),λh=>(HH.out.2.2.2 h).tc (KT.vZ wK)⟩
def Z0l{p:Prop}(h:p:=by
 have xM:=vR wV;obtain⟨b',rfl,_⟩:=wV;clear wO;go_wp2;exact⟨rfl,.inl ⟨yD.out,xM.out⟩⟩):p:=h
def ZHE(s)(x y)(hx:Na x)(hy:Na y):Na (.arith s x y):=by
 intro W0 W C M b e cl hC hP hr hk;have EA:room e+CS x+CS y<=400:=by rw[CS]at hr;omega
 have V6:=vR (λw' (hB:vV W w')=>Zmh x hx W0 w' C M b e cl (hC.below hB) (hP.below hB) Z hk.1);have F8:=vR (λp1 t1 e1 c1 w' (he:zo x e cl=some (p1,t1,e1,c1)) (Zq:yS W0 w' b e1) (Ux:yL W0 C M (c1||Cz t1 1) w')=>Zmh y hy W0 w' C M b e1 _ Ux Zq (by have:=(KN he).1;omega) hk.2);have Ap:Hid (zo (.arith s x y) e cl=(zo x e cl).bind λa=>(zo y a.2.2.1 (a.2.2.2||Cz a.2.1 1)).map λb=>(.arith s a.1 b.1,1,b.2.2.1,b.2.2.2||Cz b.2.1 1)):=by show _=_;rw[zo]
 have HG:=vR (λp1 t1 e1 c1 (he:zo x e cl=some (p1,t1,e1,c1))=>(KN he).2.2);generalize zo (.arith s x y) e cl=res at *;rw[xV];obtain⟨ln,ly,hxv⟩:=Gq x;obtain⟨rn,ry,hyv⟩:=Gq y;rw[hxv]at V6 ⊢;rw[hyv]at F8 ⊢;have ta:=ZTa (.agg #[.iface ln ly,.string ⟨s.toArray⟩,.iface rn ry]);have tb:=ZAx (.agg #[.iface ln ly,.string ⟨s.toArray⟩,.iface rn ry]);have tc:=ZAy (.agg #[.iface ln ly,.string ⟨s.toArray⟩,.iface rn ry]);have td:=ZAz (.agg #[.iface ln ly,.string ⟨s.toArray⟩,.iface rn ry]);clear hx hy hC hP hr EA hk hxv hyv;unfold vU at *;go_enter func149,ntmps149;go_wp2_with fail;generalize yn:W.alloc (.cells #[.iface ln ly,.string ⟨s.toArray⟩,.iface rn ry] 448)=Wp;have xA:vV W Wp:=by rw[<-yn];exact(nW _ W).alloc (nV _) _
 have yX:Wp.heap[W.heap.size]? =some (.cells #[.iface ln ly,.string ⟨s.toArray⟩,.iface rn ry] 448):=by rw[<-yn];exact xI W _
 clear yn;obtain⟨c0,c1,c2⟩:=xh yX;refine vM (S:=λw'=>w'.cell? ⟨W.heap.size,0,none⟩=some (.iface ln ly)/\w'.cell? ⟨W.heap.size,1,none⟩=some (.string ⟨s.toArray⟩)/\w'.cell? ⟨W.heap.size,2,none⟩=some (.iface rn ry)) af ⟨by exact c0,by exact c1,by exact c2⟩ (λwL=>?_);refine tk 0 ?_;refine tk 1 ?_;refine tk 2 ?_;refine tk 3 ?_;refine tk 4 ?_;refine tk 5 ?_;refine tk 6 ?_;refine tk 7 ?_;refine tk 9 ?_;refine tk 10 ?_;refine tk 11 ?_;refine tk 12 ?_;refine tk 13 ?_;refine og (rs:= [8]) af ae (nZ rfl (λK hK=>?_) oh);go_simp;refine(V6.out _ (yF xA 1)).mono ?_;rintro en w1 (⟨wO,wV⟩|⟨p1,t1,e1,Ac,K1,Cr,QV,rfl,Ci,wP,zG,yQ,hG1⟩)
 ·have yD:Hid (res=none):=by show _=_;rw[Ap.out,wO];try rfl
  exact Z0l
 have yG:=yQ.cells dJ O;obtain⟨d0,d1,d2⟩:=xh yG;refine hK.out _ _ ⟨by exact d0,by exact d1,by exact d2⟩ (λwL=>?_);clear hK K;refine og (rs:= [14]) af ae (nZ rfl (λK hK=>?_) oh);go_simp;have ZdE:=vR (F8.out p1 t1 e1 Ac w1 QV wP zG);have Df:=vR QV;clear QV;refine ZdE.out.mono ?_;rintro en w2 (⟨wO,wV⟩|⟨p2,t2,e2,Cb,K2,yZ,hres2,rfl,yj,hP2,CE,hF2,MH⟩)
 ·have yD:Hid (res=none):=by show _=_;rw[Ap.out,Df.out,Option.bind_some,wO];try rfl
  exact Z0l
 have HR:Hid (res=some (.arith s p1 p2,1,e2,Cb||Cz t2 1)):=by show _=_;rw[Ap.out,Df.out,Option.bind_some,hres2];try rfl
 clear hres2;have Eb:=hF2.cells yG O;obtain⟨g0,g1,g2⟩:=xh Eb;refine hK.out _ _ ⟨by exact g0,by exact g1,by exact g2⟩ (λwL=>?_);clear hK K;refine og (rs:= [15]) af ae (nZ rfl (λK hK=>?_) oh);go_simp;refine(Zzm w2 s _ _ p1 p2 (Ci.same hF2.BV) yj).mono ?_;rintro en w3 ⟨f,rfl,JF,wH⟩;obtain⟨K3,YZ,rfl,_⟩:=JF.func;have EI:=xq wH Eb;obtain⟨k0,k1,k2⟩:=xh EI;refine hK.out _ _ ⟨by exact k0,by exact k1,by exact k2⟩ (λwL=>?_);clear hK K;refine tk 16 ?_;refine tk 17 ?_;refine oP af ?_ _;have HGG:=vR (fun(h:e.xB=none)=>(((KT.vZ (yF xA 1)).tc (hG1 h)).tc (MH (HG.out _ _ _ _ Df.out h))).tc (KT.vZ wH));have HCF:=vR ((((CF.vZ (yF xA 1)).trans yQ).trans hF2).trans (CF.vZ wH));have P9:=vR (hP2.below wH);have TG:=vR (CE.below wH);have JX:=vR JF;clear Ci wP zG yQ hG1 yj hP2 CE hF2 MH JF;go_wp2_with fail;go_ret2;exact .inr ⟨_,_,_,_,K3,YZ,HR.out,rfl,JX.out,P9.out,TG.out,HCF.out,HGG.out⟩
end Go.Proofs.YtncnkiabjhhclaaGreatDoor
