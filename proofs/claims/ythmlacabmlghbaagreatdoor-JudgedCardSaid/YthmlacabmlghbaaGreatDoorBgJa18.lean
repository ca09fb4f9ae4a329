import Derived.Test.YthmlacabmlghbaaGreatDoorBgJa17
set_option maxRecDepth 100000
set_option maxHeartbeats 8000000
set_option linter.unusedSimpArgs false
set_option linter.unusedVariables false
namespace Go.Proofs.YthmlacabmlghbaaGreatDoor
open Go.Proofs.Tryz
theorem ZVY{p:Prop}(h:p:=by refine wpIn_block ?_;refine ZdL rfl ZPS ?_;go_wp2;have y1:=HL8.out;have y2:=HD8.out;refine⟨by first|exact y1|(rw[hs3];exact y1),by first|exact y2|(rw[hs3];exact y2),fun A' hO=>?_⟩;exact HT8.out.same (Nat.le_of_eq hO.size.symm) hO.os hO.tape hO.output (fun b hb=>hO.block b (by first|omega|(rw[hs3];omega)))):p:=h
theorem ZR3{p:Prop}(h:p:=by simp[results,Tryz.results133,go_sem,r0,r1,r2]):p:=h
theorem ZR4{p:Prop}(h:p:=by simp[results,Tryz.results135,go_sem,r0,r1,r2]):p:=h
theorem ZR5{p:Prop}(h:p:=by simp[results,Tryz.results137,go_sem,r0,r1,r2]):p:=h
theorem ZRv{p:Prop}(h:p:=by simp[results,Tryz.results91,go_sem,r0,r1,r2];first|done|rfl):p:=h
open Go.RowKit
theorem Zvr{w w':World}{B e sz n:Nat}{v:Value}{xs:List Value}(h:w.ownsRow B e sz v n xs)(hb:∀g,B<=g->w'.heap[g]? =w.heap[g]?):w'.ownsRow B e sz v n xs:=by
 refine⟨h.1,?_⟩;rcases h.2 with h0|⟨g,cap,cu,rfl,hg,hh,r⟩
 ·exact ZS4
 ·exact .inr ⟨g,cap,cu,rfl,hg,(hb g hg).trans hh,r⟩
theorem Za1(w:World)(r:Nat)(o:Obj):(w.putObj r o).heap.size=w.heap.size:=by simp[World.putObj]
theorem Tryz.ZED:(prog.info? 248).map (fun i=>(i.zero,i.size,i.bytes))=some (some (.agg #[.string ⟨#[]⟩,.int .i64 0]),2,24):=by kernel_rfl
theorem Zjw(w:World)(a b:Value)(ty:TypeId):∀j u, [a,b][j]? =some u->(w.alloc (.cells #[a,b] ty)).cell? ((⟨w.heap.size,0,none⟩:Addr).add j)=some u:=by
 intro j u h;match j with
 |0=>simp at h;subst h;simp[Addr.add]
 |1=>simp at h;subst h;simp[Addr.add]
 |n+2=>simp at h
theorem Zrg{B N D b:Nat}{line:Int}{W A:World}(hB:B<=N)(hBl:Below N W A)(hD:A.heap[D]? =some (.deferred (some [])))(hb0:A.cell? ⟨b,0,none⟩=some (.int .i64 1))(hb1:A.cell? ⟨b,1,none⟩=some (.int .i64 line))(hN:N<=D):bad B line W (.panicked (thrown b)) (A.putObj D (.deferred none)):=by
 have hbD:b≠D:=by
  intro e;subst e;simp[World.cell?,hD]at hb0
 refine⟨b,rfl,(ZXb (a:=⟨b,0,none⟩) (ZXz hbD)).trans hb0,(ZXb (a:=⟨b,1,none⟩) (ZXz hbD)).trans hb1,hBl.os,hBl.tape,hBl.output,?_,fun k hk=>(ZXz U).trans (hBl.block k U)⟩;rw[Za1];exact hBl.size
theorem ZcT{h:Array Obj}{o:Obj}{i:Nat}(e:i=h.size):(h.push o)[i]? =some o:=by subst e;simp
theorem Vq{h:Array Obj}{o:Obj}{i:Nat}(hi:i<h.size):(h.push o)[i]? =h[i]? :=by rw[Array.getElem?_push,ZWQ U]
theorem Zf7(h:Array Obj)(o0 o1 o2 o3 o4 o5:Obj):
  ((((((h.push o0).push o1).push o2).push o3).push o4).push o5)[h.size]? =some o0/\((((((h.push o0).push o1).push o2).push o3).push o4).push o5)[h.size+1]? =some o1/\((((((h.push o0).push o1).push o2).push o3).push o4).push o5)[h.size+2]? =some o2/\
  ((((((h.push o0).push o1).push o2).push o3).push o4).push o5)[h.size+3]? =some o3/\((((((h.push o0).push o1).push o2).push o3).push o4).push o5)[h.size+4]? =some o4/\((((((h.push o0).push o1).push o2).push o3).push o4).push o5)[h.size+5]? =some o5:=by
 refine⟨?_,?_,?_,?_,?_,?_⟩
 ·rw[Vq ZPI,Vq ZPI,Vq ZPI,Vq ZPI,Vq ZPI,ZcT ZP0]
 ·rw[Vq ZPI,Vq ZPI,Vq ZPI,Vq ZPI,ZcT ZP0]
 ·rw[Vq ZPI,Vq ZPI,Vq ZPI,ZcT ZP0]
 ·rw[Vq ZPI,Vq ZPI,ZcT ZP0]
 ·rw[Vq ZPI,ZcT ZP0]
 ·rw[ZcT ZP0]
structure UX (B R M:Nat) (w w':World):Prop where
 os:w'.os=w.os
 tape:w'.tape=w.tape
 output:w'.output=w.output
 size:w.heap.size<=w'.heap.size
 block:∀b,b<B->b≠R->b≠M->w'.heap[b]? =w.heap[b]?
theorem UX.of_below{B R M:Nat}{w w':World}(h:Below B w w'):UX B R M w w':=⟨h.os,h.tape,h.output,h.size,fun b hb _ _=>h.block b hb⟩
theorem UX.trans{B R M:Nat}{w w' w'':World}(h:UX B R M w w')(h':UX B R M w' w''):UX B R M w w'':=
 ⟨h'.os.trans h.os,h'.tape.trans h.tape,h'.output.trans h.output,ZW0 h.size h'.size,fun b h1 h2 h3=>(h'.block b h1 h2 h3).trans (h.block b h1 h2 h3)⟩
def Zha(Zg:List Za)(l:List Za):Prop:=(Zo l).all (Ef Zg)=true/\((Zo l).map (·.1)).Nodup
structure JM (N R g o cap:Nat) (Zg:List Za) (l:List Za) (k:Nat) (W A:World):Prop where
 low:Below N W A
 bR:A.heap[N]? =some (.cells #[.pointer (some ⟨R,0,none⟩)] 133 (0,0))
 bT:A.heap[N+3]? =some (.cells #[.pointer (some ⟨N+2,0,none⟩)] 136 (0,0))
 bF:A.heap[N+4]? =some (.cells #[.slice (some ⟨g,o+1,none⟩) l.length (cap-1)] 22 (0,0))
 b2:A.heap[N+5]? =some (.cells #[.int .i64 2] 3 (0,0))
 sz:N+8<=A.heap.size
 pl:Xv A (N+1) k (((Zo l).take k).map (·.1))
 pv:Vv A (N+1) k (placesOf (((Zo l).take k).map (·.1)))
 tb:∃cv,A.heap[N+2]? =some (.cells #[cv,.map (some (N+1)),.slice none 0 0] 242 (0,0))/\A.ownsRow (N+8) 248 2 cv k (Ja (YG ((Zo l).take k)))
 ok:((Zo l).take k).all (Ef Zg)=true
section
variable {N R g o cap:Nat} {Zg:List Za} {l:List Za} {k:Nat} {W A A':World}
theorem JM.same(h:JM N R g o cap Zg l k W A)(hs:A.heap.size<=A'.heap.size)(h1:A'.os=A.os)(h2:A'.tape=A.tape)(h3:A'.output=A.output)(hb:∀b,b<A.heap.size->b≠N+7->A'.heap[b]? =A.heap[b]?):JM N R g o cap Zg l k W A':=by
 obtain⟨cv,t1,t2⟩:=h.tb;have hsz:=h.sz;have lo:∀b,b<N+7->A'.heap[b]? =A.heap[b]? :=fun b hb'=>hb b U U;refine⟨⟨h1.trans h.low.os,h2.trans h.low.tape,h3.trans h.low.output,ZW0 h.low.size hs,fun b hb'=>(lo b U).trans (h.low.block b hb')⟩,
  (lo _ U).trans h.bR,(lo _ U).trans h.bT,(lo _ U).trans h.bF,(lo _ U).trans h.b2,ZW0 hsz hs,JV h.pl (lo _ U),V7 h.pv (lo _ U),⟨cv,(lo _ U).trans t1,?_⟩,h.ok⟩
 refine⟨t2.1,?_⟩;rcases t2.2 with h0|⟨g,cap,cu,rfl,hg,hh,r⟩
 ·exact ZS4
 ·exact .inr ⟨g,cap,cu,rfl,hg,(hb g (ZWU.1 hh).1 U).trans hh,r⟩
theorem JM.put(h:JM N R g o cap Zg l k W A)(ob:Obj):JM N R g o cap Zg l k W (A.putObj (N+7) ob):=
 h.same (by rw[Za1];exact ZWS _) rfl rfl rfl (fun b _ hb=>ZXz hb)
theorem JM.grow(h:JM N R g o cap Zg l k W A)(hB:Below A.heap.size A A'):JM N R g o cap Zg l k W A':=
 h.same hB.size hB.os hB.tape hB.output (fun b hb _=>hB.block b hb)
theorem JM.drewN(h:JM N R g o cap Zg l k W A)(n:Nat):JM N R g o cap Zg l k W (A.drewN n):=
 h.grow (ZW (ZWT _ _) n)
end
theorem ZvG:∀(l:List Za) (k:Nat) (h:2*k+1<l.length),(Zo l)[k]? =some (l[2*k]' U,l[2*k+1]'h)
 | [],k,h=>ZPY
 | [_],k,h=>ZPY
 |n::t::r,0,h=>rfl
 |n::t::r,k+1,h=>by
  have ih:=ZvG r k (by simp at h;omega);rw[Zo,List.getElem?_cons_succ,ih];congr 1
theorem ZoA:∀(l:List Za),(Zo l).length=l.length/2
 | []=>rfl
 | [_]=>by simp[Zo]
 |n::t::r=>by rw[Zo,List.length_cons,ZoA r];simp;omega
theorem ZwX{α:Type}:∀(l:List α) (k:Nat) (x:α),l[k]? =some x->l.take (k+1)=l.take k++ [x]
 | [],k,x,h=>ZPY
 |a::l,0,x,h=>by simp at h;subst h;rfl
 |a::l,k+1,x,h=>by
  rw[List.getElem?_cons_succ]at h;rw[List.take_succ_cons,ZwX l k x h];rfl
section
open Go.Shelf
attribute [local go_sem] Oper.semAt_some
def UZ(w:World):Prop:=1<w.heap.size/\∀c:UInt8,c.toNat<128->w.cell? ⟨1,c.toNat,none⟩=some (.int .u8 (if isSp c then 1 else 0))
structure Zc8 (N:Nat) (pre:List Za) (W A:World):Prop where
 low:Below N W A
 b1:A.heap[N+1]? =some (.cells #[.map (some N)] 134 (0,0))
 b2:A.heap[N+2]? =some (.cells #[.string ⟨Kn.toArray⟩] 9 (0,0))
 sz:N+5<=A.heap.size
 ks:Xv A N pre.length pre
theorem Zc8.same{N:Nat}{pre:List Za}{W A A':World}(h:Zc8 N pre W A)(hs:A.heap.size<=A'.heap.size)(h1:A'.os=A.os)(h2:A'.tape=A.tape)(h3:A'.output=A.output)(hb:∀b,b<N+4->A'.heap[b]? =A.heap[b]?):Zc8 N pre W A':=
 ⟨⟨h1.trans h.low.os,h2.trans h.low.tape,h3.trans h.low.output,ZW0 h.low.size hs,fun b hb'=>(hb b U).trans (h.low.block b hb')⟩,(hb _ U).trans h.b1,(hb _ U).trans h.b2,ZW0 h.sz hs,JV h.ks (hb _ U)⟩
theorem Za3(h:Array Obj)(o0 o1 o2:Obj):(((h.push o0).push o1).push o2)[h.size]? =some o0/\(((h.push o0).push o1).push o2)[h.size+1]? =some o1/\(((h.push o0).push o1).push o2)[h.size+2]? =some o2:=by
 refine⟨?_,?_,?_⟩
 ·rw[Vq ZPI,Vq ZPI,ZcT ZP0]
 ·rw[Vq ZPI,ZcT ZP0]
 ·rw[ZcT ZP0]
theorem ZMZ(W:World)(hS:UZ W):
  Calls prog 51 #[] W fun e W'=>e= .returned (.map (some W.heap.size))/\Xv W' W.heap.size 100 YI/\Below W.heap.size W W'/\W.heap.size<W'.heap.size:=by
 have hmm:=@run_makeMap prog;have Xi:∀(fn:Fn) (first cap:Array Value) (w:World),(Instr.makeFunc fn first cap).run prog w= .ok (.func fn first cap) w:=fun _ _ _ _=>rfl;refine Zg8 func51 rfl ?_;simp only[ntmps51,ZXY,List.length_cons,List.length_nil,Nat.reduceAdd,Nat.reduceSub,ZXZ,Array.replicate_zero,ZX0,ZX1,List.nil_append,List.cons_append];refine QK (QL ?_);go_wp2;refine QK (QL ?_);go_wp2;refine QK (QK (QL ?_));go_wp2;refine Zlo ?_;change EU _ _ _ _ _ (((W.alloc (.map #[] 0)).alloc (.cells #[.map (some W.heap.size)] 134)).alloc (.cells #[.string ⟨Kn.toArray⟩] 9));obtain⟨w3,hw3⟩:∃w3,((W.alloc (.map #[] 0)).alloc (.cells #[.map (some W.heap.size)] 134)).alloc (.cells #[.string ⟨Kn.toArray⟩] 9)=w3:=⟨_,rfl⟩;rw[hw3];have hs3:w3.heap.size=W.heap.size+3:=by rw[<-hw3];simp
 have hB3:Below W.heap.size W w3:=by
  exact ZWC
 have k0:w3.heap[W.heap.size]? =some (.map #[] 0):=by rw[<-hw3];exact(Za3 W.heap _ _ _).1
 have k1:w3.heap[W.heap.size+1]? =some (.cells #[.map (some W.heap.size)] 134 (0,0)):=by rw[<-hw3];exact(Za3 W.heap _ _ _).2.1
 have k2:w3.heap[W.heap.size+2]? =some (.cells #[.string ⟨Kn.toArray⟩] 9 (0,0)):=by rw[<-hw3];exact(Za3 W.heap _ _ _).2.2
 clear hw3;refine Zxm (W.heap.size+2) Kn (fun pre A=>Zc8 W.heap.size pre W A) (fun _ _=>False) func51 rfl rfl ZPl ZuY ?_ ?_ ?_ ?_ ?_ (fun _ _ h=>h.elim)
 ·exact ZVv
 ·exact ZVu
 ·have lo:∀b,b<W.heap.size+3->∀(tmps:Array Value) (ps:Array Tmp) (U2 bd:Code),(Qg w3 51 tmps ps U2 bd).heap[b]? =w3.heap[b]? :=fun b hb _ _ _ _=>ZbQ U;refine⟨⟨hB3.os,hB3.tape,hB3.output,?_,fun b hb=>(lo _ U ..).trans (hB3.block b hb)⟩,(lo _ U ..).trans k1,(lo _ U ..).trans k2,?_,?_⟩
  ·simp[Qg];omega
  ·simp[Qg];omega
  ·refine JV (w:=w3) ?_ (lo _ U ..);exact ZTE
 ·intro pre x A rb A2 hT hpl hxl ZP hL hD;rw[hs3]at ZP hL hD;have hkl:Kn.length<=200:=by decide
  have Yo:Zc8 W.heap.size pre W A2:=hT.same (ZYa ZP.size.symm) ZP.os ZP.tape ZP.output (fun b hb=>ZP.block b U);obtain⟨w8,hr8,ho8,K5⟩:=World.ownsMap.update (w:=A2) (val:=.int .i64 1) Yo.ks KA underlying134 ZPq (Kz x U) rfl;have ZEh:(Instr.mapUpdate 134 (.map (some W.heap.size)) (Zp x) (.int .i64 1)).run prog A2= .ok () w8:=hr8;have p1:A2.cell? ⟨W.heap.size+1,0,none⟩=some (.map (some W.heap.size)):=by simp[World.cell?,Yo.b1]
  have VW:∀b,b<A2.heap.size->b≠W.heap.size->w8.heap[b]? =A2.heap[b]? :=fun b hb hne=>K5.block b hb (fun e=>hne (ZXc e));have hs2:=Yo.sz;have HT8:Hid (Zc8 W.heap.size (pre++ [x]) W w8):=by
   exact ZVZ
  have HL8:Hid (w8.heap[W.heap.size+4]? =some (.loop rb)):=(VW _ U U).trans hL;have HD8:Hid (w8.heap[W.heap.size+3]? =some (.deferred (some []))):=(VW _ U U).trans hD;clear hT Yo ZP hL hD ho8 K5 VW k0 k1 k2;refine ZdL rfl ZPS ?_;go_wp2;try refine⟨trivial,?_⟩
  exact ZVY
 ·intro A A2 hT ZP hD;rw[hs3]at ZP hD;rw[Zso]at hT;have Yo:Zc8 W.heap.size YI W A2:=hT.same (ZYa ZP.size.symm) ZP.os ZP.tape ZP.output (fun b hb=>ZP.block b U);have p1:A2.cell? ⟨W.heap.size+1,0,none⟩=some (.map (some W.heap.size)):=by simp[World.cell?,Yo.b1]
  have HT2:Hid (Zc8 W.heap.size YI W A2):=Yo;have HD2:Hid (A2.heap[W.heap.size+3]? =some (.deferred (some []))):=hD;clear hT Yo ZP hD k0 k1 k2;refine QL ?_;go_wp2;have hlow:=HT2.out.low;have hsz:=HT2.out.sz;refine ZkJ (v:=.map (some W.heap.size)) HD2.out (by simp[results,Tryz.results51]) ⟨rfl,?_,?_,?_⟩
  ·exact JV (HT2.out.ks.mono ZPl) (ZXz U)
  ·exact ZTT
  ·rw[Za1];omega
end
section
open Go.Shelf
attribute [local go_sem] Oper.semAt_some
def Zom:Value->Option (DataW Unit×List MemPlace)
 | .int .i64 1=>some (.agg [], [])
 | .int .i64 0=>some (.lit (.bool false), [])
 |_=>none
def Km(w:World)(b n:Nat)(ks:List Za):Prop:=w.ownsMap prog 9 Zom b n (Kl ks)
theorem ZkE{w w':World}{b n:Nat}{ks:List Za}(h:Km w b n ks)(hB:w'.heap[b]? =w.heap[b]?):Km w' b n ks:=by
 exact ZVL
theorem ZJp{D:DataW Unit}(h:Maps.IsMap D)(k:Lit)(d:DataW Unit):Maps.IsMap (D.put k d):=by
 obtain⟨es,rfl⟩:=h;exact⟨_,rfl⟩
theorem Zq9(u z:DataW Unit)(k:Lit)(hk:WideAt.IsKeyLit k):∀(acc:List Lit) (m:DataW Unit),Maps.IsMap m->k∈acc\/m.atKey k z=u->(acc.foldl (fun m x=>m.put x u) m).atKey k z=u
 | [],m,_,h=>by
  rcases h with h|h
  ·cases h
  ·exact h
 |x::r,m,hm,h=>by
  rw[List.foldl_cons];refine Zq9 u z k hk r _ (ZJp hm x u) ?_;by_cases hx:k=x
  ·subst hx;exact .inr (Maps.atKey_put_same hm hk u z)
  ·rcases h with h|h
   ·rcases ZW3.1 h with h|h
    ·exact absurd h hx
    ·exact ZS3
   ·exact .inr ((Maps.atKey_put_other hx u z).trans h)
theorem ZHu{w:World}{Kb n:Nat}{ks:List Za}(h:Km w Kb n ks)(s:Za)(hs:s.length<=100000):
  ∃v,(Instr.lookup 134 (.map (some Kb)) (.string ⟨s.toArray⟩) true).run prog w= .ok (.tuple #[v,.bool (ks.contains s)]) w/\(ks.contains s=true->v= .int .i64 1):=by
 obtain⟨v,ps,hrun,hv⟩:=World.ownsMap.look_ok (R:=Zom) (D:=Kl ks) h KA underlying134 (Zxq w) rfl (Kz s hs);rw[Znw]at hrun;refine⟨v,hrun,fun hc=>?_⟩;unfold Kl Maps.setOf at hv;rw[Zq9 (.agg []) _ (YD s) (show WideAt.IsKeyLit (YD s) from trivial) _ _ ⟨[],rfl⟩ (.inl (ZXj.2 ⟨s,ZPE,rfl⟩))]at hv;unfold Zom at hv;split at hv
 ·rfl
 ·cases hv
 ·cases hv
structure Zc9 (N:Nat) (pre:List Za) (W A:World):Prop where
 low:Below N W A
 b1:A.heap[N+1]? =some (.cells #[.map (some N)] 134 (0,0))
 b2:A.heap[N+2]? =some (.cells #[.string ⟨Kn.toArray⟩] 9 (0,0))
 sz:N+5<=A.heap.size
 ks:Km A N pre.length pre
theorem Zc9.same{N:Nat}{pre:List Za}{W A A':World}(h:Zc9 N pre W A)(hs:A.heap.size<=A'.heap.size)(h1:A'.os=A.os)(h2:A'.tape=A.tape)(h3:A'.output=A.output)(hb:∀b,b<N+4->A'.heap[b]? =A.heap[b]?):Zc9 N pre W A':=
 ⟨⟨h1.trans h.low.os,h2.trans h.low.tape,h3.trans h.low.output,ZW0 h.low.size hs,fun b hb'=>(hb b U).trans (h.low.block b hb')⟩,(hb _ U).trans h.b1,(hb _ U).trans h.b2,ZW0 h.sz hs,ZkE h.ks (hb _ U)⟩
theorem ZM0(W:World)(hS:UZ W):
  Calls prog 51 #[] W fun e W'=>e= .returned (.map (some W.heap.size))/\Km W' W.heap.size 100 YI/\Below W.heap.size W W'/\W.heap.size<W'.heap.size:=by
 have hmm:=@run_makeMap prog;have Xi:∀(fn:Fn) (first cap:Array Value) (w:World),(Instr.makeFunc fn first cap).run prog w= .ok (.func fn first cap) w:=fun _ _ _ _=>rfl;refine Zg8 func51 rfl ?_;simp only[ntmps51,ZXY,List.length_cons,List.length_nil,Nat.reduceAdd,Nat.reduceSub,ZXZ,Array.replicate_zero,ZX0,ZX1,List.nil_append,List.cons_append];refine QK (QL ?_);go_wp2;refine QK (QL ?_);go_wp2;refine QK (QK (QL ?_));go_wp2;refine Zlo ?_;change EU _ _ _ _ _ (((W.alloc (.map #[] 0)).alloc (.cells #[.map (some W.heap.size)] 134)).alloc (.cells #[.string ⟨Kn.toArray⟩] 9));obtain⟨w3,hw3⟩:∃w3,((W.alloc (.map #[] 0)).alloc (.cells #[.map (some W.heap.size)] 134)).alloc (.cells #[.string ⟨Kn.toArray⟩] 9)=w3:=⟨_,rfl⟩;rw[hw3];have hs3:w3.heap.size=W.heap.size+3:=by rw[<-hw3];simp
 have hB3:Below W.heap.size W w3:=by
  exact ZWC
 have k0:w3.heap[W.heap.size]? =some (.map #[] 0):=by rw[<-hw3];exact(Za3 W.heap _ _ _).1
 have k1:w3.heap[W.heap.size+1]? =some (.cells #[.map (some W.heap.size)] 134 (0,0)):=by rw[<-hw3];exact(Za3 W.heap _ _ _).2.1
 have k2:w3.heap[W.heap.size+2]? =some (.cells #[.string ⟨Kn.toArray⟩] 9 (0,0)):=by rw[<-hw3];exact(Za3 W.heap _ _ _).2.2
 clear hw3;refine Zxm (W.heap.size+2) Kn (fun pre A=>Zc9 W.heap.size pre W A) (fun _ _=>False) func51 rfl rfl ZPl ZuY ?_ ?_ ?_ ?_ ?_ (fun _ _ h=>h.elim)
 ·exact ZVv
 ·exact ZVu
 ·have lo:∀b,b<W.heap.size+3->∀(tmps:Array Value) (ps:Array Tmp) (U2 bd:Code),(Qg w3 51 tmps ps U2 bd).heap[b]? =w3.heap[b]? :=fun b hb _ _ _ _=>ZbQ U;refine⟨⟨hB3.os,hB3.tape,hB3.output,?_,fun b hb=>(lo _ U ..).trans (hB3.block b hb)⟩,(lo _ U ..).trans k1,(lo _ U ..).trans k2,?_,?_⟩
  ·simp[Qg];omega
  ·simp[Qg];omega
  ·refine ZkE (w:=w3) ?_ (lo _ U ..);exact ZTE
 ·intro pre x A rb A2 hT hpl hxl ZP hL hD;rw[hs3]at ZP hL hD;have hkl:Kn.length<=200:=by decide
  have Yo:Zc9 W.heap.size pre W A2:=hT.same (ZYa ZP.size.symm) ZP.os ZP.tape ZP.output (fun b hb=>ZP.block b U);obtain⟨w8,hr8,ho8,K5⟩:=World.ownsMap.update (w:=A2) (val:=.int .i64 1) Yo.ks KA underlying134 ZPq (Kz x U) rfl;have ZEh:(Instr.mapUpdate 134 (.map (some W.heap.size)) (Zp x) (.int .i64 1)).run prog A2= .ok () w8:=hr8;have p1:A2.cell? ⟨W.heap.size+1,0,none⟩=some (.map (some W.heap.size)):=by simp[World.cell?,Yo.b1]
  have VW:∀b,b<A2.heap.size->b≠W.heap.size->w8.heap[b]? =A2.heap[b]? :=fun b hb hne=>K5.block b hb (fun e=>hne (ZXc e));have hs2:=Yo.sz;have HT8:Hid (Zc9 W.heap.size (pre++ [x]) W w8):=by
   exact ZVZ
  have HL8:Hid (w8.heap[W.heap.size+4]? =some (.loop rb)):=(VW _ U U).trans hL;have HD8:Hid (w8.heap[W.heap.size+3]? =some (.deferred (some []))):=(VW _ U U).trans hD;clear hT Yo ZP hL hD ho8 K5 VW k0 k1 k2;refine ZdL rfl ZPS ?_;go_wp2;try refine⟨trivial,?_⟩
  exact ZVY
 ·intro A A2 hT ZP hD;rw[hs3]at ZP hD;rw[Zso]at hT;have Yo:Zc9 W.heap.size YI W A2:=hT.same (ZYa ZP.size.symm) ZP.os ZP.tape ZP.output (fun b hb=>ZP.block b U);have p1:A2.cell? ⟨W.heap.size+1,0,none⟩=some (.map (some W.heap.size)):=by simp[World.cell?,Yo.b1]
  have HT2:Hid (Zc9 W.heap.size YI W A2):=Yo;have HD2:Hid (A2.heap[W.heap.size+3]? =some (.deferred (some []))):=hD;clear hT Yo ZP hD k0 k1 k2;refine QL ?_;go_wp2;have hlow:=HT2.out.low;have hsz:=HT2.out.sz;refine ZkJ (v:=.map (some W.heap.size)) HD2.out (by simp[results,Tryz.results51]) ⟨rfl,?_,?_,?_⟩
  ·exact ZkE (HT2.out.ks.mono ZPl) (ZXz U)
  ·exact ZTT
  ·rw[Za1];omega
end
def YQ(w:RW):Int:=if w.sort=Yz then 2 else if w.sort=Yh\/w.sort=Yd then 3 else 1
def Y1(w:RW):Za:=if w.sort=Yh\/w.sort=Yd then[]else w.text
def QI(w:RW):Value:=if w.sort=Yh then .iface 178 (.int .i64 w.num)else if w.sort=Yd then .iface 100 (.string ⟨w.text.toArray⟩)else .nilIface
def ZoM(w:RW):Value:=.agg #[.int .i64 (YQ w),.string ⟨(Y1 w).toArray⟩,QI w]
def ZdT(rest:Za)(v:Value)(n:Int):Prop:=n=(Z9 rest).2/\(∃(a:Int) (b:Za) (c:Value),v= .agg #[.int .i64 a,.string ⟨b.toArray⟩,c]/\(c= .nilIface\/∃t x,c= .iface t x))/\((Z9 rest).2≠0->v=ZoM (Z9 rest).1)
theorem ZJa(c:UInt8)(r:Za)(hd:Zk Zi (c::r)=(c::r).length):
  (∃v,Lib.parseIntB 64 (c::r)= .ok v/\YN (c::r) false=(v,true))\/((∀v,Lib.parseIntB 64 (c::r)≠.ok v)/\(YN (c::r) false).2=false):=by
 have had:=Zmj hd;have hn:=Zrk had.1.1;have n1:¬c.toNat=43:=fun e=>hn.2.1 (ZYr.1 e);have n2:¬c.toNat=45:=fun e=>hn.1 (ZYr.1 e);have hp:Lib.parseIntB 64 (c::r)=(match Lib.parseUintM 18446744073709551615 0 (c::r)with
   | .syntax=>.syntax
   | .range=>.range
   | .ok u=>if 9223372036854775808<=u then .range else .ok (u:Int)):=by
  simp[Lib.parseIntB,Lib.parseUintB,n1,n2];generalize Lib.parseUintM 18446744073709551615 0 (c::r)=q;cases q<;>rfl
 rw[Zms _ 0 had U]at hp;have h:=Zrq (c::r) 0 had U;rw[show -((0:Nat):Int)=0 from rfl]at h;have hok:=Zmn had false;generalize Vb 0 (c::r)=V at hp h hok;by_cases h2:9223372036854775808<=V
 ·right;refine⟨fun v e=>?_,by rw[hok];simp;omega⟩;rw[hp]at e;by_cases h1:V<=18446744073709551615
  ·rw[ZWR h1]at e;simp only at e;rw[ZWR h2]at e;cases e
  ·rw[ZWQ h1]at e;cases e
 ·left;refine⟨(V:Int),?_,?_⟩
  ·rw[hp,ZWR U];simp only;rw[ZWQ h2]
  ·rw[ZWR U]at h;rw[Zjl h,ZWQ U];simp;omega
theorem ZJA{s:Za}(hd:0<Zk Zi s):Z9 s=if(YN (s.take (Zk Zi s)) false).2 then(⟨Yh, [],(YN (s.take (Zk Zi s)) false).1⟩,Zk Zi s)else Qs:=by
 unfold Z9 dLen;rw[ZWR hd]
theorem ZJz{s:Za}(hd:¬0<Zk Zi s)(hn:0<Zk (Ya++Zi) s):Z9 s=(⟨if Va (s.take (Zk (Ya++Zi) s))then YC else Yz,s.take (Zk (Ya++Zi) s),0⟩,Zk (Ya++Zi) s):=by
 unfold Z9 dLen Zag;rw[ZWQ hd,ZWR hn]
theorem ZO{w:World}(o:Obj):Below w.heap.size w (w.alloc o):=(ZWT _ w).alloc (ZWS _) o
theorem ZM2(s:Za)(w:World)(hs:s.length<=400)(hd:0<Zk Zi s)(hv:Vx w)(hG:13<=w.heap.size):
  Calls prog 133 #[.string ⟨s.toArray⟩] w fun e w'=>Below w.heap.size w w'/\∃v n,e= .returned (.tuple #[v,.int .i64 n])/\ZdT s v n:=by
 have hex:=QY;have Zev:Zk Zi s<=s.length:=Eu _ _;have HF:Hid (Zk Zi (s.take (Zk Zi s))=(s.take (Zk Zi s)).length):=by
  show _=_;exact Zjn Zi _ (fun j hj=>Zf5 Zi s _ (ZWX hj))
 have HR:=(show Hid _ from ZJA hd);go_enter func133,ntmps133;go_wp2_with fail;refine(Zlm s _ U).mono ?_;rintro e w' ⟨rfl,rfl⟩;have HP:Hid ((∃v,Lib.parseIntB 64 (s.take (Zk Zi s))= .ok v/\YN (s.take (Zk Zi s)) false=(v,true))\/((∀v,Lib.parseIntB 64 (s.take (Zk Zi s))≠.ok v)/\(YN (s.take (Zk Zi s)) false).2=false)):=by
  have hF:=HF.out;cases ht:s.take (Zk Zi s)with
  |nil=>
   have:=congrArg List.length ht;rw[ZXS,List.length_nil]at this;omega
  |cons c r=>rw[ht]at hF;exact ZJa c r hF
 generalize Zk Zi s=d at *;go_wp2_with fail;refine(ZvJ (s.take d) _ (by rw[ZXS];omega) (hv.below (ZO _) hG)).mono ?_;rintro e w1 ⟨hB1,hcase⟩;have hB:Below w.heap.size w w1:=(ZO _).trans (hB1.mono ZPm);have hlt:w.heap.size<w1.heap.size:=ZXi ZPm hB1.size;obtain⟨r0,r1,r2,rf⟩:=cells3 ((hB1.block w.heap.size ZPm).trans (ZWV w _));have rf0:=rf 0;have rf1:=rf 1;have rf2:=rf 2;rcases hcase with⟨v,hv1,rfl⟩|⟨hv1,v,t,p,rfl⟩
 ·have HX:Hid (YN (s.take d) false=(v,true)):=by
   rcases HP.out with⟨v',e1,e2⟩|⟨e1,_⟩
   ·rw[hv1]at e1;cases e1;exact e2
   ·exact absurd hv1 (e1 v)
  clear hv1;go_wp2_with fail;refine ZW4 (v:=.tuple #[.agg #[.int .i64 3,.string ⟨#[]⟩,.iface 178 (.int .i64 v)],.int .i64 d]) ZR3 rfl ⟨?_,_,_,rfl,?_⟩
  ·exact ZTv
  ·have e:=HR.out;rw[HX.out]at e;exact⟨ZPP,⟨3, [],_,rfl,.inr ⟨_,_,rfl⟩⟩,fun _=>ZPP⟩
 ·have HX:Hid ((YN (s.take d) false).2=false):=by
   rcases HP.out with⟨v',e1,e2⟩|⟨_,e2⟩
   ·exact absurd e1 (hv1 v')
   ·exact e2
  clear hv1;go_wp2_with fail;refine ZW4 (v:=.tuple #[.agg #[.int .i64 0,.string ⟨#[]⟩,.nilIface],.int .i64 0]) ZR3 rfl ⟨?_,_,_,rfl,?_⟩
  ·exact ZTv
  ·have e:=HR.out;rw[HX.out]at e;exact⟨ZPP,⟨0, [],_,rfl,.inl rfl⟩,fun h=>absurd ZPP h⟩
theorem Km.lt{w:World}{b n:Nat}{ks:List Za}(h:Km w b n ks):b<w.heap.size:=by
 obtain⟨es,clock,hb,_⟩:=h;exact(ZWU.1 hb).1
theorem Km.below{w w':World}{b n:Nat}{ks:List Za}(h:Km w b n ks)(hB:Below w.heap.size w w'):Km w' b n ks:=ZkE h (hB.block _ h.lt)
theorem ZM1(s:Za)(Kb nk:Nat)(w:World)(hs:s.length<=400)(hd:¬0<Zk Zi s)(hn:0<Zk (Ya++Zi) s)(hK:Km w Kb nk YI):
  Calls prog 135 #[.string ⟨s.toArray⟩,.map (some Kb)] w fun e w'=>Below w.heap.size w w'/\∃v n,e= .returned (.tuple #[v,.int .i64 n])/\ZdT s v n:=by
 have hex:=QY;have ZtM:Zk (Ya++Zi) s<=s.length:=Eu _ _;have HR:=(show Hid _ from ZJz hd hn);have hnb:=fun w=>Zxg s w U;rw[ZWQ hd]at hnb;have ZtD:(32:UInt8)∉s.take (Zk (Ya++Zi) s):=fun hx=>absurd (Zf5 _ s _ hx) ZPl;have HKW:Hid (YI.contains (s.take (Zk (Ya++Zi) s))=Va (s.take (Zk (Ya++Zi) s))):=ZuQ _ ZtD;clear ZtD;generalize Zk (Ya++Zi) s=n at *;obtain⟨v,hl,hv1⟩:=ZHu (Km.below hK (ZO (.cells #[.int .i64 0,.string ⟨#[]⟩,.nilIface] 173))) (s.take n) (by rw[ZXS];omega);rw[HKW.out]at hl hv1;obtain⟨r0,r1,r2,rf⟩:=cells3 (ZWV w (.cells #[.int .i64 0,.string ⟨#[]⟩,.nilIface] 173));cases hk:Va (s.take n)with
 |true=>
  rw[hk]at hl;have hv2:=hv1 hk;subst hv2;have HX:Hid (Z9 s=(⟨YC,s.take n,0⟩,n)):=by show _=_;rw[HR.out,hk];rfl
  clear hv1 HR HKW hk;go_enter func135,ntmps135;go_wp2_with fail;refine(hnb _).mono ?_;rintro e w' ⟨rfl,rfl⟩;go_wp2_with fail;refine ZW4 (v:=.tuple #[.agg #[.int .i64 1,.string ⟨(s.take n).toArray⟩,.nilIface],.int .i64 n]) ZR4 rfl ⟨?_,_,_,rfl,?_⟩
  ·exact ZO _
  ·exact ZTM
 |false=>
  rw[hk]at hl;have HX:Hid (Z9 s=(⟨Yz,s.take n,0⟩,n)):=by show _=_;rw[HR.out,hk];rfl
  clear hv1 HR HKW hk;go_enter func135,ntmps135;go_wp2_with fail;refine(hnb _).mono ?_;rintro e w' ⟨rfl,rfl⟩;go_wp2_with fail;refine ZW4 (v:=.tuple #[.agg #[.int .i64 2,.string ⟨(s.take n).toArray⟩,.nilIface],.int .i64 n]) ZR4 rfl ⟨?_,_,_,rfl,?_⟩
  ·exact ZO _
  ·exact⟨by rw[HX.out],⟨2,_,_,rfl,.inl rfl⟩,fun _=>ZPt⟩
def Y6:List Za:= [[60,62], [60,61], [62,61], [40], [41], [44], [46], [42], [43], [45], [47], [37], [61], [60], [62]]
def ZdZ(w:World):Prop:=∀k (h:k<Y6.length),w.cell? ⟨3,k,none⟩=some (.string ⟨Y6[k].toArray⟩)
structure Odd (c:UInt8) (r:Za):Prop where
 d:¬0<Zk Zi (c::r)
 n:¬0<Zk (Ya++Zi) (c::r)
 q:c≠39
theorem Odd.word{c:UInt8}{r:Za}(h:Odd c r):Z9 (c::r)=if two (c::r)then(⟨ZT,(c::r).take 2,0⟩,2)else if QQ.contains c then(⟨ZT, [c],0⟩,1)else Qs:=by
 unfold Z9 dLen Zag;rw[ZWQ h.d,ZWQ h.n,ZWQ (by simpa using h.q)];simp only[List.take_succ_cons,List.take_zero,Zdg]
theorem ZvU(c:UInt8)(r:Za)(a:UInt8):Lib.hasPrefix (c::r) [a]=(c==a):=by
 simp[Lib.hasPrefix,List.isPrefixOf,Bool.beq_comm (a:=c)]
theorem Zpe{c:UInt8}{r:Za}(h:Odd c r){x y:UInt8}(hxy: [x,y]∈ [[60,62], [60,61], [62,61]])(hp:Lib.hasPrefix (c::r) [x,y]=true):Z9 (c::r)=(⟨ZT, [x,y],0⟩,2):=by
 rw[ZoJ]at hp;have e:(c::r).take 2= [x,y]:=by simpa using hp
 have ht:two (c::r)=true:=by
  unfold two;rw[e];simp only[ZW3,ZXV,ZXK]at hxy;rcases hxy with h|h|h<;>rw[h]<;>rfl
 rw[h.word,ZWR ht,e]
theorem Zw5{c:UInt8}{r:Za}(h2:∀k (hk:k<Y6.length),k<3->Lib.hasPrefix (c::r) Y6[k]=false):¬two (c::r)=true:=by
 have a0:=h2 0 ZPl ZPl;have a1:=h2 1 ZPl ZPl;have a2:=h2 2 ZPl ZPl;simp only[Y6,List.getElem_cons_zero,List.getElem_cons_succ,ZoJ]at a0 a1 a2;unfold two;rw[a0,a1,a2];decide
theorem sign_one{c:UInt8}{r:Za}(h:Odd c r)(h2:∀k (hk:k<Y6.length),k<3->Lib.hasPrefix (c::r) Y6[k]=false){x:UInt8}(hx:QQ.contains x=true)(hp:Lib.hasPrefix (c::r) [x]=true):Z9 (c::r)=(⟨ZT, [x],0⟩,1):=by
 rw[ZvU]at hp;obtain rfl:c=x:=by simpa using hp
 rw[h.word,ZWQ (Zw5 h2),ZWR hx]
theorem ZK7{c:UInt8}{r:Za}(h:Odd c r)(hall:∀k (hk:k<Y6.length),Lib.hasPrefix (c::r) Y6[k]=false):Z9 (c::r)=Qs:=by
 rw[h.word,ZWQ (Zw5 (fun k hk _=>hall k hk)),ZWQ];intro hc;have hm:c∈QQ:=ZPE
 have:∀x∈QQ,∃k,∃hk:k<Y6.length,Y6[k]= [x]:=ZPl
 obtain⟨k,hk,e⟩:=this c hm;have:=hall k hk;rw[e,ZvU]at this;simp at this
theorem ZEB(k:Nat)(hk:k<15)(w:World):(Instr.index 357 (.agg #[.string ⟨#[60,62]⟩,.string ⟨#[60,61]⟩,.string ⟨#[62,61]⟩,.string ⟨#[40]⟩,.string ⟨#[41]⟩,.string ⟨#[44]⟩,.string ⟨#[46]⟩,.string ⟨#[42]⟩,.string ⟨#[43]⟩,.string ⟨#[45]⟩,.string ⟨#[47]⟩,.string ⟨#[37]⟩,.string ⟨#[61]⟩,.string ⟨#[60]⟩,.string ⟨#[62]⟩]) (.int .i64 k)).run prog w= .ok (.string ⟨(Y6.getD k []).toArray⟩) w:=by
 rcases k with _|_|_|_|_|_|_|_|_|_|_|_|_|_|_|k<;>first|omega|kernel_rfl
theorem ZM6(c:UInt8)(r:Za)(w:World)(hs:(c::r).length<=400)(hO:Odd c r)(hS:ZdZ w):
  Calls prog 137 #[.string ⟨(c::r).toArray⟩] w fun e w'=>Below w.heap.size w w'/\∃v n,e= .returned (.tuple #[v,.int .i64 n])/\ZdT (c::r) v n:=by
 have hex:=QY;have c0:=hS 0 ZPl;have c1:=hS 1 ZPl;have c2:=hS 2 ZPl;have c3:=hS 3 ZPl;have c4:=hS 4 ZPl;have c5:=hS 5 ZPl;have c6:=hS 6 ZPl;have c7:=hS 7 ZPl;have c8:=hS 8 ZPl;have c9:=hS 9 ZPl;have c10:=hS 10 ZPl;have c11:=hS 11 ZPl;have c12:=hS 12 ZPl;have c13:=hS 13 ZPl;have c14:=hS 14 ZPl;have hlt:3<w.heap.size:=ZWW _ _ c0;simp only[Y6,List.getElem_cons_zero,List.getElem_cons_succ]at c0 c1 c2 c3 c4 c5 c6 c7 c8 c9 c10 c11 c12 c13 c14;obtain⟨r0,r1,r2,rf⟩:=cells3 (ZWV w (.cells #[.int .i64 0,.string ⟨#[]⟩,.nilIface] 173));go_enter func137,ntmps137;go_wp2_with fail;clear c0 c1 c2 c3 c4 c5 c6 c7 c8 c9 c10 c11 c12 c13 c14;have hB:Below w.heap.size w (w.alloc (.cells #[.int .i64 0,.string ⟨#[]⟩,.nilIface] 173)):=ZO _;have rf0:=rf 0;have rf1:=rf 1;have rf2:=rf 2;clear rf;generalize w.alloc (.cells #[.int .i64 0,.string ⟨#[]⟩,.nilIface] 173)=w0 at hB r0 r1 r2 rf0 rf1 rf2 ⊢;go_loopg [7] (15+1) (fun gk iv wr=>∃k:Nat,k<=15/\gk=15-k+1/\iv= .int .i64 k/\w0=wr/\Hid (∀k' (hk:k'<Y6.length),k'<k->Lib.hasPrefix (c::r) Y6[k']=false));case atStart=>exact⟨0,U,U,rfl,rfl,fun k' _ h=>U⟩
 case round=>
  obtain⟨k,hk,rfl,rfl,rfl,hno⟩:=hrel;by_cases hkl:k<15
  ·have hq:1<=(Y6.getD k []).length/\(Y6.getD k []).length<=2:=by
    have:∀k<15,1<=(Y6.getD k []).length/\(Y6.getD k []).length<=2:=ZPl
    exact this k hkl
   have HW:Hid (Lib.hasPrefix (c::r) (Y6.getD k [])=true->Z9 (c::r)=(⟨ZT,Y6.getD k [],0⟩,(Y6.getD k []).length)):=by
    intro hp;by_cases h3:k<3
    ·rcases k with _|_|_|k
     ·exact Zpe hO ZPl hp
     ·exact Zpe hO ZPl hp
     ·exact Zpe hO ZPl hp
     ·omega
    ·have:∀k<15,3<=k->Y6.getD k []= [(Y6.getD k []).headD 0]/\QQ.contains ((Y6.getD k []).headD 0)=true:=by decide
     obtain⟨e,hx⟩:=this k hkl U;generalize (Y6.getD k []).headD 0=x at e hx;rw[e]at hp ⊢;exact sign_one hO (fun k' hk h=>hno.out k' hk U) hx hp
   have HG:Hid (∀hk:k<Y6.length,Y6[k]=Y6.getD k []):=fun hk=>by rw[ZX6,ZW1 hk];rfl
   have hix:=ZEB k hkl;generalize Y6.getD k []=s at hix hq HW HG;obtain⟨hq1,hq2⟩:=hq;go_wp2_with fail;refine(Tryz.strings_HasPrefix _ _ _).mono ?_;rintro e w' ⟨rfl,hw⟩;obtain rfl:=hw.symm;rw[show(ByteArray.mk (c::r).toArray).data.toList=c::r from rfl,show(ByteArray.mk s.toArray).data.toList=s from rfl];cases hp:Lib.hasPrefix (c::r) s with
   |true=>
    have HX:=(show Hid _ from HW.out hp);clear hp;go_wp2_with fail;refine ZW4 (v:=.tuple #[.agg #[.int .i64 1,.string ⟨s.toArray⟩,.nilIface],.int .i64 s.length]) ZR5 rfl ⟨?_,_,_,rfl,?_⟩
    ·exact ZTv
    ·exact ZTM
   |false=>
    have HN:Hid (∀k' (hk:k'<Y6.length),k'<k+1->Lib.hasPrefix (c::r) Y6[k']=false):=fun k' hx h=>by
     by_cases e:k'=k
     ·subst e;rw[HG.out hx];exact hp
     ·exact hno.out k' hx U
    clear hp;go_wp2_with fail;go_roundg (15-(k+1)+1);case measure=>omega
    case rel=>exact⟨k+1,U,rfl,rfl,rfl,HN⟩
  ·obtain rfl:k=15:=by omega
   have HX:Hid (Z9 (c::r)=Qs):=ZK7 hO (fun k' hk=>hno.out k' hk hk);go_wp2_with fail;refine ZW4 (v:=.tuple #[.agg #[.int .i64 0,.string ⟨#[]⟩,.nilIface],.int .i64 0]) ZR5 rfl ⟨?_,_,_,rfl,?_⟩
   ·exact ZTv
   ·exact⟨ZPt,⟨0, [],_,rfl,.inl rfl⟩,fun h=>absurd ZPt h⟩
theorem ZBV(c:UInt8)(r:Za):U3 c=decide (0<Zk Zi (c::r)):=by
 rw[ZaB];unfold U3;cases h:Zi.contains c<;>simp
theorem ZHY(c:UInt8)(r:Za):KT c=decide (0<Zk (Ya++Zi) (c::r)):=by
 rw[ZaB];unfold KT;cases h:(Ya++Zi).contains c<;>simp
structure Zbm (w:World):Prop where
 num:Vx w
 sg:ZdZ w
 big:13<=w.heap.size
theorem ZdZ.below{w w':World}(h:ZdZ w)(hB:Below w.heap.size w w'):ZdZ w':=fun k hk=>
 (hB.cell (p:=⟨3,k,none⟩) (ZWW _ _ (h k hk))).trans (h k hk)
theorem Zbm.below{w w':World}(h:Zbm w)(hB:Below w.heap.size w w'):Zbm w':=⟨h.num.below hB h.big,ZdZ.below h.sg hB,ZW0 h.big hB.size⟩
theorem ZJD{r:Za}:Z9 (39::r)=(⟨Yd,(Yn (39::r)).1,0⟩,(Yn (39::r)).2):=by
 have e1:¬0<Zk Zi (39::r):=by rw[ZaB,ZWQ ZPl];omega
 have e2:¬0<Zk (Ya++Zi) (39::r):=by rw[ZaB,ZWQ ZPl];omega
 unfold Z9 dLen Zag;rw[ZWQ e1,ZWQ e2,ZWR ZPm]
theorem ZMX(c:UInt8)(r:Za)(Kb nk:Nat)(w:World)(hs:(c::r).length<=400)(hE:Zbm w)(hK:Km w Kb nk YI):
  Calls prog 91 #[.string ⟨(c::r).toArray⟩,.map (some Kb)] w fun e w'=>Below w.heap.size w w'/\∃v n,e= .returned (.tuple #[v,.int .i64 n])/\ZdT (c::r) v n:=by
 have hw0:Below w.heap.size w (w.alloc (.cells #[.int .i64 0,.string ⟨#[]⟩,.nilIface] 173)):=ZO _;have hE0:=hE.below hw0;have ZM:=Km.below hK hw0;have fin:∀(w1:World),Below (w.alloc (.cells #[.int .i64 0,.string ⟨#[]⟩,.nilIface] 173)).heap.size (w.alloc (.cells #[.int .i64 0,.string ⟨#[]⟩,.nilIface] 173)) w1->Below w.heap.size w w1/\w1.heap[w.heap.size]? =some (.cells #[.int .i64 0,.string ⟨#[]⟩,.nilIface] 173 (0,0)):=fun w1 hB1=>
  ⟨hw0.trans (hB1.mono hw0.size),(hB1.block w.heap.size ZPm).trans (ZWV w _)⟩
 go_enter func91,ntmps91;go_wp2_with fail;refine(ZpJ ((ByteArray.mk (c::r).toArray)[0]'(ZXP _)) _).mono ?_;rintro e w' ⟨rfl,rfl⟩;have hd:=ZBV c r;have hn:=ZHY c r;cases hdg:U3 ((ByteArray.mk (c::r).toArray)[0]'(ZXP _))with
 |true=>
  have hd1:0<Zk Zi (c::r):=by
    have:U3 c=true:=hdg;rw[this]at hd;exact ZXL hd.symm
  clear hd hn hdg;go_wp2_with fail;refine(ZM2 (c::r) _ hs hd1 hE0.num hE0.big).mono ?_;rintro e w1 ⟨hB1,v,n,rfl,HF⟩;obtain⟨hB,hh⟩:=fin w1 hB1;obtain⟨r0,r1,r2,rf⟩:=cells3 hh;obtain⟨h1,⟨a,b,x,hva,hx⟩,h3⟩:=HF;have KD:Hid (ZdT (c::r) v n):=⟨h1,⟨a,b,x,hva,hx⟩,h3⟩;subst hva;have rf0:=rf 0;have rf1:=rf 1;have rf2:=rf 2;clear h1 h3 fin hh;rcases hx with rfl|⟨t,y,rfl⟩<;>
   (go_wp2_with fail
    refine ZW4 (v:=.tuple #[_,.int .i64 n]) ZRv rfl ⟨?_,_,_,rfl,KD.out⟩;exact((hB.setCell (p:=⟨w.heap.size,0,none⟩) (ZWS _) _).setCell (p:=⟨w.heap.size,1,none⟩) (ZWS _) _).setCell (p:=⟨w.heap.size,2,none⟩) (ZWS _) _)
 |false=>
  have hd1:¬0<Zk Zi (c::r):=by
    have:U3 c=false:=hdg;rw[this]at hd;exact of_decide_eq_false hd.symm
  clear hd hdg;go_wp2_with fail;refine(Zxi ((ByteArray.mk (c::r).toArray)[0]'(ZXP _)) _).mono ?_;rintro e w' ⟨rfl,rfl⟩;cases hng:KT ((ByteArray.mk (c::r).toArray)[0]'(ZXP _))with
  |true=>
    have hn1:0<Zk (Ya++Zi) (c::r):=by
      have:KT c=true:=hng;rw[this]at hn;exact ZXL hn.symm
    clear hn hng;go_wp2_with fail;refine(ZM1 (c::r) Kb nk _ hs hd1 hn1 ZM).mono ?_;rintro e w1 ⟨hB1,v,n,rfl,HF⟩;obtain⟨hB,hh⟩:=fin w1 hB1;obtain⟨r0,r1,r2,rf⟩:=cells3 hh;obtain⟨h1,⟨a,b,x,hva,hx⟩,h3⟩:=HF;have KD:Hid (ZdT (c::r) v n):=⟨h1,⟨a,b,x,hva,hx⟩,h3⟩;subst hva;have rf0:=rf 0;have rf1:=rf 1;have rf2:=rf 2;clear h1 h3 fin hh;rcases hx with rfl|⟨t,y,rfl⟩<;>
     (go_wp2_with fail
      refine ZW4 (v:=.tuple #[_,.int .i64 n]) ZRv rfl ⟨?_,_,_,rfl,KD.out⟩;exact((hB.setCell (p:=⟨w.heap.size,0,none⟩) (ZWS _) _).setCell (p:=⟨w.heap.size,1,none⟩) (ZWS _) _).setCell (p:=⟨w.heap.size,2,none⟩) (ZWS _) _)
  |false=>
    have hn1:¬0<Zk (Ya++Zi) (c::r):=by
      have:KT c=false:=hng;rw[this]at hn;exact of_decide_eq_false hn.symm
    clear hn hng;by_cases hq:c=39
    · subst hq;have HR:=(show Hid _ from ZJD (r:=r));go_wp2_with fail;refine(ZpH (39::r) _ U).mono ?_;rintro e w1 ⟨rfl,hB1⟩;obtain⟨hB,hh⟩:=fin w1 hB1;obtain⟨r0,r1,r2,rf⟩:=cells3 hh;have rf0:=rf 0;have rf1:=rf 1;have rf2:=rf 2;clear fin hh;go_wp2_with fail;refine ZW4 (v:=.tuple #[.agg #[.int .i64 3,.string ⟨#[]⟩,.iface 100 (.string ⟨(Yn (39::r)).1.toArray⟩)],.int .i64 (Yn (39::r)).2]) (by simp[results,Tryz.results91,go_sem,r0,r1,r2]) rfl ⟨?_,_,_,rfl,?_⟩
      · exact ZTv
      · exact⟨by rw[HR.out],⟨3, [],_,rfl,.inr ⟨_,_,rfl⟩⟩,fun _=>ZQP⟩
    · have hO:Odd c r:=⟨hd1,hn1,hq⟩;have hq':((((ByteArray.mk (c::r).toArray)[0]'(ZXP _)).toNat:Int)==39)=false:=by
        rw[ZX8];intro e;exact hq (Zdi ZRR)
      have HO:Hid (Odd c r):=hO;clear hO;go_wp2_with fail;refine(ZM6 c r _ hs HO.out hE0.sg).mono ?_;rintro e w1 ⟨hB1,v,n,rfl,HF⟩;obtain⟨hB,hh⟩:=fin w1 hB1;obtain⟨r0,r1,r2,rf⟩:=cells3 hh;obtain⟨h1,⟨a,b,x,hva,hx⟩,h3⟩:=HF;have KD:Hid (ZdT (c::r) v n):=⟨h1,⟨a,b,x,hva,hx⟩,h3⟩;subst hva;have rf0:=rf 0;have rf1:=rf 1;have rf2:=rf 2;clear h1 h3 fin hh;rcases hx with rfl|⟨t,y,rfl⟩<;>
       (go_wp2_with fail
        refine ZW4 (v:=.tuple #[_,.int .i64 n]) ZRv rfl ⟨?_,_,_,rfl,KD.out⟩;exact((hB.setCell (p:=⟨w.heap.size,0,none⟩) (ZWS _) _).setCell (p:=⟨w.heap.size,1,none⟩) (ZWS _) _).setCell (p:=⟨w.heap.size,2,none⟩) (ZWS _) _)
theorem Tryz.ZEJ:(prog.info? 173).map (fun i=>(i.zero,i.size,i.bytes))=some (some (.agg #[.int .i64 0,.string ⟨#[]⟩,.nilIface]),3,40):=by kernel_rfl
def XD(n0:Nat)(kind at_:Int)(w:World)(e:Ending)(w':World):Prop:=
 ∃b,e= .panicked (thrown b)/\w'.cell? ⟨b,0,none⟩=some (.int .i64 kind)/\w'.cell? ⟨b,1,none⟩=some (.int .i64 at_)/\Below n0 w w'
def ZkU(w:RW):List Value:= [.int .i64 (YQ w),.string ⟨(Y1 w).toArray⟩,QI w]
def Kq(l:List RW):List Value:=l.flatMap ZkU
def ZNf(w:World):Except Nat (List RW)->Ending->World->Prop
 | .error k,e,w'=>XD w.heap.size 2 k w e w'
 | .ok l,e,w'=>∃v,e= .returned v/\w'.ownsRow w.heap.size 173 3 v l.length (Kq l)/\Below w.heap.size w w'
theorem Zsu{w:World}{B B' e size n:Nat}{v:Value}{xs:List Value}(h:w.ownsRow B e size v n xs)(hb:B'<=B):w.ownsRow B' e size v n xs:=by
 refine⟨h.1,?_⟩;rcases h.2 with h0|⟨g,cap,cur,rfl,hg,r⟩
 ·exact ZS4
 ·exact .inr ⟨g,cap,cur,rfl,ZW0 hb hg,r⟩
theorem ZIy(w:RW):(QI w).oneCell'=true:=by
 unfold QI;split
 ·rfl
 ·split<;>rfl
theorem Ziu(w:RW):QI w= .nilIface\/∃t x,QI w= .iface t x:=by
 unfold QI;split
 ·exact .inr ⟨_,_,rfl⟩
 ·split
  ·exact .inr ⟨_,_,rfl⟩
  ·exact ZS5
theorem ZMW(s:Za)(w:World)(hs:s.length<=90000)(hE:Zbm w)(hSp:UZ w):
  Calls prog 63 #[.string ⟨s.toArray⟩] w (ZNf w (XB s)):=by
 have hex:=QY;obtain⟨i0,hi0,hz0,hz1,hz2⟩:=ZXd Tryz.ZEJ;by_cases hl:400<s.length
 ·have HR:Hid (XB s= .error 400):=by show _=_;unfold XB;rw[ZWR hl]
  generalize XB s=R at HR ⊢;go_enter func63,ntmps63;go_wp2_with fail;refine(ZdS 2 400 _).mono ?_;rintro e w' ⟨rfl,rfl⟩;go_wp2;refine⟨rfl,?_⟩;rw[HR.out];exact⟨w.heap.size,rfl,ZPm,ZPm,(ZWT _ _).alloc (ZWS _) _⟩
 ·have HR:Hid ((YK s (s.length+1) 0).map (fun x=> []++x)=XB s):=by show _=_;unfold XB;rw[ZWQ hl,map_id']
  generalize XB s=R at HR ⊢;go_enter func63,ntmps63;go_wp2_with fail;refine(ZM0 _ hSp).mono ?_;rintro e wk ⟨rfl,hK,hBk,hKs⟩;have hEk:=hE.below hBk;generalize w.heap.size=Kb at hK hKs ⊢;go_wp2_with fail;refine(ZpI s _ U).mono ?_;rintro e w' ⟨⟨g0,rfl,hG0⟩,rfl⟩;have HR1:Hid ((YK s (s.length+1) g0).map (fun x=> []++x)=R):=by
   have:=hG0.same s 0 rfl;rw[ZX5]at this;show _=_;rw[this];exact HR.out
  have ZNR:=hG0.le;have YL:Hid (∀h:g0<s.length,blank s[g0]=false/\(s.drop g0).take 2≠ [45,45]):=hG0.stop;clear HR hG0;go_wp2_with fail;go_loopg [3,5] (s.length-g0+1) (fun gk ov iv wr=>∃(k:Nat) (out:List RW),k<=s.length/\out.length<=k/\gk=s.length-k+1/\iv= .int .i64 k/\wr.ownsRow wk.heap.size 173 3 ov out.length (Kq out)/\Below wk.heap.size wk wr/\Hid (∀h:k<s.length,blank s[k]=false/\(s.drop k).take 2≠ [45,45])/\Hid ((YK s (s.length+1) k).map (fun x=>out++x)=R));case atStart=>exact⟨g0, [],U,ZPm,U,rfl,ZXp _ _ _ _,ZWT _ _,YL,HR1⟩
  case round=>
   obtain⟨k,out,hk,ho,rfl,rfl,hown,hB,hst,hq⟩:=hrel;have hBw:Below w.heap.size w wr:=hBk.trans (hB.mono hBk.size);by_cases hlt:k<s.length
   ·obtain⟨hb,hc⟩:=hst.out hlt;have HC:Hid (YK s (s.length+1) k=if(Z9 (s.drop k)).2=0 then .error k else(YK s (s.length+1) (k+(Z9 (s.drop k)).2)).map fun l=>(Z9 (s.drop k)).1::l):=by
     show _=_;rw[Zk3 hlt,ZWQ (by rw[hb];simp),ZWQ hc]
    have HD:Hid (s.drop k=s[k]::s.drop (k+1)):=VH s k hlt;have HT:Hid (List.take (List.length s-k) (List.drop k s)=s.drop k):=by show _=_;rw[ZXB ZPO]
    have ZcF:=ZoO s[k] (s.drop (k+1));have hlr:(s[k]::s.drop (k+1)).length<=400:=by rw[List.length_cons,ZXo];omega
    have hcw:=ZMX s[k] (s.drop (k+1)) Kb 100 wr hlr (hEk.below hB) (Km.below hK hB);rw[<-HD.out]at hcw ZcF;rw[ZXo]at ZcF;clear hb hc hst;go_wp2_with fail;rw[HT.out];refine hcw.mono ?_;rintro e w1 ⟨hB1,v,n,rfl,hF⟩;obtain⟨hFn,⟨a,b,x,hva,hx⟩,hFw⟩:=hF;subst hFn;have HFW:Hid ((Z9 (s.drop k)).2≠0->v=ZoM (Z9 (s.drop k)).1):=hFw;generalize hrw:Z9 (s.drop k)=rw0 at HC HFW ZcF ⊢;obtain⟨w0,n⟩:=rw0;simp only at HC HFW ZcF ⊢;clear hcw hFw hrw;by_cases hn0:n=0
    ·have HE:Hid (R= .error k):=by
       show _=_;rw[<-hq.out,HC.out,ZWR hn0];rfl
     subst hn0;subst hva;rcases hx with rfl|⟨t,y,rfl⟩<;>
      (go_wp2_with fail
       refine(ZdS 2 k _).mono ?_;rintro e w' ⟨rfl,rfl⟩;go_wp2;refine⟨rfl,?_⟩;rw[HE.out];exact⟨_,rfl,ZPm,ZPm,((hBw.trans (hB1.mono hBw.size)).alloc (ZW0 hBw.size hB1.size) _).alloc (by have:=hB1.size;have:=hBw.size;simp;omega) _⟩)
    ·have hv:=HFW.out hn0;clear hva hx;subst hv;unfold ZoM;have HX:Hid ((YK s (s.length+1) (k+n)).map (fun x=>(out++ [w0])++x)=R):=by
       show _=_;rw[<-hq.out,HC.out,ZWQ hn0,Zvd]
     have ZtK:((n:Int)==0)=false:=by simpa using hn0
     have hpc:Kq (out++ [w0])=Kq out++ [.int .i64 (YQ w0),.string ⟨(Y1 w0).toArray⟩,QI w0]:=by simp[Kq,ZkU]
     have hone:=ZIy w0;have HPC:Hid (Kq (out++ [w0])=Kq out++ [.int .i64 (YQ w0),.string ⟨(Y1 w0).toArray⟩,QI w0]):=hpc;have hown1:=EC hown hB1;have hB2:=hBw.trans (hB1.mono hBw.size);have Zm4:=hB.trans (hB1.mono hB.size);have hsz1:=hB2.size;have Zt7:=Zm4.size;have HTn:Hid (List.take (List.length s-(k+n)) (List.drop (k+n) s)=s.drop (k+n)):=by show _=_;rw[ZXB ZPO]
     clear hpc HFW hq HC;have hpv:=Ziu w0;generalize QI w0=pv at HPC hpv hone ⊢;generalize YQ w0=pk at HPC ⊢;generalize Y1 w0=ps at HPC ⊢;rcases hpv with rfl|⟨t,y,rfl⟩
     · have hBt:Below wk.heap.size wk (w1.alloc (.cells #[.int .i64 pk,.string ⟨ps.toArray⟩,.nilIface] 173)):=Zm4.alloc Zt7 _;go_wp2_with (at_builtin;go_must (refine ZXg _ rfl _ _ 166 rfl wk.heap.size 173 i0 (.agg #[.int .i64 0,.string ⟨#[]⟩,.nilIface]) 3 40 underlying166 hi0 hz0 hz1 hz2 rfl ZPl _ _ _ rfl ((hown1.alloc _).alloc _) ⟨w1.heap.size+1,0,none⟩ 1 1 [.int .i64 pk,.string ⟨ps.toArray⟩,.nilIface] rfl rfl (Zjv _ _ _ _ _ _) ZPA ZPq U ZPo ?_);intro v' w5 hown' hgrow _);rw[HTn.out];refine(ZpI (s.drop (k+n)) _ ZPO).mono ?_;rintro e w' ⟨⟨m,rfl,hGm⟩,rfl⟩;have hml:=hGm.le;rw[ZXo]at hml;have HSm:Hid (∀h:k+n+m<s.length,blank s[k+n+m]=false/\(s.drop (k+n+m)).take 2≠ [45,45]):=fun h=>by
        exact ZVd
       have HXm:Hid ((YK s (s.length+1) (k+n+m)).map (fun x=>(out++ [w0])++x)=R):=by
        show _=_;rw[hGm.same s (k+n) rfl];exact HX.out
       clear hGm;go_wp2_with fail;go_roundg (s.length-(k+n+m)+1);case measure=>omega
       case rel=>
        exact ZV0
     · have hBt:Below wk.heap.size wk (w1.alloc (.cells #[.int .i64 pk,.string ⟨ps.toArray⟩,.iface t y] 173)):=Zm4.alloc Zt7 _;go_wp2_with (at_builtin;go_must (refine ZXg _ rfl _ _ 166 rfl wk.heap.size 173 i0 (.agg #[.int .i64 0,.string ⟨#[]⟩,.nilIface]) 3 40 underlying166 hi0 hz0 hz1 hz2 rfl ZPl _ _ _ rfl ((hown1.alloc _).alloc _) ⟨w1.heap.size+1,0,none⟩ 1 1 [.int .i64 pk,.string ⟨ps.toArray⟩,.iface t y] rfl rfl (Zjv _ _ _ _ _ _) ZPA ZPq U ZPo ?_);intro v' w5 hown' hgrow _);rw[HTn.out];refine(ZpI (s.drop (k+n)) _ ZPO).mono ?_;rintro e w' ⟨⟨m,rfl,hGm⟩,rfl⟩;have hml:=hGm.le;rw[ZXo]at hml;have HSm:Hid (∀h:k+n+m<s.length,blank s[k+n+m]=false/\(s.drop (k+n+m)).take 2≠ [45,45]):=fun h=>by
        exact ZVd
       have HXm:Hid ((YK s (s.length+1) (k+n+m)).map (fun x=>(out++ [w0])++x)=R):=by
        show _=_;rw[hGm.same s (k+n) rfl];exact HX.out
       clear hGm;go_wp2_with fail;go_roundg (s.length-(k+n+m)+1);case measure=>omega
       case rel=>
        exact ZV0
   ·have hR:R= .ok out:=by rw[<-hq.out,Zwo U];show Except.ok _=_;simp
    go_wp2_with fail;go_ret;rw[hR];exact⟨_,rfl,Zsu hown hBk.size,hBw⟩
end Go.Proofs.YthmlacabmlghbaaGreatDoor
