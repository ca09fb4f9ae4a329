import Derived.Test.YthmlacabmlghbaaGreatDoorBgJa18
set_option maxRecDepth 100000
set_option maxHeartbeats 8000000
set_option linter.unusedSimpArgs false
set_option linter.unusedVariables false
namespace Go.Proofs.YthmlacabmlghbaaGreatDoor
open Go.Proofs.Tryz
open Go.RowKit
open Go.Shelf
attribute [local go_sem] Oper.semAt_some
theorem ZJU(B R M Kb:Nat)(Zg:List Za)(line:Int)(st:St)(g o cap:Nat)(x:Za)(l:List Za)(W:World)(hlx:∀y∈x::l,y.length<=90000)(hll:l.length<=90000)(hcap:l.length+1<=cap)(hcap2:cap<=maxLen)(hI:RInv B R M Kb Zg line st W)
  (hv:∀(i:Nat) (h:i<(x::l).length),W.cell? ⟨g,o+i,none⟩=some (Zp (x::l)[i]))(hlen:ZeI (l.length+1)=true)(hok:ZbN Zg st x=true):
  Calls prog 83 #[.pointer (some ⟨R,0,none⟩),.slice (some ⟨g,o,none⟩) (l.length+1) cap] W fun e W'=>
   (Zha Zg l/\e= .returned (.tuple #[])/\RInv B R M Kb Zg line ⟨st.names++ [x],some ⟨YG (Zo l),0⟩,st.tabs++ [(x,YG (Zo l))]⟩ W'/\UX B R M W W')\/(¬Zha Zg l/\bad B line W e W'):=by
 have hx:x.length<=90000:=hlx x ZPm;have hl2:3<=l.length+1/\(l.length+1)%2=1/\l.length+1<=13:=ZXL hlen;have hcap1:¬cap=1:=U
 obtain⟨v,hR,hv0⟩:=hI.last;have c0:W.cell? ⟨R,0,none⟩=some (.int .i64 line):=ZPH
 have c1:W.cell? ⟨R,1,none⟩=some (.map (some M)):=ZPH
 have c3:W.cell? ⟨R,3,none⟩=some (.map (some Kb)):=ZPH
 have hc:=hv 0 ZPm;have hRl:R<W.heap.size:=(ZWU.1 hR).1;have hgl:g<W.heap.size:=ZWW W _ hc;have hBW:=hI.hB;have e1:(3:Int)<=(l.length:Int)+1:=U
 have e2:((l.length:Int)+1)%2=1:=U
 have e3:(l.length:Int)+1<=13:=U
 have d1:decide ((3:Int)<=(l.length:Int)+1)=true:=by simp;omega
 have d3:decide ((l.length:Int)+1<=13)=true:=by simp;omega
 have HN:Xv (W.alloc (.cells #[.pointer (some ⟨R,0,none⟩)] 133)) M st.names.length st.names:=ZfL hI.names ((ZWT _ W).alloc (ZWS _) _);have HK:Xv (W.alloc (.cells #[.pointer (some ⟨R,0,none⟩)] 133)) Kb 100 Zg:=ZfL hI.keys ((ZWT _ W).alloc (ZWS _) _);have c0a:∀o,(W.alloc o).cell? ⟨R,0,none⟩=some (.int .i64 line):=fun o=>(ZW6 W o ⟨R,0,none⟩ hRl).trans c0;have c1a:∀o,(W.alloc o).cell? ⟨R,1,none⟩=some (.map (some M)):=fun o=>(ZW6 W o ⟨R,1,none⟩ hRl).trans c1;have c3a:∀o,(W.alloc o).cell? ⟨R,3,none⟩=some (.map (some Kb)):=fun o=>(ZW6 W o ⟨R,3,none⟩ hRl).trans c3;have cxa:∀ob,(W.alloc ob).cell? ⟨g,o,none⟩=some (.string ⟨x.toArray⟩):=fun ob=>(ZW6 W ob ⟨g,o,none⟩ hgl).trans hc;obtain⟨vd,hvd⟩:=Zva (w:=(W.alloc (.cells #[.pointer (some ⟨R,0,none⟩)] 133)).drew) (by exact HN) x U;have ZnJ:∀w,Xv w M st.names.length st.names->(Builtin.len_ #[72] 3 #[.map (some M)]).run prog w= .ok (.int .i64 st.names.length) w:=by
  exact ZVE
 obtain⟨hk1,hk2,hk3⟩:Q3 Zg x=true/\st.names.contains x=false/\st.names.length<8:=by
  unfold ZbN at hok;simp only[ZXN,ZXw,ZYf]at hok;exact⟨hok.1.1,hok.1.2,hok.2⟩
 rw[hk2]at hvd;have HK2:Hid (st.names.contains x=false):=hk2;have hin:=fun w=>ZoQ R Kb 100 Zg x w hx;rw[hk1]at hin;have HK1:Hid (Q3 Zg x=true):=hk1;have d8:decide ((st.names.length:Int)<8)=true:=by simp;omega
 have HI:Hid (RInv B R M Kb Zg line st W):=hI;have EY:Hid (∀(i:Nat) (h:i<(x::l).length),W.cell? ⟨g,o+i,none⟩=some (Zp (x::l)[i])):=hv;have HLX:Hid (∀y∈x::l,y.length<=90000):=hlx;have HV0:Hid (ZwS B W v st.last):=hv0;clear hk1 hk2 hI hv hok hlen hc c0 c1 c3 hv0 hlx;have hmm:=@run_makeMap prog;refine Zg8 func83 rfl ?_;simp only[ntmps83,ZXY,List.length_cons,List.length_nil,Nat.reduceAdd,Nat.reduceSub,ZXZ,Array.replicate_zero,ZX0,ZX1,List.nil_append,List.cons_append];refine QK (QL ?_);go_wp2_with fail;refine QK (QL ?_);go_wp2_with fail;refine(ZbP _ _).mono ?_;rintro e w3 ⟨rfl,rfl⟩;go_wp2_with fail;refine QK (QL ?_);go_wp2_with fail;go_region;go_wp2_with fail;refine QK (QL ?_);go_wp2_with fail;refine wp_region_noPanic ?_;refine wp_region_held_drew (S:=fun w'=>w'.cell? ⟨W.heap.size,0,none⟩=some (.pointer (some ⟨R,0,none⟩))/\w'.cell? ⟨g,o,none⟩=some (.string ⟨x.toArray⟩)/\w'.cell? ⟨R,1,none⟩=some (.map (some M))/\Xv w' M st.names.length st.names) ZPn ZQZ (fun hHeld=>?_);refine tk 0 ?_;refine tk 1 ?_;refine tk 2 ?_;refine tk 3 ?_;refine tk 4 ?_;refine ZXu (rs:= [5]) ZPn ZPm (ZXr rfl (fun K hK=>?_) ZXv);go_simp;go_wp2_with (go_at_call 116;refine(hin _ ?_ ?_).mono ?_;(·exact c3a _);(·exact HK);rintro e w' ⟨rfl,rfl⟩);refine hK.out _ _ ?_ (fun hHeld=>?_)
 ·refine⟨?_,?_,?_,?_⟩<;>first|exact HN|go_keep
 clear hK K;refine tk 6 ?_;refine tk 7 ?_;refine tk 8 ?_;refine tk 9 ?_;refine tk 10 ?_;refine tk 11 ?_;refine tk 12 ?_;refine tk 13 ?_;refine tk 14 ?_;refine ZXC (i:=15) (v:=.int .i64 st.names.length) rfl ZPn ZPn ZPn (fun _ _ _ h=>h) (Or.inl ⟨ZPC,?_⟩) ZPu ?_
 ·intro w hSw;have hl:=ZnJ w hSw.2.2.2;clear hSw;go_simp
 try simp only[Act.put,ZXy,List.set_cons_zero,List.set_cons_succ,List.getElem_toArray,List.getElem_cons_zero,List.getElem_cons_succ]
 refine tk 16 ?_;refine tk 17 ?_;refine ZXu (rs:= [18]) ZPn ZPm (ZXr rfl (fun K hK=>?_) ZXv);go_simp;go_wp2_with (go_at_call 85;refine(ZbP _ _).mono ?_;rintro e w' ⟨rfl,rfl⟩);refine hK.out _ _ ?_ (fun hHeld=>?_)
 ·refine⟨?_,?_,?_,?_⟩<;>first|exact HN|go_keep
 clear hK K;refine wpAnyH_done ZPn (NoPanic.normal ?_) _;go_wp2_with fail;refine QK (QL ?_);go_wp2_with fail;refine QK (QK (QL ?_));go_wp2;refine Zlo ?_;obtain⟨w5,Js⟩:∃w5:World,((((((W.alloc (.cells #[.pointer (some ⟨R,0,none⟩)] 133)).alloc (.map #[] 0)).alloc (.cells #[.slice none 0 0,.map (some (W.heap.size+1)),.slice none 0 0] 242)).alloc (.cells #[.pointer (some ⟨W.heap.size+1+1,0,none⟩)] 136)).alloc (.cells #[.slice (some ⟨g,o+1,none⟩) l.length (cap-1)] 22)).alloc (.cells #[.int .i64 2] 3)).drew.drew=w5:=⟨_,rfl⟩;rw[Js];have hs5:w5.heap.size=W.heap.size+6:=by rw[<-Js];simp
 have X4:Below W.heap.size W w5:=by
  have h6:Below W.heap.size W ((((((W.alloc (.cells #[.pointer (some ⟨R,0,none⟩)] 133)).alloc (.map #[] 0)).alloc (.cells #[.slice none 0 0,.map (some (W.heap.size+1)),.slice none 0 0] 242)).alloc (.cells #[.pointer (some ⟨W.heap.size+1+1,0,none⟩)] 136)).alloc (.cells #[.slice (some ⟨g,o+1,none⟩) l.length (cap-1)] 22)).alloc (.cells #[.int .i64 2] 3)):=
   ((((((ZWT _ W).alloc (ZWS _) _).alloc ZPm _).alloc ZPo _).alloc ZPo _).alloc ZPo _).alloc ZPo _
  rw[<-Js];exact⟨h6.os,h6.tape,h6.output,h6.size,h6.block⟩
 have k0:w5.heap[W.heap.size]? =some (.cells #[.pointer (some ⟨R,0,none⟩)] 133 (0,0)):=by rw[<-Js];exact(Zf7 W.heap _ _ _ _ _ _).1
 have k1:w5.heap[W.heap.size+1]? =some (.map #[] 0):=by rw[<-Js];exact(Zf7 W.heap _ _ _ _ _ _).2.1
 have k2:w5.heap[W.heap.size+2]? =some (.cells #[.slice none 0 0,.map (some (W.heap.size+1)),.slice none 0 0] 242 (0,0)):=by rw[<-Js];exact(Zf7 W.heap _ _ _ _ _ _).2.2.1
 have k3:w5.heap[W.heap.size+3]? =some (.cells #[.pointer (some ⟨W.heap.size+2,0,none⟩)] 136 (0,0)):=by rw[<-Js];exact(Zf7 W.heap _ _ _ _ _ _).2.2.2.1
 have k4:w5.heap[W.heap.size+4]? =some (.cells #[.slice (some ⟨g,o+1,none⟩) l.length (cap-1)] 22 (0,0)):=by rw[<-Js];exact(Zf7 W.heap _ _ _ _ _ _).2.2.2.2.1
 have k5:w5.heap[W.heap.size+5]? =some (.cells #[.int .i64 2] 3 (0,0)):=by rw[<-Js];exact(Zf7 W.heap _ _ _ _ _ _).2.2.2.2.2
 clear Js;obtain⟨m,hm⟩:∃m,l.length=2*m:=⟨l.length/2,U⟩;refine ZNc (W.heap.size+4) (W.heap.size+5) g (o+1) m (cap-1) (fun k A=>JM W.heap.size R g o cap Zg l k W A) (fun ch A=>∃b,ch=thrown b/\A.cell? ⟨b,0,none⟩=some (.int .i64 1)/\A.cell? ⟨b,1,none⟩=some (.int .i64 line)/\Below W.heap.size W A/\A.heap[w5.heap.size]? =some (.deferred (some []))/\¬Zha Zg l)
  func83 rfl rfl U U U ?_ ?_ (fun k A n h=>h.drewN n) ?_ ?_ ?_ ?_
 ·rw[<-hm];simp[World.cell?,k4]
 ·simp[World.cell?,k5]
 ·have lo:∀b,b<W.heap.size+6->∀(tmps:Array Value) (ps:Array Tmp) (U2 bd:Code),(Qg w5 83 tmps ps U2 bd).heap[b]? =w5.heap[b]? :=fun b hb _ _ _ _=>ZbQ U;refine⟨?_,(lo _ U ..).trans k0,(lo _ U ..).trans k3,(lo _ U ..).trans k4,(lo _ U ..).trans k5,?_,?_,?_,⟨_,(lo _ U ..).trans k2,ZXp _ _ _ _⟩,rfl⟩
  ·refine⟨X4.os,X4.tape,X4.output,?_,fun b hb=>(lo _ U ..).trans (X4.block b hb)⟩;simp[Qg];omega
  ·simp[Qg];omega
  ·refine JV (w:=w5) ?_ (lo _ U ..);exact⟨#[],0,k1,⟨ZPm,MapKept.stamped_empty 0,ZPm⟩,ZWS _,rfl⟩
  ·exact V7 (w:=w5) (Zxe k1) (lo _ U ..)
 ·intro k A rb A2 hT hk ZP hL hD;have Yo:JM W.heap.size R g o cap Zg l k W A2:=hT.same (ZYa ZP.size.symm) ZP.os ZP.tape ZP.output (fun b _ hb=>ZP.block b (by rw[hs5];exact hb));have HF2:Hid (A2.heap[W.heap.size+4]? =A.heap[W.heap.size+4]?):=ZP.block (W.heap.size+4) U;have HG2:Hid (A2.heap[W.heap.size+5]? =A.heap[W.heap.size+5]?):=ZP.block (W.heap.size+5) U;have hk2:2*k+1<l.length:=by omega
  obtain⟨nm,hnm⟩:∃nm,l[2*k]' U=nm:=⟨_,rfl⟩;obtain⟨ty,hty⟩:∃ty,l[2*k+1]'hk2=ty:=⟨_,rfl⟩;have HP:Hid ((Zo l)[k]? =some (nm,ty)):=by
   have:=ZvG l k hk2;rw[hnm,hty]at this;exact this
  have q0:A2.cell? ⟨g,o+1+2*k,none⟩=some (.string ⟨nm.toArray⟩):=by
   have h1:=EY.out (2*k+1) ZPo;rw[List.getElem_cons_succ,hnm,show o+(2*k+1)=o+1+2*k from U]at h1;exact(Yo.low.cell (p:=⟨g,o+1+2*k,none⟩) hgl).trans h1
  have q1:A2.cell? ⟨g,o+1+2*k+1,none⟩=some (.string ⟨ty.toArray⟩):=by
   have h1:=EY.out (2*k+1+1) ZPo;rw[List.getElem_cons_succ,hty,show o+(2*k+1+1)=o+1+2*k+1 from U]at h1;exact(Yo.low.cell (p:=⟨g,o+1+2*k+1,none⟩) hgl).trans h1
  have ZtN:nm.length<=90000:=HLX.out nm (by rw[<-hnm];exact ZXe _ (ZWX _));have Zuc:ty.length<=90000:=HLX.out ty (by rw[<-hty];exact ZXe _ (ZWX _));have qR:A2.cell? ⟨W.heap.size,0,none⟩=some (.pointer (some ⟨R,0,none⟩)):=by simp[World.cell?,Yo.bR]
  have r0:A2.cell? ⟨R,0,none⟩=some (.int .i64 line):=(Yo.low.cell (p:=⟨R,0,none⟩) hRl).trans ZPH;have r3:A2.cell? ⟨R,3,none⟩=some (.map (some Kb)):=(Yo.low.cell (p:=⟨R,3,none⟩) hRl).trans ZPH;have rK:Xv A2 Kb 100 Zg:=JV HI.out.keys (Yo.low.block Kb (by have:=HI.out.hK;omega));have hs2:W.heap.size+8<=A2.heap.size:=Yo.sz;have hN2:W.heap.size<A2.heap.size:=U
  have hg2:g<A2.heap.size:=U
  have hR2:R<A2.heap.size:=U
  have HT2:Hid (JM W.heap.size R g o cap Zg l k W A2):=Yo;have HL2:Hid (A2.heap[W.heap.size+7]? =some (.loop rb)):=by rw[hs5]at hL;exact hL
  have HD2:Hid (A2.heap[W.heap.size+6]? =some (.deferred (some []))):=by rw[hs5]at hD;exact hD
  clear hT Yo ZP hL hD hnm hty hk2 k0 k1 k2 k3 k4 k5 hHeld;refine ZdL rfl ZPS ?_;go_wp2;try refine⟨trivial,?_⟩
  refine wpIn_block ?_;refine wpIn_seq ?_;refine Zo5 (S:=fun w'=>w'.cell? ⟨W.heap.size,0,none⟩=some (.pointer (some ⟨R,0,none⟩))/\w'.cell? ⟨g,o+1+2*k,none⟩=some (.string ⟨nm.toArray⟩)/\w'.cell? ⟨g,o+1+2*k+1,none⟩=some (.string ⟨ty.toArray⟩)) ZPn ZPn ZPS ⟨by exact qR,by exact q0,by exact q1⟩ (fun hHeld=>?_);refine tk 0 ?_;refine tk 1 ?_;refine tk 2 ?_;refine tk 3 ?_;refine tk 4 ?_;refine tk 5 ?_;refine tk 6 ?_;have hBa:Below A2.heap.size A2 ((A2.alloc (.cells #[.string ⟨#[]⟩,.int .i64 0] 248)).drew):=by
   have h6:=(ZWT A2.heap.size A2).alloc (ZWS _) (.cells #[.string ⟨#[]⟩,.int .i64 0] 248);exact⟨h6.os,h6.tape,h6.output,h6.size,h6.block⟩
  refine ZXu (rs:= [7,8]) ZPn ZPm (ZXr rfl (fun K hK=>?_) (ZXr rfl (fun K hK=>?_) ZXv));focus
   go_simp;refine(Zv2 R Kb 100 Zg line nm ty _ ZtN Zuc ?_ ?_ ?_).mono ?_
   ·exact r0
   ·exact r3
   ·exact rK
   rintro e w3 (⟨t,hto,hno,rfl,hB3⟩|⟨hbad,b,rfl,hb0,hb1,hB3⟩);rotate_left
   ·have JQ:Below A2.heap.size A2 w3:=⟨hB3.os,hB3.tape,hB3.output,hB3.size,hB3.block⟩;have HBAD:Hid (Q5 ty=none\/Q3 Zg nm=false):=hbad;clear hbad;refine⟨rfl,b,rfl,hb0,hb1,HT2.out.low.trans (JQ.mono U),?_,?_⟩
    ·try rw[hs5]
     exact(JQ.block _ U).trans HD2.out
    ·intro hg;have hx:=ZXQ.1 hg.1 (nm,ty) (ZXW HP.out);unfold Ef at hx;rcases HBAD.out with h|h<;>rw[h]at hx<;>simp at hx
   have HTO:Hid (Q5 ty=some t):=hto;have Y4:Hid (Q3 Zg nm=true):=hno;clear hto hno;have JQ:Below A2.heap.size A2 w3:=⟨hB3.os,hB3.tape,hB3.output,hB3.size,hB3.block⟩;refine hK.out _ _ ⟨(JQ.cell (p:=⟨W.heap.size,0,none⟩) hN2).trans qR,(JQ.cell (p:=⟨g,o+1+2*k,none⟩) hg2).trans q0,(JQ.cell (p:=⟨g,o+1+2*k+1,none⟩) hg2).trans q1⟩ (fun hHeld=>?_);clear hK K;refine ZXu (rs:= [8]) ZPn ZPm (ZXr rfl (fun K hK=>?_) ZXv);go_simp;refine hK.out _ _ ?_ (fun hHeld=>?_)
   ·refine⟨?_,?_,?_⟩<;>go_keep
   clear hK K;refine ZXu (rs:= [9]) ZPn ZPm (ZXr rfl (fun K hK=>?_) ZXv);go_simp;obtain⟨Cc,hCc⟩:∃Cc,w3.heap.size=Cc:=⟨_,rfl⟩;have ZC2:A2.heap.size<=Cc:=by rw[<-hCc];exact JQ.size
   have hB4:Below A2.heap.size A2 (w3.alloc (.cells #[.string ⟨nm.toArray⟩,.int .i64 t] 248)):=JQ.alloc JQ.size _;have ZB:(w3.alloc (.cells #[.string ⟨nm.toArray⟩,.int .i64 t] 248)).heap[w3.heap.size]? =some (.cells #[.string ⟨nm.toArray⟩,.int .i64 t] 248 (0,0)):=ZWV w3 _;obtain⟨A4,JH⟩:∃A4,w3.alloc (.cells #[.string ⟨nm.toArray⟩,.int .i64 t] 248)=A4:=⟨_,rfl⟩;rw[JH]at hB4 ZB ⊢;simp only[hCc]at ZB hK ⊢;clear JH hCc hB3 JQ hBa;refine hK.out _ _ ⟨(hB4.cell (p:=⟨W.heap.size,0,none⟩) hN2).trans qR,(hB4.cell (p:=⟨g,o+1+2*k,none⟩) hg2).trans q0,(hB4.cell (p:=⟨g,o+1+2*k+1,none⟩) hg2).trans q1⟩ (fun hHeld=>?_);clear hK K;refine wpAnyH_done ZPn ?_ _
  rotate_left;focus
   go_simp;refine hK.out _ _ ⟨(hBa.cell (p:=⟨W.heap.size,0,none⟩) hN2).trans qR,(hBa.cell (p:=⟨g,o+1+2*k,none⟩) hg2).trans q0,(hBa.cell (p:=⟨g,o+1+2*k+1,none⟩) hg2).trans q1⟩ (fun hHeld=>?_);clear hK K;refine ZXu (rs:= [7]) ZPn ZPm (ZXr rfl (fun K hK=>?_) ZXv);go_simp;refine(Zv2 R Kb 100 Zg line nm ty _ ZtN Zuc ?_ ?_ ?_).mono ?_
   ·exact(hBa.cell (p:=⟨R,0,none⟩) hR2).trans r0
   ·exact(hBa.cell (p:=⟨R,3,none⟩) hR2).trans r3
   ·exact ZfL rK hBa
   rintro e w3 (⟨t,hto,hno,rfl,hB3⟩|⟨hbad,b,rfl,hb0,hb1,hB3⟩);rotate_left
   ·have JQ:Below A2.heap.size A2 w3:=hBa.trans (hB3.mono hBa.size);have HBAD:Hid (Q5 ty=none\/Q3 Zg nm=false):=hbad;clear hbad;refine⟨rfl,b,rfl,hb0,hb1,HT2.out.low.trans (JQ.mono U),?_,?_⟩
    ·try rw[hs5]
     exact(JQ.block _ U).trans HD2.out
    ·intro hg;have hx:=ZXQ.1 hg.1 (nm,ty) (ZXW HP.out);unfold Ef at hx;rcases HBAD.out with h|h<;>rw[h]at hx<;>simp at hx
   have HTO:Hid (Q5 ty=some t):=hto;have Y4:Hid (Q3 Zg nm=true):=hno;clear hto hno;have JQ:Below A2.heap.size A2 w3:=hBa.trans (hB3.mono hBa.size);refine hK.out _ _ ⟨(JQ.cell (p:=⟨W.heap.size,0,none⟩) hN2).trans qR,(JQ.cell (p:=⟨g,o+1+2*k,none⟩) hg2).trans q0,(JQ.cell (p:=⟨g,o+1+2*k+1,none⟩) hg2).trans q1⟩ (fun hHeld=>?_);clear hK K;have hcc:w3.heap[A2.heap.size]? =some (.cells #[.string ⟨#[]⟩,.int .i64 0] 248 (0,0)):=(hB3.block A2.heap.size ZPm).trans (ZWV A2 _);have hc0:w3.cell? ⟨A2.heap.size,0,none⟩=some (.string ⟨#[]⟩):=by simp[World.cell?,hcc]
   have hc1:w3.cell? ⟨A2.heap.size,1,none⟩=some (.int .i64 0):=by simp[World.cell?,hcc]
   have hf0:w3.frozen? ⟨A2.heap.size,0,none⟩=false:=by simp[World.frozen?,hcc]
   have hf1:w3.frozen? ⟨A2.heap.size,1,none⟩=false:=by simp[World.frozen?,hcc]
   refine ZXu (rs:= [9]) ZPn ZPm (ZXr rfl (fun K hK=>?_) ZXv);go_simp;obtain⟨Cc,hCc⟩:∃Cc,A2.heap.size=Cc:=⟨_,rfl⟩;have ZC2:A2.heap.size<=Cc:=by rw[<-hCc];exact ZWS _
   have hB4:Below A2.heap.size A2 ((w3.setCell ⟨A2.heap.size,0,none⟩ (.string ⟨nm.toArray⟩)).setCell ⟨A2.heap.size,1,none⟩ (.int .i64 t)):=(JQ.setCell (p:=⟨A2.heap.size,0,none⟩) (ZWS _) _).setCell (p:=⟨A2.heap.size,1,none⟩) (ZWS _) _;have ZB:((w3.setCell ⟨A2.heap.size,0,none⟩ (.string ⟨nm.toArray⟩)).setCell ⟨A2.heap.size,1,none⟩ (.int .i64 t)).heap[A2.heap.size]? =some (.cells #[.string ⟨nm.toArray⟩,.int .i64 t] 248 (0,0)):=X8 (X8 hcc);obtain⟨A4,JH⟩:∃A4,((w3.setCell ⟨A2.heap.size,0,none⟩ (.string ⟨nm.toArray⟩)).setCell ⟨A2.heap.size,1,none⟩ (.int .i64 t))=A4:=⟨_,rfl⟩;rw[JH]at hB4 ZB ⊢;rw[hCc]at ZB ⊢;clear JH hB3 JQ hBa hcc hc0 hc1 hf0 hf1 hCc;refine hK.out _ _ ⟨(hB4.cell (p:=⟨W.heap.size,0,none⟩) hN2).trans qR,(hB4.cell (p:=⟨g,o+1+2*k,none⟩) hg2).trans q0,(hB4.cell (p:=⟨g,o+1+2*k+1,none⟩) hg2).trans q1⟩ (fun hHeld=>?_);clear hK K;refine wpAnyH_done ZPn ?_ _
  all_goals
   have hT4:=HT2.out.grow hB4;obtain⟨cv,t1,t2⟩:=HT2.out.tb;obtain⟨ac,cc,rfl⟩:=Ed t2;have hown2:∀g1,(Value.slice ac k cc).ownBlock=some g1->W.heap.size+8<=g1/\g1<A2.heap.size:=fun g1 e=>t2.lt g1 e;replace t1:=(hB4.block (W.heap.size+2) U).trans t1;replace t2:=own_below t2 hB4;have KE:Hid (∀b,(b<W.heap.size+8\/A2.heap.size<=b)->some b≠(Value.slice ac k cc).ownBlock):=by
    intro b hb e;have:=hown2 b e.symm;omega
   clear hown2;have HL4:Hid (A4.heap[W.heap.size+7]? =some (.loop rb)):=(hB4.block _ U).trans HL2.out;have HD4:Hid (A4.heap[W.heap.size+6]? =some (.deferred (some []))):=(hB4.block _ U).trans HD2.out;have HF4:Hid (A4.heap[W.heap.size+4]? =A.heap[W.heap.size+4]?):=(hB4.block _ U).trans HF2.out;have HG4:Hid (A4.heap[W.heap.size+5]? =A.heap[W.heap.size+5]?):=(hB4.block _ U).trans HG2.out;have hs4:W.heap.size+8<=A4.heap.size:=hT4.sz;have ZNQ:Cc<A4.heap.size:=(ZWU.1 ZB).1;have hNc:W.heap.size+8<=Cc:=U
   clear hHeld q0 q1 qR r0 r3 rK hB4 HL2 HD2 HF2 HG2 HT2 hs2 hN2 hg2 hR2;have p3:A4.cell? ⟨W.heap.size+3,0,none⟩=some (.pointer (some ⟨W.heap.size+2,0,none⟩)):=by simp[World.cell?,hT4.bT]
   have p1:A4.cell? ⟨W.heap.size+2,1,none⟩=some (.map (some (W.heap.size+1))):=ZQ5
   have p0:A4.cell? ⟨W.heap.size+2,0,none⟩=some (.slice ac k cc):=ZQ5
   have pc:A4.cell? ⟨Cc,0,none⟩=some (.string ⟨nm.toArray⟩):=by simp[World.cell?,ZB]
   obtain⟨w8,hr8,ho8,K5⟩:=World.ownsMap.update (w:=A4.drew) (val:=.int .i64 k) hT4.pl KA underlying238 ZPq (Kz nm U) rfl;have hv8:=Zxc (w:=A4.drew) (val:=.int .i64 k) (d:=nI k) hT4.pv underlying238 ZPq (show nm.length<=100000 by omega) rfl hr8;have HT4:Hid (JM W.heap.size R g o cap Zg l k W A4):=hT4;clear hT4;refine wpIn_seq ?_;refine Zo5 (S:=fun w'=>w'.cell? ⟨W.heap.size+3,0,none⟩=some (.pointer (some ⟨W.heap.size+2,0,none⟩))/\w'.cell? ⟨W.heap.size+2,1,none⟩=some (.map (some (W.heap.size+1)))/\w'.cell? ⟨W.heap.size+2,0,none⟩=some (.slice ac k cc)/\w'.cell? ⟨Cc,0,none⟩=some (.string ⟨nm.toArray⟩)) ZPn ZPn ZPS ⟨by exact p3,by exact p1,by exact p0,by exact pc⟩ (fun hHeld=>?_);refine tk 0 ?_;refine tk 1 ?_;refine tk 2 ?_;refine tk 3 ?_;refine tk 4 ?_;refine tk 5 ?_;refine tk 6 ?_;refine tk 7 ?_;refine tk 8 ?_;refine tk 9 ?_;refine tk 10 ?_;refine ZXu (rs:= [11]) ZPn ZPm (ZXr rfl (fun K hK=>?_) ZXv);go_simp;have VW:∀b,b<A4.heap.size->b≠W.heap.size+1->w8.heap[b]? =A4.heap[b]? :=fun b hb hne=>K5.block b hb (fun e=>hne (ZXc e));have ZcN:∀b j,b<A4.heap.size->b≠W.heap.size+1->w8.cell? ⟨b,j,none⟩=A4.cell? ⟨b,j,none⟩:=fun b j hb hne=>ZXb (a:=⟨b,j,none⟩) (VW b hb hne);refine hK.out _ _ ⟨(ZcN (W.heap.size+3) 0 U U).trans p3,(ZcN (W.heap.size+2) 1 U U).trans p1,(ZcN (W.heap.size+2) 0 U U).trans p0,(ZcN Cc 0 U U).trans pc⟩ (fun hHeld=>?_);clear hK K;refine wpAnyH_done ZPn ?_ _;have p38:=(ZcN (W.heap.size+3) 0 U U).trans p3;have p08:=(ZcN (W.heap.size+2) 0 U U).trans p0;have ZoE:=(ZcN Cc 0 U U).trans pc;have ZoF:w8.cell? ⟨Cc,1,none⟩=some (.int .i64 t):=(ZcN Cc 1 U U).trans (by simp[World.cell?,ZB]);have hs8:A4.heap.size<=w8.heap.size:=K5.size;have t18:w8.heap[W.heap.size+2]? =some (.cells #[.slice ac k cc,.map (some (W.heap.size+1)),.slice none 0 0] 242 (0,0)):=(VW _ U U).trans t1;have t28:w8.ownsRow (W.heap.size+8) 248 2 (.slice ac k cc) k (Ja (YG ((Zo l).take k))):=by
    refine⟨t2.1,?_⟩;rcases t2.2 with h0|⟨g1,JD,cu1,e1,hg1,Uu,r1⟩
    ·exact ZS4
    ·exact .inr ⟨g1,JD,cu1,e1,hg1,(VW g1 (ZWU.1 Uu).1 U).trans Uu,r1⟩
   have HO8:Hid (w8.ownsMap prog 9 ZgU (W.heap.size+1) (k+1) ((Kl (((Zo l).take k).map (·.1))).put (YD nm) (.agg []))):=ho8;have HV8:Hid (Vv w8 (W.heap.size+1) (k+1) (placesOf (((Zo l).take k).map (·.1))++ [(nm,nI k)])):=hv8;have Zx7:Hid (∀b,b<A4.heap.size->b≠W.heap.size+1->w8.heap[b]? =A4.heap[b]?):=VW;have HB8:Hid (Below W.heap.size W w8):=(show Below W.heap.size W A4.drew from ⟨HT4.out.low.os,HT4.out.low.tape,HT4.out.low.output,HT4.out.low.size,HT4.out.low.block⟩).grown K5 HT4.out.low.size (fun b e=>ZQt);have ZOX:∀ob,(w8.alloc ob).cell? ⟨W.heap.size+2,0,none⟩=some (.slice ac k cc):=fun ob=>(ZW6 w8 ob ⟨W.heap.size+2,0,none⟩ (show W.heap.size+2<w8.heap.size by omega)).trans p08;clear hHeld p3 p1 p0 pc hr8 ho8 hv8 K5 VW ZcN t1 t2 ZB;obtain⟨i0,hi,hz0,hz1,hz2⟩:=ZXd Tryz.ZED;refine Zo5 (S:=fun w'=>w'.cell? ⟨W.heap.size+3,0,none⟩=some (.pointer (some ⟨W.heap.size+2,0,none⟩))/\w'.cell? ⟨Cc,0,none⟩=some (.string ⟨nm.toArray⟩)/\w'.cell? ⟨Cc,1,none⟩=some (.int .i64 t)) ZPn ZPn ZPS ⟨by exact p38,by exact ZoE,by exact ZoF⟩ (fun hHeld=>?_);refine tk 0 ?_;refine tk 1 ?_;refine tk 2 ?_;refine tk 3 ?_;refine tk 5 ?_;refine ZXu (rs:= [4,6]) ZPn ZPm (ZXr rfl (fun K hK=>?_) (ZXr rfl (fun K hK=>?_) ZXv));focus
    go_simp;refine hK.out _ _ ⟨by exact p38,by exact ZoE,by exact ZoF⟩ (fun hHeld=>?_);clear hK K;refine ZXu (rs:= [6]) ZPn ZPm (ZXr rfl (fun K hK=>?_) ZXv);go_simp;refine hK.out _ _ ?_ (fun hHeld=>?_)
    ·refine⟨?_,?_,?_⟩<;>go_keep
    clear hK K
   rotate_left;focus
    go_simp;refine hK.out _ _ ?_ (fun hHeld=>?_)
    ·refine⟨?_,?_,?_⟩<;>go_keep
    clear hK K;refine ZXu (rs:= [4]) ZPn ZPm (ZXr rfl (fun K hK=>?_) ZXv);go_simp;refine hK.out _ _ ?_ (fun hHeld=>?_)
    ·refine⟨?_,?_,?_⟩<;>go_keep
    clear hK K
   all_goals
    refine ZXu (rs:= [7]) ZPn ZPm (ZXr rfl (fun K hK=>?_) ZXv);refine ZX9 _ rfl _ _ 239 rfl (W.heap.size+8) 248 i0 (.agg #[.string ⟨#[]⟩,.int .i64 0]) 2 24 underlying239 hi hz0 hz1 hz2 rfl ZPl (.slice ac k cc) k (Ja (YG ((Zo l).take k))) rfl (by exact t28.alloc _) ⟨w8.heap.size,0,none⟩ 1 1 [.string ⟨nm.toArray⟩,.int .i64 t] rfl rfl ZRB ZPA U ZPq U ZPo _ rfl ?_;intro g' cap' w9 hown' hgrow hlies Zdz;have lo9:∀b,b<w8.heap.size->(b<W.heap.size+8\/A2.heap.size<=b)->w9.heap[b]? =w8.heap[b]? :=fun b hb hne=>(hgrow.block b ZPo (KE.out b hne)).trans (ZXa _ _ b hb);have Zos:∀b j,b<w8.heap.size->(b<W.heap.size+8\/A2.heap.size<=b)->w9.cell? ⟨b,j,none⟩=w8.cell? ⟨b,j,none⟩:=fun b j hb hne=>ZXb (a:=⟨b,j,none⟩) (lo9 b hb hne);have p39:=(Zos (W.heap.size+3) 0 U U).trans p38;have ZvP:=(Zos Cc 0 U U).trans ZoE;have ZvQ:=(Zos Cc 1 U U).trans ZoF;have hT9:=(lo9 (W.heap.size+2) U U).trans t18;obtain⟨z0,z1,z2,zf⟩:=cells3 hT9;have zf0:=zf 0;refine hK.out _ _ ⟨p39,ZvP,ZvQ⟩ (fun hHeld=>?_);clear hK K;refine tk 8 ?_;refine tk 9 ?_;refine ZXu (rs:= [10]) ZPn ZPm (ZXr rfl (fun K hK=>?_) ZXv);go_simp;refine hK.out _ _ ⟨(ZXb (a:=⟨W.heap.size+3,0,none⟩) (ZXf w9 ⟨W.heap.size+2,0,none⟩ _ (W.heap.size+3) (by show W.heap.size+3≠W.heap.size+2;omega))).trans p39,(ZXb (a:=⟨Cc,0,none⟩) (ZXf w9 ⟨W.heap.size+2,0,none⟩ _ Cc (by show Cc≠W.heap.size+2;omega))).trans ZvP,(ZXb (a:=⟨Cc,1,none⟩) (ZXf w9 ⟨W.heap.size+2,0,none⟩ _ Cc (by show Cc≠W.heap.size+2;omega))).trans ZvQ⟩ (fun hHeld=>?_);clear hK K;refine wpAnyH_done ZPn ?_ _;have hs9:w8.heap.size<=w9.heap.size:=by have:=hgrow.size;simp at this;omega
    have HB9:Below W.heap.size W w9:=(show Below W.heap.size W (w8.alloc (.cells #[.string ⟨nm.toArray⟩,.int .i64 t] 248)).drew from by
      have h6:=HB8.out.alloc U (.cells #[.string ⟨nm.toArray⟩,.int .i64 t] 248);exact⟨h6.os,h6.tape,h6.output,h6.size,h6.block⟩).grown hgrow ZPo (fun b e=>by have:=(t28.lt b e).1;omega)
    have ZxC:=HB9.setCell (p:=⟨W.heap.size+2,0,none⟩) (show W.heap.size<=W.heap.size+2 by omega) (.slice (some ⟨g',0,none⟩) (k+1) cap');have ZdC:∀b,b<W.heap.size+8->b≠W.heap.size+1->b≠W.heap.size+2->(w9.setCell ⟨W.heap.size+2,0,none⟩ (.slice (some ⟨g',0,none⟩) (k+1) cap')).heap[b]? =A4.heap[b]? :=fun b hb h1 h2=>
     (ZXf w9 ⟨W.heap.size+2,0,none⟩ _ b h2).trans ((lo9 b U (.inl hb)).trans (Zx7.out b U h1))
    have ZnK:(w9.setCell ⟨W.heap.size+2,0,none⟩ (.slice (some ⟨g',0,none⟩) (k+1) cap')).heap[W.heap.size+1]? =w8.heap[W.heap.size+1]? :=(ZXf w9 ⟨W.heap.size+2,0,none⟩ _ (W.heap.size+1) (by show W.heap.size+1≠W.heap.size+2;omega)).trans (lo9 _ U U);have ZDl:JM W.heap.size R g o cap Zg l (k+1) W (w9.setCell ⟨W.heap.size+2,0,none⟩ (.slice (some ⟨g',0,none⟩) (k+1) cap')):=by
     have htk:=ZwX (Zo l) k _ HP.out;refine⟨ZxC,(ZdC _ U U U).trans HT4.out.bR,(ZdC _ U U U).trans HT4.out.bT,(ZdC _ U U U).trans HT4.out.bF,(ZdC _ U U U).trans HT4.out.b2,?_,?_,?_,⟨_,X8 hT9,?_⟩,?_⟩
     ·simp;omega
     ·have h6:=HO8.out;rw[ZkZ]at h6;rw[htk,ZWY];exact JV h6 ZnK
     ·have h6:=HV8.out;have hkl:(((Zo l).take k).map (·.1)).length=k:=by
       have:=(ZXq.1 HP.out).1;simp;omega
      rw[htk,ZWY,ZWZ,ZW2,ZJi,hkl];exact V7 h6 ZnK
     ·have h6:=UF (k:=0) (u:=.slice (some ⟨g',0,none⟩) (k+1) cap') hown' hT9 ZPl;rw[htk];have e6:Ja (YG ((Zo l).take k++ [(nm,ty)]))=Ja (YG ((Zo l).take k))++ [.string ⟨nm.toArray⟩,.int .i64 t]:=by
       unfold Ja YG;rw[ZWY,ZYw];simp only[ZWZ,ZW2,HTO.out,Option.getD_some];rfl
      rw[e6];exact h6
     ·rw[htk,List.all_append,HT4.out.ok];simp[Ef,HTO.out,Y4.out]
    have y7:=(ZdC (W.heap.size+7) U U U).trans HL4.out;have y6:=(ZdC (W.heap.size+6) U U U).trans HD4.out;refine⟨by first|exact y7|(rw[hs5];exact y7),by first|exact y6|(rw[hs5];exact y6),fun A' hO=>?_⟩;have hOb:∀b,b≠W.heap.size+7->A'.heap[b]? =(w9.setCell ⟨W.heap.size+2,0,none⟩ (.slice (some ⟨g',0,none⟩) (k+1) cap')).heap[b]? :=fun b hb=>hO.block b (by first|exact hb|(rw[hs5];exact hb));refine⟨?_,?_,?_⟩
    ·exact ZDl.same (ZYa hO.size.symm) hO.os hO.tape hO.output (fun b _ hb=>hOb b hb)
    ·exact(hOb _ U).trans ((ZdC _ U U U).trans HF4.out)
    ·exact(hOb _ U).trans ((ZdC _ U U U).trans HG4.out)
 ·intro A A2 hT ZP hD;rw[hs5]at ZP hD;have Yo:JM W.heap.size R g o cap Zg l m W A2:=hT.same (ZYa ZP.size.symm) ZP.os ZP.tape ZP.output (fun b _ hb=>ZP.block b hb);have ZnR:(Zo l).length=m:=by rw[ZoA];omega
  have htake:(Zo l).take m=Zo l:=ZXB U;obtain⟨cv,t1,t2⟩:=Yo.tb;have hpl:=Yo.pl;have hall:=Yo.ok;have hpv:=Yo.pv;rw[htake]at t2 hpl hpv hall;have HPV:=(show Hid _ from hpv);clear hpv;obtain⟨ac,cc,rfl⟩:=Ed t2;have hs2:W.heap.size+8<=A2.heap.size:=Yo.sz;have p0:A2.cell? ⟨W.heap.size,0,none⟩=some (.pointer (some ⟨R,0,none⟩)):=by simp[World.cell?,Yo.bR]
  have p3:A2.cell? ⟨W.heap.size+3,0,none⟩=some (.pointer (some ⟨W.heap.size+2,0,none⟩)):=by simp[World.cell?,Yo.bT]
  have pt1:A2.cell? ⟨W.heap.size+2,1,none⟩=some (.map (some (W.heap.size+1))):=ZQ5
  have pt0:A2.cell? ⟨W.heap.size+2,0,none⟩=some (.slice ac m cc):=ZQ5
  have r0:A2.cell? ⟨R,0,none⟩=some (.int .i64 line):=(Yo.low.cell (p:=⟨R,0,none⟩) hRl).trans ZPH;have hRA:A2.heap[R]? =some (.cells #[.int .i64 line,.map (some M),v,.map (some Kb)] 138 (0,0)):=(Yo.low.block R hRl).trans hR;have r1:A2.cell? ⟨R,1,none⟩=some (.map (some M)):=by simp[World.cell?,hRA]
  have gx:A2.cell? ⟨g,o,none⟩=some (.string ⟨x.toArray⟩):=(Yo.low.cell (p:=⟨g,o,none⟩) hgl).trans (EY.out 0 ZPm);have HT2:Hid (JM W.heap.size R g o cap Zg l m W A2):=Yo;have Ze3:Hid ((Zo l).all (Ef Zg)=true):=hall;have HT1:Hid (A2.heap[W.heap.size+2]? =some (.cells #[.slice ac m cc,.map (some (W.heap.size+1)),.slice none 0 0] 242 (0,0))):=t1;have HTW:Hid (A2.ownsRow (W.heap.size+8) 248 2 (.slice ac m cc) m (Ja (YG (Zo l)))):=t2;have HD2:Hid (A2.heap[W.heap.size+6]? =some (.deferred (some []))):=hD;have Zki:∀w,Xv w (W.heap.size+1) m ((Zo l).map (·.1))->(Builtin.len_ #[238] 3 #[.map (some (W.heap.size+1))]).run prog w= .ok (.int .i64 (Zdm ((Zo l).map (·.1))).length) w:=by
   intro w h;have h1:=World.ownsMap.len h underlying238 3;rw[Zpf]at h1;exact h1
  have hdn:=ZmM ((Zo l).map (·.1));rw[ZW5,ZnR]at hdn;have Zev:=ZBT ((Zo l).map (·.1));rw[ZW5,ZnR]at Zev;obtain⟨d,hd⟩:∃d,(Zdm ((Zo l).map (·.1))).length=d:=⟨_,rfl⟩;rw[hd]at hdn Zev Zki;clear hT Yo ZP hD t1 t2 hall hd k0 k1 k2 k3 k4 k5 hHeld;by_cases hdm:d=m
  ·subst hdm;have ZxU:Hid (Zha Zg l):=⟨Ze3.out,hdn.1 rfl⟩;clear hdn Zev;refine QK (QL ?_);refine wp_region_noPanic ?_;refine wp_region_held_drew (S:=fun w'=>w'.cell? ⟨W.heap.size,0,none⟩=some (.pointer (some ⟨R,0,none⟩))/\w'.cell? ⟨W.heap.size+3,0,none⟩=some (.pointer (some ⟨W.heap.size+2,0,none⟩))/\w'.cell? ⟨W.heap.size+2,1,none⟩=some (.map (some (W.heap.size+1)))/\w'.cell? ⟨W.heap.size+2,0,none⟩=some (.slice ac d cc)/\Xv w' (W.heap.size+1) d ((Zo l).map (·.1))) ZPn ⟨by exact p0,by exact p3,by exact pt1,by exact pt0,by exact hpl⟩ (fun hHeld=>?_);refine tk 0 ?_;refine tk 1 ?_;refine tk 2 ?_;refine tk 3 ?_;refine tk 4 ?_;refine ZXC (i:=5) (v:=.int .i64 d) rfl ZPn ZPn ZPn (fun _ _ _ h=>h) (Or.inl ⟨ZPC,?_⟩) ZPu ?_
   ·intro w hSw;have hl:=Zki w hSw.2.2.2.2;clear hSw;go_simp
   try simp only[Act.put,ZXy,List.set_cons_zero,List.set_cons_succ,List.getElem_toArray,List.getElem_cons_zero,List.getElem_cons_succ]
   refine tk 6 ?_;refine tk 7 ?_;refine tk 8 ?_;refine tk 9 ?_;refine tk 10 ?_;refine tk 11 ?_;refine ZXu (rs:= [12]) ZPn ZPm (ZXr rfl (fun K hK=>?_) ZXv);go_simp;go_wp2_with fail;refine(ZbP _ _).mono ?_;rintro e w' ⟨rfl,rfl⟩;go_wp2_with fail;refine hK.out _ _ ⟨by exact p0,by exact p3,by exact pt1,by exact pt0,by exact hpl⟩ (fun hHeld=>?_);clear hK K;refine wpAnyH_done ZPn (NoPanic.normal ?_) _;have hpos:(0:Int)<2*(d:Int)+1:=U
   have hlM:M<W.heap.size:=by have:=HI.out.hM;omega
   obtain⟨Qu,ZnW,ZtP,ZfC⟩:=World.ownsMap.update (w:=A2.drew.drew) (val:=.pointer (some ⟨W.heap.size+2,0,none⟩)) (show Xv A2.drew.drew M st.names.length st.names from JV HI.out.names (HT2.out.low.block M hlM)) KA underlying72 ZPq (Kz x U) rfl;obtain⟨htn,Ts,htl,Kc,htt⟩:=HI.out.tabs;have ZEu:st.tabs.length=st.names.length:=by rw[<-htn,ZW5]
   have Zkt:=Zxc (w:=A2.drew.drew) (val:=.pointer (some ⟨W.heap.size+2,0,none⟩)) (d:=nP (W.heap.size+2)) (V7 (w':=A2.drew.drew) Kc (HT2.out.low.block M hlM)) underlying72 ZPq (show x.length<=100000 by omega) rfl ZnW;have Zyy:Hid (st.tabs.map (·.1)=st.names/\st.tabs.length=Ts.length/\(∀p∈st.tabs.zip Ts,Qi B W p.2 p.1.2)/\Vv Qu M (st.tabs.length+1) (ZbW st.tabs Ts++ [(x,nP (W.heap.size+2))])):=⟨htn,htl,htt,Zkt⟩;clear htn htl Kc htt Zkt ZEu;clear hHeld;refine QK (QL ?_);refine wp_region_noPanic ?_;refine wp_region_held_drew (S:=fun w'=>w'.cell? ⟨W.heap.size,0,none⟩=some (.pointer (some ⟨R,0,none⟩))/\w'.cell? ⟨W.heap.size+3,0,none⟩=some (.pointer (some ⟨W.heap.size+2,0,none⟩))/\w'.cell? ⟨R,1,none⟩=some (.map (some M))/\w'.cell? ⟨g,o,none⟩=some (.string ⟨x.toArray⟩)) ZPn ⟨by exact p0,by exact p3,by exact r1,by exact gx⟩ (fun hHeld=>?_);refine tk 0 ?_;refine tk 1 ?_;refine tk 2 ?_;refine tk 3 ?_;refine tk 4 ?_;refine tk 5 ?_;refine tk 6 ?_;refine tk 7 ?_;refine ZXu (rs:= [8]) ZPn ZPm (ZXr rfl (fun K hK=>?_) ZXv);go_simp;have ZcM:∀b,b<A2.heap.size->b≠M->Qu.heap[b]? =A2.heap[b]? :=fun b hb hne=>ZfC.block b hb (fun e=>hne (ZXc e));have hcM:∀ob,A2.heap[M]? =some ob->(∃es clk,ob= .map es clk):=by
    intro ob h1;obtain⟨es,clk,h2,_⟩:=HI.out.names;rw[HT2.out.low.block M hlM,h2]at h1;exact⟨es,clk,(ZXc h1).symm⟩
   have hgM:g≠M:=by
    intro e;subst e;obtain⟨es,clk,h2,_⟩:=HI.out.names;have h3:=EY.out 0 ZPm;simp[World.cell?,h2]at h3
   refine hK.out _ _ ⟨?_,?_,?_,?_⟩ (fun hHeld=>?_)
   ·exact(ZXb (a:=⟨W.heap.size,0,none⟩) (ZcM W.heap.size U U)).trans p0
   ·exact(ZXb (a:=⟨W.heap.size+3,0,none⟩) (ZcM (W.heap.size+3) U U)).trans p3
   ·exact(ZXb (a:=⟨R,1,none⟩) (ZcM R U HI.out.hRM)).trans r1
   ·exact(ZXb (a:=⟨g,o,none⟩) (ZcM g U hgM)).trans gx
   clear hK K;refine wpAnyH_done ZPn (NoPanic.normal ?_) _;have Zj9:Qu.heap[R]? =some (.cells #[.int .i64 line,.map (some M),v,.map (some Kb)] 138 (0,0)):=(ZcM R U HI.out.hRM).trans hRA;have u0:=(ZXb (a:=⟨W.heap.size,0,none⟩) (ZcM W.heap.size U U)).trans p0;have u3:=(ZXb (a:=⟨W.heap.size+3,0,none⟩) (ZcM (W.heap.size+3) U U)).trans p3;have ur:Qu.cell? ⟨R,2,none⟩=some v:=by simp[World.cell?,Zj9]
   have uf:Qu.frozen? ⟨R,2,none⟩=false:=by simp[World.frozen?,Zj9]
   have Zyd:Hid (Qu.ownsMap prog 9 ZgU M (st.names.length+1) ((Kl st.names).put (YD x) (.agg []))):=ZtP;have ZlH:Hid (∀b,b<A2.heap.size->b≠M->Qu.heap[b]? =A2.heap[b]?):=ZcM;have ZiU:Hid (Qu.os=A2.os/\Qu.tape=A2.tape/\Qu.output=A2.output/\A2.heap.size<=Qu.heap.size):=⟨ZfC.os,ZfC.tape,ZfC.output,ZfC.size⟩;have Zyk:Hid (Qu.heap[R]? =some (.cells #[.int .i64 line,.map (some M),v,.map (some Kb)] 138 (0,0))):=Zj9;clear hHeld p0 p3 r1 gx r0 ZnW ZtP ZfC ZcM hcM hRA Zj9 pt1 pt0 hpl Zki;refine QL ?_;go_wp2;have ZOz:=ZiU.out.2.2.2;have ZNV:R<A2.heap.size:=U
   have ZC4:(Qu.setCell ⟨R,2,none⟩ (.pointer (some ⟨W.heap.size+2,0,none⟩))).heap[W.heap.size+6]? =some (.deferred (some [])):=(ZXf Qu ⟨R,2,none⟩ _ (W.heap.size+6) (by show W.heap.size+6≠R;omega)).trans ((ZlH.out (W.heap.size+6) U U).trans HD2.out);refine ZkJ (v:=.tuple #[]) ZC4 (by simp[results,Tryz.results83]) (.inl ⟨ZxU.out,rfl,?_,?_⟩)
   ·have ZeJ:∀b,b<A2.heap.size->b≠M->b≠R->b≠W.heap.size+6->((Qu.setCell ⟨R,2,none⟩ (.pointer (some ⟨W.heap.size+2,0,none⟩))).putObj (W.heap.size+6) (.deferred none)).heap[b]? =A2.heap[b]? :=fun b hb h1 h2 h3=>
     (ZXz h3).trans ((ZXf Qu ⟨R,2,none⟩ _ b h2).trans (ZlH.out b hb h1))
    have hKl:=HI.out.hK;have hcl:(YG (Zo l)).length=d:=by unfold YG;rw[ZW5,ZnR]
    refine⟨HI.out.hR,HI.out.hM,HI.out.hK,HI.out.hRM,HI.out.hMK,HI.out.hRK,?_,?_,?_,?_,?_,?_⟩
    ·rw[Za1];simp;omega
    ·show(st.names++ [x]).Nodup;rw[List.nodup_append];refine⟨HI.out.nd,ZPm,?_⟩;intro a ha b hb e;have h6:=HK2.out;rw[ZXh]at hb;subst hb;subst e;have:st.names.contains a=true:=ZXI.2 ha;rw[h6]at this;cases this
    ·show Xv _ M (st.names++ [x]).length (st.names++ [x]);have h6:=Zyd.out;rw[ZkZ]at h6;rw[ZW9];exact JV h6 ((ZXz U).trans (ZXf Qu ⟨R,2,none⟩ _ M (Ne.symm HI.out.hRM)))
    ·exact JV HI.out.keys ((ZeJ Kb U (Ne.symm HI.out.hMK) (Ne.symm HI.out.hRK) U).trans (HT2.out.low.block Kb U))
    ·obtain⟨htn,htl,htt,Zkt⟩:=Zyy.out;have hBl:=HI.out.hB;have hMl:=HI.out.hM;have ZNW:=HI.out.hR;have Zuh:(st.tabs++ [(x,YG (Zo l))]).zip (Ts++ [W.heap.size+2])=st.tabs.zip Ts++ [((x,YG (Zo l)),W.heap.size+2)]:=by rw[ZYy htl];rfl
     refine⟨by show(st.tabs++ [(x,YG (Zo l))]).map (·.1)=st.names++ [x];rw[ZWY,htn];rfl,Ts++ [W.heap.size+2],by simp[htl],?_,fun p hp=>?_⟩
     ·show Vv _ M (st.tabs++ [(x,YG (Zo l))]).length (ZbW (st.tabs++ [(x,YG (Zo l))]) (Ts++ [W.heap.size+2]));unfold ZbW;rw[Zuh,ZWY,ZW9];exact V7 Zkt ((ZXz U).trans (ZXf Qu ⟨R,2,none⟩ _ M (Ne.symm HI.out.hRM)))
     ·have hp':p∈st.tabs.zip Ts++ [((x,YG (Zo l)),W.heap.size+2)]:=by rw[<-Zuh];exact hp
      rcases ZXt.1 hp' with hp'|hp'
      ·have hx:∀g o,B<=g->W.heap[g]? =some o->((Qu.setCell ⟨R,2,none⟩ (.pointer (some ⟨W.heap.size+2,0,none⟩))).putObj (W.heap.size+6) (.deferred none)).heap[g]? =some o:=fun g o hg e=>by
        have hl:=(ZWU.1 e).1;exact(ZeJ g U U U U).trans ((HT2.out.low.block g hl).trans e)
       exact(htt p hp').typed (fun g _ _ hg e=>hx g _ hg e) (fun g _ _ hg e=>hx g _ hg e) (fun g _ _ c hg e=>⟨c,hx g _ hg e,.inl rfl⟩)
      ·rw[ZXh.1 hp'];refine⟨by show B<=W.heap.size+2;omega,⟨.slice ac d cc,W.heap.size+1,.slice none 0 0,U,(ZeJ (W.heap.size+2) U U U U).trans HT1.out,?_,?_,none,0,0,rfl⟩,by show(YG (Zo l)).length<=6;omega,by show 1<=(YG (Zo l)).length;omega⟩
       ·show World.ownsRow _ B _ 2 _ (YG (Zo l)).length (Ja (YG (Zo l)));rw[hcl];refine⟨HTW.out.1,?_⟩;rcases HTW.out.2 with h0|⟨g1,JD,cu1,e6,hg1,Uu,r1⟩
        ·exact ZS4
        ·exact ZTe
       ·show Vv _ (W.heap.size+1) (YG (Zo l)).length (placesOf ((YG (Zo l)).map (·.1)));rw[hcl,show(YG (Zo l)).map (·.1)=(Zo l).map (·.1) from by unfold YG;rw[ZX2];rfl];exact V7 HPV.out (ZeJ (W.heap.size+1) U U U U)
    ·refine⟨.pointer (some ⟨W.heap.size+2,0,none⟩),(ZXz U).trans (X8 Zyk.out),?_⟩;refine⟨W.heap.size+2,.slice ac d cc,.map (some (W.heap.size+1)),.slice none 0 0, [],rfl,U,(ZeJ (W.heap.size+2) U U U U).trans HT1.out,?_,ZXp _ _ _ _,?_,?_,?_⟩
     ·show World.ownsRow _ B _ 2 _ (YG (Zo l)).length (Ja (YG (Zo l)));rw[hcl];refine⟨HTW.out.1,?_⟩;rcases HTW.out.2 with h0|⟨g1,JD,cu1,e6,hg1,Uu,r1⟩
      ·exact ZS4
      ·exact ZTe
     ·show(YG (Zo l)).length<=6;omega
     ·exact ZTh
     ·show 1<=(YG (Zo l)).length;omega
   ·refine⟨ZiU.out.1.trans HT2.out.low.os,ZiU.out.2.1.trans HT2.out.low.tape,ZiU.out.2.2.1.trans HT2.out.low.output,?_,?_⟩
    ·rw[Za1];simp;have:=HT2.out.low.size;omega
    ·intro b hb h1 h2;exact(ZXz U).trans ((ZXf Qu ⟨R,2,none⟩ _ b h1).trans ((ZlH.out b U h2).trans (HT2.out.low.block b U)))
  ·have ZN5:((d:Int)==(m:Int))=false:=by simp;omega
   have HBAD:Hid (¬Zha Zg l):=fun h=>hdm (hdn.2 h.2);clear hdn Zev hdm;refine QK (QL ?_);refine Code.wp_mono (Q:=fun e a w=>∃b,e= .panic (thrown b)/\w.cell? ⟨b,0,none⟩=some (.int .i64 1)/\w.cell? ⟨b,1,none⟩=some (.int .i64 line)/\Below A2.heap.size A2 w/\a.defers= [{target:=.collected w5.heap.size,args:=#[]}]) ?_ ?_
   ·rintro e a w ⟨b,rfl,hb0,hb1,hBl,hdf⟩;rw[hs5]at hdf;have hDw:w.heap[W.heap.size+6]? =some (.deferred (some [])):=(hBl.block _ U).trans HD2.out;exact Zor hdf hDw (.inr ⟨HBAD.out,Zrg hBW (HT2.out.low.trans (hBl.mono U)) hDw hb0 hb1 U⟩)
   refine wp_region_held_drew (S:=fun w'=>w'.cell? ⟨W.heap.size,0,none⟩=some (.pointer (some ⟨R,0,none⟩))/\w'.cell? ⟨W.heap.size+3,0,none⟩=some (.pointer (some ⟨W.heap.size+2,0,none⟩))/\w'.cell? ⟨W.heap.size+2,1,none⟩=some (.map (some (W.heap.size+1)))/\w'.cell? ⟨W.heap.size+2,0,none⟩=some (.slice ac m cc)/\Xv w' (W.heap.size+1) m ((Zo l).map (·.1))) ZPn ⟨by exact p0,by exact p3,by exact pt1,by exact pt0,by exact hpl⟩ (fun hHeld=>?_);refine tk 0 ?_;refine tk 1 ?_;refine tk 2 ?_;refine tk 3 ?_;refine tk 4 ?_;refine ZXC (i:=5) (v:=.int .i64 d) rfl ZPn ZPn ZPn (fun _ _ _ h=>h) (Or.inl ⟨ZPC,?_⟩) ZPu ?_
   ·intro w hSw;have hl:=Zki w hSw.2.2.2.2;clear hSw;go_simp
   try simp only[Act.put,ZXy,List.set_cons_zero,List.set_cons_succ,List.getElem_toArray,List.getElem_cons_zero,List.getElem_cons_succ]
   refine tk 6 ?_;refine tk 7 ?_;refine tk 8 ?_;refine tk 9 ?_;refine tk 10 ?_;refine tk 11 ?_;refine ZXu (rs:= [12]) ZPn ZPm (ZXr rfl (fun K hK=>?_) ZXv);go_simp;go_wp2_with fail;refine(Vr R line _ ?_).mono ?_
   ·exact r0
   rintro e w' ⟨b,rfl,hb0,hb1,hB3⟩;have hBB:Below A2.heap.size A2 w':=⟨hB3.os,hB3.tape,hB3.output,hB3.size,hB3.block⟩;first|exact⟨b,rfl,hb0,hb1,hBB⟩|exact⟨b,rfl,hb0,hb1,hBB,rfl⟩|exact⟨hb0,hb1,hBB⟩
 ·rintro ch A ⟨b,rfl,hb0,hb1,hBl,hD,hng⟩;exact Zor rfl hD (.inr ⟨hng,Zrg hBW hBl hD hb0 hb1 U⟩)
end Go.Proofs.YthmlacabmlghbaaGreatDoor
