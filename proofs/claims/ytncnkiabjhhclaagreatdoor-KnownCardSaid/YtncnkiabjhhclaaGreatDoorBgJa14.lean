import Derived.Test.YtncnkiabjhhclaaGreatDoorBgZc
set_option maxRecDepth 100000
set_option maxHeartbeats 8000000
set_option linter.all false
namespace Go.Proofs.YtncnkiabjhhclaaGreatDoor
open Go.Proofs.Tryz
variable{ZcM:Int}{Ts:List Nat}{xN:List vS}{B Kb M:Nat}{W W':World}
open Go.RowKit
theorem J5.wJ{R}{line}{st}(h:J5 B R M Kb xN line st Ts W)(hs:W.heap.size<=W'.heap.size)(hm:W'.heap[M]? =W.heap[M]?)(hk:W'.heap[Kb]? =W.heap[Kb]?)(hx:∀g ob,B<=g->W.heap[g]? =some ob->W'.heap[g]? =some ob)(hr:∀v,W.heap[R]? =some (.cells #[.int .i64 line,.map (some M),v,.map (some Kb)] 90)->W'.heap[R]? =some (.cells #[.int .i64 ZcM,.map (some M),v,.map (some Kb)] 90)):J5 B R M Kb xN ZcM st Ts W':=by
 obtain⟨B1,v,Ei,Sq,Hq,hR,hv⟩:=h.last;refine⟨h.hR,h.hM,h.hK,h.Zu,h.hMK,h.Zt,om h.hB hs,h.nd,IM h.names hm,IM h.keys hk,h.tl,Il h.val hm,B1,v,Ei,om Sq hs,λi p q W2 Xf=>Hq i p q W2 (λg ob h1 h2 e=>Xf g ob h1 h2 (hx g ob h1 e)),hr v hR,?_⟩;unfold YN at hv ⊢;cases hl:st.last with
 |none=>rw[hl]at hv;exact hv
 |some t=>
  rw[hl]at hv;obtain⟨T,e,h1,h2⟩:=hv;exact⟨T,e,h1,h2.wJ (nV _) (λg ob hg e=>hx g ob (om Ei hg) e)⟩
def J5.below{R}{line}{st}(h:J5 B R M Kb xN line st Ts W)(hB:vV W W'):J5 B R M Kb xN line st Ts W':=
 h.wJ hB.size (hB.block M h.names.lt) (hB.block Kb h.keys.lt) (λg ob _ e=>xq hB e) (λv e=>xq hB e)
theorem J5.line{R}{line}{st}(h:J5 B R M Kb xN line st Ts W):J5 B R M Kb xN ZcM st Ts (W.setCell ⟨R,0,none⟩ (.int .i64 ZcM)):=by
 have lo:∀b,b≠R->(W.setCell ⟨R,0,none⟩ (.int .i64 ZcM)).heap[b]? =W.heap[b]? :=λb hb=>ou W ⟨R,0,none⟩ _ b hb;have hRB:=h.hR;exact h.wJ ae (lo M (p8 h.Zu)) (lo Kb (p8 h.Zt)) (λg ob hg e=>(lo g Z).trans e) (λv e=>Tj e)
def ZBo(xN:List vS)(st:Aj)(ps:List vS):Bool:=Zyw ps.length&&(Zps xN st.names (ps.getD 0 [])&&((zn (ps.drop 1)).all (Vr xN)&&decide ((zn (ps.drop 1)).map (·.1)).Nodup))
def ZkI(xN:List vS)(st:Aj)(p:vS)(ps:List vS):Option Aj:=
 if p=Zz6 then(if ZBo xN st ps then some ⟨st.all,some (ps.getD 0 [],⟨Di (zn (ps.drop 1)), []⟩)⟩else none)
 else if p=Zz5 then(match st.last with
  |none=>none
  |some t=>if ps.length=t.2.wu.length/\t.2.rows.length<12 then(Yb ps t.2.wu).map λvs=>⟨st.done,some (t.1,⟨t.2.wu,t.2.rows++ [vs]⟩)⟩else none)
 else none
def Ye(xN:List vS)(st:Aj)(x:vS):Option Aj:=match fieldsOf x with
 |none=>none
 |some []=>some st
 |some (p::ps)=>ZkI xN st p ps
def ZZ7{p:Prop}(h:p:=by
 go_wp2_with fail;refine HT.out.mono ?_;rintro e W' ⟨rfl,h3,h4⟩;have H3:=vR h3;clear h3;go_wp2;go_end0;exact⟨rfl,⟨_,H3.out⟩,(Mj.vZ (wE.mono xX)).trans h4⟩):p:=h
def ZVu(B R M Kb)(xN)(line)(st Jr)(Ts)(x)(W)(hx:x.length<=90000)(hI:J5 B R M Kb xN line st Ts W)(hz:Ye xN st x=some Jr):
  Calls prog 33 #[.pointer (some ⟨R,0,none⟩),.string ⟨x.toArray⟩] W λe W'=>e= .returned (.tuple #[])/\(∃Ts',J5 B R M Kb xN line Jr Ts' W')/\Mj B R M W W':=by
 have c0:W.cell? ⟨R,0,none⟩=some (.int .i64 line):=by
  obtain⟨B1,v,_,_,_,hR,_⟩:=hI.last;simp[World.cell?,hR]
 have xX:=hI.hB;have HZ:=vR hz;clear hz;go_enter func33,ntmps33;go_wp2_with fail;refine(ZRP R line x _ hx c0).mono ?_;intro e W1 hf;have hz:=HZ.out;unfold Ye at hz;cases hfo:fieldsOf x with
 |none=>rw[hfo]at hz;cases hz
 |some l=>
  rw[hfo]at hf hz;obtain⟨v,rfl,wD,wE⟩:=hf;obtain⟨NS,hlen⟩:=ZHY hfo;have hI1:=hI.below wE;cases l with
  |nil=>
   cases hz;clear hfo HZ;obtain⟨a,c,rfl⟩:=Zgl wD;clear wD;go_wp2;exact oZ (rO rfl _ _ _) rfl ⟨rfl,⟨Ts,hI1⟩,Mj.vZ (wE.mono xX)⟩
  |cons p ps=>
   have HZP:Hid (ZkI xN st p ps=some Jr):=hz;clear hfo hz HZ;obtain⟨g,cap,cur,rfl,hgB,hgh,yV,Aa,Fp,MK⟩:∃g cap cur,v= .slice (some ⟨g,0,none⟩) (ps.length+1) cap/\W.heap.size<=g/\W1.heap[g]? =some (.cells cur 9)/\ps.length+1<=cap/\cap<=maxLen/\cur.size=cap*1/\cur.toList.take ((ps.length+1)*1)=(p::ps).map Ij:=by
    rcases wD.2 with⟨_,h0⟩|h0
    ·simp at h0
    ·exact h0
   have Zi0:∀i (h:i<(p::ps).length),W1.cell? ⟨g,i,none⟩=some (Ij (p::ps)[i]):=by
    intro i h;have:=wD.cells (g:=g) rfl i (Ij (p::ps)[i]) (by rw[rP,oW h];rfl);exact mV
   have Ch:W1.cell? ⟨g,0,none⟩=some (.string ⟨p.toArray⟩):=Zi0 0 ae;have HC:Hid (∀i (h:i<ps.length),W1.cell? ⟨g,1+i,none⟩=some (Ij ps[i])):=λi h=>by
    have:=Zi0 (i+1) (by simp;exact h);rw[Nat.add_comm 1 i];exact this
   simp only[List.length_cons]at hlen;have HM:Hid (∀y∈ps,y.length<=90000/\y≠ []):=λy hy=>⟨by have:=(NS y (qb _ hy)).2;omega,(NS y (qb _ hy)).1⟩;have II:ps.length<=90000:=Z
   clear Zi0 NS wD hgh Fp MK;have HI1:=vR hI1;by_cases ht:p=Zz6
   ·have h1:=HZP.out;unfold ZkI at h1;rw[nY ht]at h1;split at h1
    ·rename_i hzt;cases h1;unfold ZBo at hzt;simp only[oJ,oL]at hzt;obtain⟨z1,z2,z3,z4⟩:=hzt;cases ps with
     |nil=>cases z1
     |cons y l=>
      have HT:=vR (ZVx B R M Kb xN line st Ts g 1 (cap-1) y l W1 (λa ha=>(HM.out a ha).1) (by simp at II;omega) (by simp at yV;omega) Z HI1.out HC.out z1 z2 ⟨z3,z4⟩);have SV:(p== [116,97,98,108,101])=true:=by rw[ht];rfl
      have O3:¬cap=1:=by simp at yV;omega
      clear z1 z2 z3 z4 ht HZP HC HM hI1 HI1 hI;simp only[List.length_cons]at *;exact ZZ7
    ·cases h1
   ·have h1:=HZP.out;unfold ZkI at h1;rw[nU ht]at h1;by_cases hr:p=Zz5
    ·rw[nY hr]at h1;cases hls:st.last with
     |none=>rw[hls]at h1;cases h1
     |some t=>
      rw[hls]at h1;simp only at h1;split at h1
      ·rename_i hc;cases IJ:Yb ps t.2.wu with
       |none=>rw[IJ]at h1;cases h1
       |some vs=>
        rw[IJ]at h1;cases h1;have ZfN:0<ps.length:=by
         obtain⟨B1,v,_,_,_,_,hv⟩:=hI1.last;unfold YN at hv;rw[hls]at hv;obtain⟨T,_,_,hT⟩:=hv;have:=hT.pos;omega
        have ZxI:ZA4 W1 (.slice (some ⟨g,1,none⟩) ps.length (cap-1)) ps:=⟨_,_,rfl,λi h=>⟨g,1,rfl,HC.out i h⟩⟩;have HT:=vR (ZVv B R M Kb xN line st Ts t.1 t.2 _ ps vs W1 HM.out HI1.out hls ZxI hc.1 hc.2 IJ);have SV:(p== [116,97,98,108,101])=false:=by rw[hr];rfl
        have Dw:(p== [114,111,119])=true:=by rw[hr];rfl
        have O3:¬cap=1:=Z
        clear IJ hc ht hr HZP HC HM hI1 HI1 hI ZxI hls;exact ZZ7
      ·cases h1
    ·rw[nU hr]at h1;cases h1
section
open Go.Shelf
attribute [local go_sem] Oper.semAt_some
def IX(xN:List vS):Aj->List vS->Option Aj
 |st, []=>some st
 |st,x::r=>(Ye xN st x).bind λJr=>IX xN Jr r
theorem ZBn(xN)(x):∀pre st Rk st2,IX xN st pre=some Rk->Ye xN Rk x=some st2->IX xN st (pre++ [x])=some st2
 | [],st,Rk,st2,h1,h2=>by
  rw[IX]at h1;cases h1;simp[IX,h2]
 |y::pre,st,Rk,st2,h1,h2=>by
  rw[IX]at h1;rw[List.cons_append,IX];cases hc:Ye xN st y with
  |none=>rw[hc]at h1;cases h1
  |some Jr=>rw[hc]at h1;exact ZBn xN x pre Jr Rk st2 h1 h2
theorem ZBm(xN)(x)(post):∀pre st Rk VC,IX xN st pre=some Rk->IX xN st (pre++x::post)=some VC->∃Jr,Ye xN Rk x=some Jr
 | [],st,Rk,VC,h1,h2=>by
  rw[IX]at h1;cases h1;rw[List.nil_append,IX]at h2;cases hc:Ye xN st x with
  |none=>rw[hc]at h2;cases h2
  |some Jr=>exact⟨Jr,rfl⟩
 |y::pre,st,Rk,VC,h1,h2=>by
  rw[IX]at h1;rw[List.cons_append,IX]at h2;cases hc:Ye xN st y with
  |none=>rw[hc]at h1;cases h1
  |some Jr=>rw[hc]at h1 h2;exact ZBm xN x post pre Jr Rk VC h1 h2
def ZVb(st:Aj)(n0:Nat)(W:World)(e:Ending)(W':World):Prop:=
 Below n0 W W'/\∃M,e= .returned (.map (some M))/\n0<=M/\∃B,n0<=B/\∃Ts,Ts.length=st.names.length/\JS W' M st.names.length (VN st.names Ts)/\∀i (h:i<st.all.length) (h':i<Ts.length),Nn B W' Ts[i] st.all[i].2
def ZVa{B1:Nat}{st:Aj}{v}(Ei:B<=B1)(Hq:∀i (h:i<st.done.length) (h':i<Ts.length),ZqY B B1 W Ts[i] st.done[i].2)(hl:YN B1 W st Ts v){i:Nat}(h:i<st.all.length)(h':i<Ts.length):Nn B W Ts[i] st.all[i].2:=by
 by_cases vR:i<st.done.length
 ·rw[Zsh st i h vR];exact Hq i vR h' W (λg ob _ _ e=>e)
 ·unfold YN at hl;cases hlt:st.last with
  |none=>
   have:st.all.length=st.done.length:=by unfold Aj.all;rw[hlt];simp
   omega
  |some t=>
   rw[hlt]at hl;obtain⟨T,_,hTs,hTZ⟩:=hl;have QF:i=st.done.length:=by
    have h7:st.all.length=st.done.length+1:=by unfold Aj.all;rw[hlt];simp
    omega
   subst QF;rw[Zsi st t hlt h,show Ts[st.done.length]=T from by rw[oW h']at hTs;exact oN hTs];exact hTZ.wJ Ei (λg ob _ e=>e)
structure Zbr (N R Kb Bs:Nat) (pre:List vS) (w5 A:World):Prop where
 st:∃st Ts,IX IP ⟨[],none⟩ pre=some st/\J5 (w5.heap.size+2) R N Kb IP pre.length st Ts A
 os:A.os=w5.os
 tape:A.tape=w5.tape
 output:A.output=w5.output
 size:w5.heap.size+2<=A.heap.size
 wJ:∀b,b<w5.heap.size->b≠R->b≠N->b≠Bs->A.heap[b]? =w5.heap[b]?
def Zbr.same{N R Bs}{pre}{w5 A}{A':World}(h:Zbr N R Kb Bs pre w5 A)(hs:A.heap.size<=A'.heap.size)(h1:A'.os=A.os)(h2:A'.tape=A.tape)(h3:A'.output=A.output)(Zt:R<w5.heap.size/\N<w5.heap.size/\Kb<w5.heap.size/\R≠Bs/\N≠Bs/\Kb≠Bs)(MF:Bs<w5.heap.size)(hb:∀b,b<A.heap.size->b≠Bs->b≠w5.heap.size+1->b≠w5.heap.size->A'.heap[b]? =A.heap[b]?):Zbr N R Kb Bs pre w5 A':=by
 obtain⟨st,Ts,yI,hI⟩:=h.st;have yA:=h.size;refine⟨⟨st,Ts,yI,hI.wJ hs (hb N Z Z Z Z) (hb Kb Z Z Z Z) (λg ob hg e=>(hb g (wo e) Z Z Z).trans e) (λv e=>(hb R Z Z Z Z).trans e)⟩,h1.trans h.os,h2.trans h.tape,h3.trans h.output,om yA hs,λb yz Af z8 GD=>(hb b Z GD Z Z).trans (h.wJ b yz Af z8 GD)⟩
def ZZ8{p:Prop}(h:p:=by
 have:=(GA.wJ (R+1) Z Z Z Z).trans ZiI;simp[World.cell?,this]):p:=h
def ZVc(s)(W)(VC)(hs:s.length<=4000)(hS:I5 W)(hG:13<=W.heap.size)(hz:IX IP ⟨[],none⟩ (EW s)=some VC):
  Calls prog 15 #[.string ⟨s.toArray⟩] W λe W'=>ZVb VC W.heap.size W e W':=by
 have HZ:=vR hz;clear hz;have Z0:=@run_makeMap prog;have BD:∀(fn:Fn) (first cap:Array Value) (w:World),(Instr.makeFunc fn first cap).run prog w= .ok (.func fn first cap) w:=λ_ _ _ _=>rfl;have hlen:¬(4000:Int)<(s.length:Int):=Z
 refine WE func15 rfl ?_;simp only[ntmps15,qf,List.length_cons,List.length_nil,Nat.reduceAdd,Nat.reduceSub,qg,Array.replicate_zero,qh,qj,List.nil_append,List.cons_append];refine Ag (AJ ?_);go_wp2;refine Ag (AJ ?_);go_wp2;refine Ag (AJ ?_);go_wp2_with fail;refine(ZUD _ (hS.below ((nW _ W).alloc (nV _) _) hG)).mono ?_;rintro e w2 ⟨rfl,hK,wK,Pp⟩;go_wp2;refine Ag (Ag (AJ ?_));go_wp2_with fail;refine(ZAt s _ Z).mono ?_;rintro e w3 ⟨rfl,wH⟩;go_wp2;refine VM ?_;have UE:(W.alloc (.map #[] 0)).heap.size=W.heap.size+1:=ae
 try unfold vV at *
 rw[UE]at hK wK Pp;obtain⟨R,hRe⟩:∃R,w2.heap.size=R:=⟨_,rfl⟩;rw[hRe]at Pp wH ⊢;have EL:((w2.alloc (.cells #[.int .i64 0,.map (some W.heap.size),.pointer none,.map (some (W.heap.size+1))] 90)).alloc (.cells #[.pointer (some ⟨R,0,none⟩)] 85)).heap.size=R+2:=by simp;omega
 rw[EL]at wH;have C8:R+2<=w3.heap.size:=by have:=wH.size;rw[EL]at this;exact this
 have lo3:=λb (hb:b<R)=>(wH.block b Z).trans ((ow _ _ b ah).trans (ow _ _ b Z));have D7:w3.heap[R]? =some (.cells #[.int .i64 0,.map (some W.heap.size),.pointer none,.map (some (W.heap.size+1))] 90):=by
  refine(wH.block R Z).trans ((ow _ _ R ah).trans ?_);rw[<-hRe];exact oK w2 _
 have Zvr:w3.heap[R+1]? =some (.cells #[.pointer (some ⟨R,0,none⟩)] 85):=by
  refine(wH.block (R+1) Z).trans ?_;have:=oK (w2.alloc (.cells #[.int .i64 0,.map (some W.heap.size),.pointer none,.map (some (W.heap.size+1))] 90)) (.cells #[.pointer (some ⟨R,0,none⟩)] 85);rw[qo,hRe]at this;exact this
 have hM3:=(lo3 _ Z).trans ((wK.block _ Z).trans (oK W _));have xP:=IM hK (lo3 _ Z);have Sr:vV W w3:=by
  have h1:=((nW _ W).alloc (nV _) _).trans (wK.mono Z);have h2:vV W ((w2.alloc (.cells #[.int .i64 0,.map (some W.heap.size),.pointer none,.map (some (W.heap.size+1))] 90)).alloc (.cells #[.pointer (some ⟨R,0,none⟩)] 85)):=(h1.alloc Z _).alloc ah _;exact h2.trans (wH.mono Z)
 obtain⟨w5,BG⟩:∃w5,((w3.alloc (.cells #[.string ⟨s.toArray⟩] 9)).alloc (.cells #[.string ⟨#[10]⟩] 9)).alloc (.cells #[.int .i64 0] 3)=w5:=⟨_,rfl⟩;rw[BG];have Az:w5.heap.size=w3.heap.size+3:=by rw[<-BG];simp
 have k0:w5.heap[w3.heap.size]? =some (.cells #[.string ⟨s.toArray⟩] 9):=by rw[<-BG];exact(VI w3.heap _ _ _).1
 have k1:w5.heap[w3.heap.size+1]? =some (.cells #[.string ⟨#[10]⟩] 9):=by rw[<-BG];exact(VI w3.heap _ _ _).2.1
 have k2:w5.heap[w3.heap.size+2]? =some (.cells #[.int .i64 0] 3):=by rw[<-BG];exact(VI w3.heap _ _ _).2.2
 have lo5:∀b,b<w3.heap.size->w5.heap[b]? =w3.heap[b]? :=λb hb=>by
  rw[<-BG];exact(ow _ _ b ah).trans ((ow _ _ b ah).trans (ow _ _ b hb))
 have yl:vV W w5:=by
  rw[<-BG];exact((Sr.alloc Z _).alloc ah _).alloc ah _
 have MJ:=(lo5 R Z).trans D7;have ZiI:=(lo5 (R+1) Z).trans Zvr;have hM5:=(lo5 W.heap.size Z).trans hM3;have AO:=IM xP (lo5 _ Z);clear BG lo3 D7 Zvr hM3 xP Sr lo5 hK wK wH EL hRe UE;obtain⟨Bs,MF⟩:∃Bs,w3.heap.size=Bs:=⟨_,rfl⟩;rw[MF]at C8 Az k0 k1 k2;have ZfT:R<w5.heap.size/\W.heap.size<w5.heap.size/\W.heap.size+1<w5.heap.size/\R≠Bs/\W.heap.size≠Bs/\W.heap.size+1≠Bs:=Z
 have ZeM:Bs<w5.heap.size:=Z
 have low:∀pre A,Zbr W.heap.size R (W.heap.size+1) Bs pre w5 A->vV W A:=λpre A h=>
  ⟨h.os.trans yl.os,h.tape.trans yl.tape,h.output.trans yl.output,by have:=h.size;omega,λb hb=>(h.wJ b Z Z Z Z).trans (yl.block b hb)⟩
 have Za8:=vR low;have zQ:=ZER s;clear low hS;refine ZUU Bs (Bs+1) (Bs+2) s (λpre A=>Zbr W.heap.size R (W.heap.size+1) Bs pre w5 A) (λ_ _=>False)
  func15 (by rw[<-MF];rfl) rfl Z Z Z (by simp[World.cell?,k0]) (by simp[World.frozen?,k0]) (by simp[World.cell?,k1]) fU ?_ ?_ ?_ ?_ ?_ ?_
 ·intro pre A v h;exact h.same ae rfl rfl rfl ZfT ZeM (λb _ hb _ _=>ou A ⟨Bs,0,none⟩ v b hb)
 ·intro pre A n h;have hd:=Nq (nW A.heap.size A) n;exact h.same hd.size hd.os hd.tape hd.output ZfT ZeM (λb _ _ _ _=>by rw[heap_drewN])
 ·have lo:∀b,b<w5.heap.size->∀(tmps:Array Value) (ps:Array Tmp) (I8 bd:Code),(Dz w5 15 tmps ps I8 bd).heap[b]? =w5.heap[b]? :=λb hb _ _ _ _=>Rc hb;have ZoX:∀(tmps:Array Value) (ps:Array Tmp) (I8 bd:Code),(Dz w5 15 tmps ps I8 bd).heap.size=w5.heap.size+2:=λ_ _ _ _=>by simp[Dz]
  refine⟨⟨⟨[],none⟩, [],rfl,⟨Z,Z,Z,Z,Z,Z,?_,List.nodup_nil,?_,?_,rfl,ZA2 ((lo _ Z ..).trans hM5),w5.heap.size+2,_,nV _,?_,λi h=>ax,(lo R Z ..).trans MJ,rfl⟩⟩,rfl,rfl,rfl,?_,λb hb _ _ _=>lo b hb ..⟩
  ·rw[ZoX];exact jo
  ·exact⟨#[],0,(lo _ Z ..).trans hM5,⟨ae,MapKept.stamped_empty 0,ae⟩,nV _,rfl⟩
  ·exact IM AO (lo _ Z ..)
  ·rw[ZoX];exact jo
  ·rw[ZoX];exact jo
 ·intro pre x post A rb A2 hJ hl xK hL hD;have GA:=hJ.same (qp xK.size.symm) xK.os xK.tape xK.output ZfT ZeM (λb _ _ hb _=>xK.block b hb);obtain⟨st,Ts,yI,hI⟩:=GA.st;have yz:A2.cell? ⟨R+1,0,none⟩=some (.pointer (some ⟨R,0,none⟩)):=by
   exact ZZ8
  obtain⟨B1,v,Ei,Sq,Hq,hR,SI⟩:=hI.last;have c0:=xH hR;have f0:A2.frozen? ⟨R,0,none⟩=false:=by simp[World.frozen?,hR]
  have Dx:x.length<=90000:=by
   have:=ZES (s:=s) (x:=x) (by rw[<-hl];simp);omega
  have Br:pre.length+1<=4001:=by
   have:=congrArg List.length hl;exact nN
  have z8:(A2.setCell ⟨R,0,none⟩ (.int .i64 (pre.length+1))).cell? ⟨R+1,0,none⟩=some (.pointer (some ⟨R,0,none⟩)):=yP (ou A2 ⟨R,0,none⟩ _ (R+1) (by show R+1≠R;omega)) yz;have V3:Hid (A2.heap[Bs]? =A.heap[Bs]?/\A2.heap[Bs+1]? =A.heap[Bs+1]?/\A2.heap[Bs+2]? =A.heap[Bs+2]?):=⟨xK.block _ Z,xK.block _ Z,xK.block _ Z⟩;have Rz:=vR GA;have HL2:=vR hL;have FL:=vR hD;have Ip:=vR yI;obtain⟨Jr,QY⟩:=ZBm IP x post pre _ st VC yI (by rw[hl];exact HZ.out);have ZrH:=vR QY;clear QY;have hI3:J5 (w5.heap.size+2) R W.heap.size (W.heap.size+1) IP (pre.length+1) st Ts (A2.setCell ⟨R,0,none⟩ (.int .i64 (pre.length+1))):=hI.line;have HI3:=vR hI3;have ZX0:=GA.size;clear hJ GA yI hI hR hl xK hL hD hI3 Hq SI Ei Sq k0 k1 k2 MJ ZiI hM5 AO;refine Ie rfl aA ?_;go_wp2;try refine⟨trivial,?_⟩
  refine vG ?_;refine vF ?_;refine Ie rfl aA ?_;go_wp2;have Xt:vV W (A2.setCell ⟨R,0,none⟩ (.int .i64 (pre.length+1))):=(Za8.out pre A2 Rz.out).setCell (p:=⟨R,0,none⟩) (show W.heap.size<=R by omega) _;refine Ie rfl aA ?_;go_wp2_with fail;refine(ZVu (w5.heap.size+2) R W.heap.size (W.heap.size+1) IP (pre.length+1) st Jr Ts x _ Dx HI3.out ZrH.out).mono ?_;rintro e A4 ⟨rfl,⟨Ts',h3⟩,h4⟩
  ·have H3:=vR h3;clear h3;go_wp2;have lo4:=λb (hb:b<w5.heap.size+2) (h1:b≠R) (h2:b≠W.heap.size)=>(h4.block b hb h1 h2).trans (ou A2 ⟨R,0,none⟩ _ b h1);have hs4:A2.heap.size<=A4.heap.size:=by have:=h4.size;simp at this;exact this
   have hJ4:Zbr W.heap.size R (W.heap.size+1) Bs (pre++ [x]) w5 A4:=by
    refine⟨⟨Jr,Ts',ZBn IP x pre _ st Jr Ip.out ZrH.out,?_⟩,h4.os.trans Rz.out.os,h4.tape.trans Rz.out.tape,h4.output.trans Rz.out.output,Z,λb yz Af z8 GD=>(lo4 b Z Af z8).trans (Rz.out.wJ b yz Af z8 GD)⟩;rw[o6,List.length_singleton];exact H3.out
   refine⟨(lo4 _ Z Z Z).trans HL2.out,(lo4 _ Z Z Z).trans FL.out,λA' hO=>⟨?_,?_,?_,?_⟩⟩
   ·exact hJ4.same (qp hO.size.symm) hO.os hO.tape hO.output ZfT ZeM (λb _ _ hb _=>hO.block b hb)
   ·exact(hO.block _ Z).trans ((lo4 _ Z Z Z).trans V3.out.1)
   ·exact(hO.block _ Z).trans ((lo4 _ Z Z Z).trans V3.out.2.1)
   ·exact(hO.block _ Z).trans ((lo4 _ Z Z Z).trans V3.out.2.2)
 ·intro A A2 hJ xK hD;have GA:=hJ.same (qp xK.size.symm) xK.os xK.tape xK.output ZfT ZeM (λb _ _ hb _=>xK.block b hb);obtain⟨st,Ts,yI,hI⟩:=GA.st;have yz:A2.cell? ⟨R+1,0,none⟩=some (.pointer (some ⟨R,0,none⟩)):=by
   exact ZZ8
  obtain⟨B1,v,Ei,Sq,Hq,hR,SI⟩:=hI.last;have c1:=zS hR;have HB:=vR (Za8.out _ A2 GA);have hsF:st=VC:=by rw[HZ.out]at yI;exact(oN yI).symm
  subst hsF;have HTM:Hid (∃Ts,Ts.length=st.names.length/\JS A2 W.heap.size st.names.length (VN st.names Ts)/\∀i (h:i<st.all.length) (h':i<Ts.length),Nn (w5.heap.size+2) A2 Ts[i] st.all[i].2):=⟨Ts,hI.tl,hI.val,λi h h'=>ZVa Ei Hq SI h h'⟩;have FL:=vR hD;clear hJ GA yI hI hR xK hD k0 k1 k2 MJ ZiI hM5 AO Hq SI Ei Sq;refine AJ ?_;go_wp2;have BQ:=HB.out;have y1:=FL.out;try rw[Az]at y1
  refine Zaq (v:=.map (some W.heap.size)) y1 (by simp[results,Tryz.results15]) ⟨?_,_,rfl,nV _,w5.heap.size+2,Z,?_⟩;rotate_left
  ·obtain⟨Ts,t1,t2,t3⟩:=HTM.out;exact⟨Ts,t1,Il t2 (pF Z),λi h h'=>(t3 i h h').wJ (nV _) (λg ob hg e=>(pF Z).trans e)⟩
  exact jC
 ·intro ch A h;exact h.elim
end
end Go.Proofs.YtncnkiabjhhclaaGreatDoor
