import Derived.Test.YtncnkiabjhhclaaGreatDoorBgJa12
set_option maxRecDepth 100000
set_option maxHeartbeats 8000000
set_option linter.all false
namespace Go.Proofs.YtncnkiabjhhclaaGreatDoor
open Go.Proofs.Tryz
def vz:=@Go.wpAnyH_ready
def vB:=@Go.AllReadyH.cons
def vC:=@Go.AllReadyH.nil
def vD:=@Go.wpAnyH_done
def vF:=@Go.wpIn_seq
def pG:=@Go.wp_region_held_drew
def vG:=@Go.wpIn_block
open Go.RowKit
open Go.Shelf
attribute [local go_sem] Oper.semAt_some
def Zps(xN names:List vS)(x:vS):Bool:=SY xN x&& !names.contains x&&decide (names.length<8)
def Zsh(st:Aj)(i)(h:i<st.all.length)(hd:i<st.done.length):st.all[i]=st.done[i]:=by simp[Aj.all,pJ hd]
def Zsi(st:Aj)(t:vS×Qd)(hl:st.last=some t)(h:st.done.length<st.all.length):st.all[st.done.length]=t:=by simp[Aj.all,hl]
def ZZ4{p:Prop}(h:p:=by
 go_simp;refine hK.out _ _ ?_ (λwL=>?_)
 ·refine⟨?_,?_,?_⟩<;>go_keep
 clear hK K;refine vz (rs:= [7]) af ae (vB rfl (λK hK=>?_) vC);refine qz _ rfl _ _ 114 rfl (W.heap.size+8) 119 i0 (.agg #[.string ⟨#[]⟩,.int .i64 0]) 2 24 underlying114 hi hz0 yo hz2 rfl O (.slice ac k cc) k (Dt (Di ((zn l).take k))) rfl (by exact t28.alloc _) ⟨w8.heap.size,0,none⟩ 1 1 [.string ⟨nm.toArray⟩,.int .i64 t] rfl rfl (by exact ZhX _ _ _ _) au Z aj Z ah _ rfl ?_;intro g' zY w9 zm xQ ZW ZY;have Jm:=λb (hb:b<w8.heap.size) (wF:(b<W.heap.size+8\/A2.heap.size<=b))=>(xQ.block b ah (Mc.out b wF)).trans (ow _ _ b hb);have L8:=λb j (hb:b<w8.heap.size) (wF:(b<W.heap.size+8\/A2.heap.size<=b))=>pK (a:=⟨b,j,none⟩) (Jm b hb wF);have Q8:=(L8 (W.heap.size+3) 0 Z Z).trans Vp;have Q9:=(L8 Cc 0 Z Z).trans Vs;have Ra:=(L8 Cc 1 Z Z).trans Vt;have Lt:=(Jm (W.heap.size+2) Z Z).trans t18;obtain⟨z0,z1,z2,zf⟩:=OM Lt;have zf0:=zf 0;refine hK.out _ _ ⟨Q8,Q9,Ra⟩ (λwL=>?_);clear hK K;refine tk 8 ?_;refine tk 9 ?_;refine vz (rs:= [10]) af ae (vB rfl (λK hK=>?_) vC);go_simp;refine hK.out _ _ ⟨yP (ou w9 ⟨W.heap.size+2,0,none⟩ _ (W.heap.size+3) (by show W.heap.size+3≠W.heap.size+2;omega)) Q8,yP (ou w9 ⟨W.heap.size+2,0,none⟩ _ Cc (by show Cc≠W.heap.size+2;omega)) Q9,yP (ou w9 ⟨W.heap.size+2,0,none⟩ _ Cc (by show Cc≠W.heap.size+2;omega)) Ra⟩ (λwL=>?_);clear hK K;refine vD af ?_ _;have hs9:w8.heap.size<=w9.heap.size:=by have:=xQ.size;simp at this;omega
 have Yo:=(show vV W (w8.alloc (.cells #[.string ⟨nm.toArray⟩,.int .i64 t] 119)).drew from by
   have h6:=Lc.out.alloc Z (.cells #[.string ⟨nm.toArray⟩,.int .i64 t] 119);exact⟨h6.os,h6.tape,h6.output,h6.size,h6.block⟩).grown xQ ah (λb e=>by have:=(t28.lt b e).1;omega)
 have Yn:=Yo.setCell (p:=⟨W.heap.size+2,0,none⟩) (show W.heap.size<=W.heap.size+2 by omega) (.slice (some ⟨g',0,none⟩) (k+1) zY);have Cw:∀b,b<W.heap.size+8->b≠W.heap.size+1->b≠W.heap.size+2->(w9.setCell ⟨W.heap.size+2,0,none⟩ (.slice (some ⟨g',0,none⟩) (k+1) zY)).heap[b]? =A4.heap[b]? :=λb hb h1 h2=>
  (ou w9 ⟨W.heap.size+2,0,none⟩ _ b h2).trans ((Jm b Z (.inl hb)).trans (ZdD.out b Z h1))
 have QL:(w9.setCell ⟨W.heap.size+2,0,none⟩ (.slice (some ⟨g',0,none⟩) (k+1) zY)).heap[W.heap.size+1]? =w8.heap[W.heap.size+1]? :=(ou w9 ⟨W.heap.size+2,0,none⟩ _ (W.heap.size+1) (by show W.heap.size+1≠W.heap.size+2;omega)).trans (Jm _ Z Z);have ZA:J3 W.heap.size R g o cap xN l (k+1) W (w9.setCell ⟨W.heap.size+2,0,none⟩ (.slice (some ⟨g',0,none⟩) (k+1) zY)):=by
  have C9:=ZgI (zn l) k _ HP.out;refine⟨Yn,(Cw _ Z Z Z).trans CW.out.bR,(Cw _ Z Z Z).trans CW.out.bT,(Cw _ Z Z Z).trans CW.out.bF,(Cw _ Z Z Z).trans CW.out.b2,?_,?_,?_,⟨_,Tj Lt,?_⟩,?_⟩
  ·simp;omega
  ·have h6:=HO8.out;rw[Zaz]at h6;rw[C9,oo];exact IM h6 QL
  ·have h6:=HV8.out;have zl:(((zn l).take k).map (·.1)).length=k:=by
    have:=(qP.1 HP.out).1;simp;omega
   rw[C9,oo,oq,oF,Zkk,zl];exact Il h6 QL
  ·have h6:=ZcZ (k:=0) (u:=.slice (some ⟨g',0,none⟩) (k+1) zY) zm Lt O;rw[C9];have e6:Dt (Di ((zn l).take k++ [(nm,ty)]))=Dt (Di ((zn l).take k))++ [.string ⟨nm.toArray⟩,.int .i64 t]:=by
    unfold Dt Di;rw[oo,rQ];simp only[oq,oF,TN.out,Option.getD_some];rfl
   rw[e6];exact h6
  ·rw[C9,List.all_append,CW.out.ok];simp[Vr,TN.out,yD.out]
 have y7:=(Cw (W.heap.size+7) Z Z Z).trans Yy.out;have y6:=(Cw (W.heap.size+6) Z Z Z).trans TH.out;refine⟨by first|exact y7|(rw[Az];exact y7),by first|exact y6|(rw[Az];exact y6),λA' hO=>?_⟩;have Ls:=λb (hb:b≠W.heap.size+7)=>hO.block b (by first|exact hb|(rw[Az];exact hb));refine⟨?_,?_,?_⟩
 ·exact ZA.same (qp hO.size.symm) hO.os hO.tape hO.output (λb _ hb=>Ls b hb)
 ·exact(Ls _ Z).trans ((Cw _ Z Z Z).trans P5.out)
 ·exact(Ls _ Z).trans ((Cw _ Z Z Z).trans HG4.out)):p:=h
def ZZ5{p:Prop}(h:p:=by
 refine hK.out _ _ ⟨wT xw JD qR,wT xw Cj q0,wT xw Cj q1⟩ (λwL=>?_);clear hK K;refine vD af ?_ _;have NC:=Dq.out.grow xw;obtain⟨cv,t1,t2⟩:=Dq.out.tb;obtain⟨ac,cc,rfl⟩:=Zgl t2;have zI:=λg1 (e:(Value.slice ac k cc).ownBlock=some g1)=>t2.lt g1 e;replace t1:=(xw.block (W.heap.size+2) Z).trans t1;replace t2:=Zgk t2 xw;have Mc:Hid (∀b,(b<W.heap.size+8\/A2.heap.size<=b)->some b≠(Value.slice ac k cc).ownBlock):=by
  intro b hb e;have:=zI b e.symm;omega
 clear zI;have Yy:=vR ((xw.block _ Z).trans HL2.out);have TH:=vR ((xw.block _ Z).trans FL.out);have P5:=vR ((xw.block _ Z).trans Bz.out);have HG4:=vR ((xw.block _ Z).trans TJ.out);have hs4:=NC.sz;have ZI0:=(wo Gy);have hNc:W.heap.size+8<=Cc:=Z
 clear wL q0 q1 qR r0 r3 rK xw HL2 FL Bz TJ Dq Ay JD Cj KQ;have p3:=xH NC.bT;have p1:=zS t1;have p0:=xH t1;have pc:=xH Gy;obtain⟨w8,Gl,NY,Fs⟩:=rZ (w:=A4.drew) (val:=.int .i64 k) NC.pl K8 underlying230 aj (K7 nm Z) rfl;have hv8:=ZqJ (w:=A4.drew) (val:=.int .i64 k) (d:=nI k) NC.pv underlying230 aj (show nm.length<=100000 by omega) rfl Gl;have CW:=vR NC;clear NC;refine vF ?_;refine XW (S:=λw'=>w'.cell? ⟨W.heap.size+3,0,none⟩=some (.pointer (some ⟨W.heap.size+2,0,none⟩))/\w'.cell? ⟨W.heap.size+2,1,none⟩=some (.map (some (W.heap.size+1)))/\w'.cell? ⟨W.heap.size+2,0,none⟩=some (.slice ac k cc)/\w'.cell? ⟨Cc,0,none⟩=some (.string ⟨nm.toArray⟩)) af af aA ⟨by exact p3,by exact p1,by exact p0,by exact pc⟩ (λwL=>?_);refine tk 0 ?_;refine tk 1 ?_;refine tk 2 ?_;refine tk 3 ?_;refine tk 4 ?_;refine tk 5 ?_;refine tk 6 ?_;refine tk 7 ?_;refine tk 8 ?_;refine tk 9 ?_;refine tk 10 ?_;refine vz (rs:= [11]) af ae (vB rfl (λK hK=>?_) vC);go_simp;have Gn:∀b,b<A4.heap.size->b≠W.heap.size+1->w8.heap[b]? =A4.heap[b]? :=λb hb wF=>Fs.block b hb (λe=>wF (oN e));have Jl:=λb j (hb:b<A4.heap.size) (wF:b≠W.heap.size+1)=>pK (a:=⟨b,j,none⟩) (Gn b hb wF);refine hK.out _ _ ⟨(Jl (W.heap.size+3) 0 Z Z).trans p3,(Jl (W.heap.size+2) 1 Z Z).trans p1,(Jl (W.heap.size+2) 0 Z Z).trans p0,(Jl Cc 0 Z Z).trans pc⟩ (λwL=>?_);clear hK K;refine vD af ?_ _;have Vp:=(Jl (W.heap.size+3) 0 Z Z).trans p3;have p08:=(Jl (W.heap.size+2) 0 Z Z).trans p0;have Vs:=(Jl Cc 0 Z Z).trans pc;have Vt:w8.cell? ⟨Cc,1,none⟩=some (.int .i64 t):=(Jl Cc 1 Z Z).trans (by simp[World.cell?,Gy]);have hs8:A4.heap.size<=w8.heap.size:=Fs.size;have t18:=(Gn _ Z Z).trans t1;have t28:w8.ownsRow (W.heap.size+8) 119 2 (.slice ac k cc) k (Dt (Di ((zn l).take k))):=by
  refine⟨t2.1,?_⟩;rcases t2.2 with h0|⟨g1,Cr,Au,e1,Fq,DK,r1⟩
  ·exact jg
  ·exact .inr ⟨g1,Cr,Au,e1,Fq,(Gn g1 (wo DK) Z).trans DK,r1⟩
 have HO8:=vR NY;have HV8:=vR hv8;have ZdD:=vR Gn;have Lc:=vR ((show vV W A4.drew from ⟨CW.out.low.os,CW.out.low.tape,CW.out.low.output,CW.out.low.size,CW.out.low.block⟩).grown Fs CW.out.low.size (λb e=>dn));have ZP1:=λob=>(oD w8 ob ⟨W.heap.size+2,0,none⟩ (show W.heap.size+2<w8.heap.size by omega)).trans p08;clear wL p3 p1 p0 pc Gl NY hv8 Fs Gn Jl t1 t2 Gy;obtain⟨i0,hi,hz0,yo,hz2⟩:=oM Tryz.ZcJ;refine XW (S:=λw'=>w'.cell? ⟨W.heap.size+3,0,none⟩=some (.pointer (some ⟨W.heap.size+2,0,none⟩))/\w'.cell? ⟨Cc,0,none⟩=some (.string ⟨nm.toArray⟩)/\w'.cell? ⟨Cc,1,none⟩=some (.int .i64 t)) af af aA ⟨by exact Vp,by exact Vs,by exact Vt⟩ (λwL=>?_);refine tk 0 ?_;refine tk 1 ?_;refine tk 2 ?_;refine tk 3 ?_;refine tk 5 ?_;refine vz (rs:= [4,6]) af ae (vB rfl (λK hK=>?_) (vB rfl (λK hK=>?_) vC))
 ·go_simp;refine hK.out _ _ ⟨by exact Vp,by exact Vs,by exact Vt⟩ (λwL=>?_);clear hK K;refine vz (rs:= [6]) af ae (vB rfl (λK hK=>?_) vC);exact ZZ4
 ·go_simp;refine hK.out _ _ ?_ (λwL=>?_)
  ·refine⟨?_,?_,?_⟩<;>go_keep
  clear hK K;refine vz (rs:= [4]) af ae (vB rfl (λK hK=>?_) vC);exact ZZ4):p:=h
def ZZ6{p:Prop}(h:p:=by
 have hx:=pR.1 HGD.out.1 (nm,ty) (uu HP.out);unfold Vr at hx;rcases Iz with h|h<;>rw[h]at hx<;>simp at hx):p:=h
def ZVx(B R M Kb)(xN)(line)(st)(Ts)(g o cap)(x)(l)(W)(hlx:∀y∈x::l,y.length<=90000)(zQ:l.length<=90000)(O3:l.length+1<=cap)(ZiZ:cap<=maxLen)(hI:J5 B R M Kb xN line st Ts W)(hv:∀i (h:i<(x::l).length),W.cell? ⟨g,o+i,none⟩=some (Ij (x::l)[i]))(hlen:Zyw (l.length+1)=true)(wQ:Zps xN st.names x=true)(Zi9:ZGw xN l):
  Calls prog 60 #[.pointer (some ⟨R,0,none⟩),.slice (some ⟨g,o,none⟩) (l.length+1) cap] W λe W'=>
   e= .returned (.tuple #[])/\J5 B R M Kb xN line ⟨st.all,some (x,⟨Di (zn l), []⟩)⟩ (Ts++ [W.heap.size+2]) W'/\Mj B R M W W':=by
 have hx:=hlx x ae;have Fu:=qw hlen;have ZW4:¬cap=1:=Z
 obtain⟨B1,v,Ei,Sq,Hq,hR,hv0⟩:=hI.last;have HGD:=vR Zi9;have HDN:=vR Hq;have c0:=xH hR;have c1:=zS hR;have c3:=KH hR;have hc:=hv 0 ae;have KR:=(wo hR);have xL:g<W.heap.size:=oH W _ hc;have xX:=hI.hB;have e1:(3:Int)<=(l.length:Int)+1:=Z
 have e2:((l.length:Int)+1)%2=1:=Z
 have e3:(l.length:Int)+1<=13:=Z
 have d1:decide ((3:Int)<=(l.length:Int)+1)=true:=by simp;omega
 have d3:decide ((l.length:Int)+1<=13)=true:=by simp;omega
 have HN:IL (W.alloc (.cells #[.pointer (some ⟨R,0,none⟩)] 85)) M st.names.length st.names:=ZjX hI.names ((nW _ W).alloc (nV _) _);have HK:IL (W.alloc (.cells #[.pointer (some ⟨R,0,none⟩)] 85)) Kb 100 xN:=ZjX hI.keys ((nW _ W).alloc (nV _) _);have c0a:=λo=>(oD W o ⟨R,0,none⟩ KR).trans c0;have c1a:=λo=>(oD W o ⟨R,1,none⟩ KR).trans c1;have c3a:=λo=>(oD W o ⟨R,3,none⟩ KR).trans c3;have cxa:∀ob,(W.alloc ob).cell? ⟨g,o,none⟩=some (.string ⟨x.toArray⟩):=λob=>(oD W ob ⟨g,o,none⟩ xL).trans hc;obtain⟨vd,hvd⟩:=ZOt (w:=(W.alloc (.cells #[.pointer (some ⟨R,0,none⟩)] 85)).drew) (by exact HN) x Z;have ZKY:∀w,IL w M st.names.length st.names->(Builtin.len_ #[48] 3 #[.map (some M)]).run prog w= .ok (.int .i64 st.names.length) w:=by
  intro w h;have h1:=World.ownsMap.len h underlying48 3;rw[ZAg,(Zt3 _).2 hI.nd]at h1;exact h1
 obtain⟨yU,EH,NM⟩:SY xN x=true/\st.names.contains x=false/\st.names.length<8:=by
  unfold Zps at wQ;simp only[oJ,oL,ui]at wQ;exact⟨wQ.1.1,wQ.1.2,wQ.2⟩
 rw[EH]at hvd;have HK2:=vR EH;have zP:=λw=>ZzU R Kb 100 xN x w hx;rw[yU]at zP;have Yx:=vR yU;have d8:decide ((st.names.length:Int)<8)=true:=by simp;omega
 have HI:=vR hI;have HCX:=vR hv;have HLX:=vR hlx;have Gv:=vR hv0;clear yU EH hI hv wQ hlen hc c0 c1 c3 hv0 hlx Zi9 Hq;have Z0:=@run_makeMap prog;refine WE func60 rfl ?_;simp only[ntmps60,qf,List.length_cons,List.length_nil,Nat.reduceAdd,Nat.reduceSub,qg,Array.replicate_zero,qh,qj,List.nil_append,List.cons_append];refine Ag (AJ ?_);go_wp2_with fail;refine Ag (AJ ?_);go_wp2_with fail;refine(Vw _ _).mono ?_;rintro e w3 ⟨rfl,rfl⟩;go_wp2_with fail;refine Ag (AJ ?_);go_wp2_with fail;go_region;go_wp2_with fail;refine Ag (AJ ?_);go_wp2_with fail;refine wp_region_noPanic ?_;refine pG (S:=λw'=>w'.cell? ⟨W.heap.size,0,none⟩=some (.pointer (some ⟨R,0,none⟩))/\w'.cell? ⟨g,o,none⟩=some (.string ⟨x.toArray⟩)/\w'.cell? ⟨R,1,none⟩=some (.map (some M))/\IL w' M st.names.length st.names) af (by refine⟨?_,?_,?_,?_⟩<;>first|exact HN|go_keep) (λwL=>?_);refine tk 0 ?_;refine tk 1 ?_;refine tk 2 ?_;refine tk 3 ?_;refine tk 4 ?_;refine vz (rs:= [5]) af ae (vB rfl (λK hK=>?_) vC);go_simp;go_wp2_with (go_at_call 89;refine(zP _ ?_ ?_).mono ?_;(·exact c3a _);(·exact HK);rintro e w' ⟨rfl,rfl⟩);refine hK.out _ _ ?_ (λwL=>?_)
 ·refine⟨?_,?_,?_,?_⟩<;>first|exact HN|go_keep
 clear hK K;refine tk 6 ?_;refine tk 7 ?_;refine tk 8 ?_;refine tk 9 ?_;refine tk 10 ?_;refine tk 11 ?_;refine tk 12 ?_;refine tk 13 ?_;refine tk 14 ?_;refine wpAnyH_take (i:=15) (v:=.int .i64 st.names.length) rfl af af af (λ_ _ _ h=>h) (Or.inl ⟨by rfl,?_⟩) aP ?_
 ·intro w Zz;have hl:=ZKY w Zz.2.2.2;clear Zz;go_simp
 try simp only[Act.put,pz,List.set_cons_zero,List.set_cons_succ,List.getElem_toArray,List.getElem_cons_zero,List.getElem_cons_succ]
 refine tk 16 ?_;refine tk 17 ?_;refine vz (rs:= [18]) af ae (vB rfl (λK hK=>?_) vC);go_simp;go_wp2_with (go_at_call 62;refine(Vw _ _).mono ?_;rintro e w' ⟨rfl,rfl⟩);refine hK.out _ _ ?_ (λwL=>?_)
 ·refine⟨?_,?_,?_,?_⟩<;>first|exact HN|go_keep
 clear hK K;refine vD af (NoPanic.normal ?_) _;go_wp2_with fail;refine Ag (AJ ?_);go_wp2_with fail;refine Ag (Ag (AJ ?_));go_wp2;refine VM ?_;obtain⟨w5,BG⟩:∃w5:World,((((((W.alloc (.cells #[.pointer (some ⟨R,0,none⟩)] 85)).alloc (.map #[] 0)).alloc (.cells #[.slice none 0 0,.map (some (W.heap.size+1)),.slice none 0 0] 232)).alloc (.cells #[.pointer (some ⟨W.heap.size+1+1,0,none⟩)] 88)).alloc (.cells #[.slice (some ⟨g,o+1,none⟩) l.length (cap-1)] 24)).alloc (.cells #[.int .i64 2] 3)).drew.drew=w5:=⟨_,rfl⟩;rw[BG];have Az:w5.heap.size=W.heap.size+6:=by rw[<-BG];simp
 have yl:vV W w5:=by
  have h6:vV W ((((((W.alloc (.cells #[.pointer (some ⟨R,0,none⟩)] 85)).alloc (.map #[] 0)).alloc (.cells #[.slice none 0 0,.map (some (W.heap.size+1)),.slice none 0 0] 232)).alloc (.cells #[.pointer (some ⟨W.heap.size+1+1,0,none⟩)] 88)).alloc (.cells #[.slice (some ⟨g,o+1,none⟩) l.length (cap-1)] 24)).alloc (.cells #[.int .i64 2] 3)):=
   ((((((nW _ W).alloc (nV _) _).alloc ae _).alloc ah _).alloc ah _).alloc ah _).alloc ah _
  rw[<-BG];exact jP
 have k0:w5.heap[W.heap.size]? =some (.cells #[.pointer (some ⟨R,0,none⟩)] 85):=by rw[<-BG];exact(Zda W.heap _ _ _ _ _ _).1
 have k1:w5.heap[W.heap.size+1]? =some (.map #[] 0):=by rw[<-BG];exact(Zda W.heap _ _ _ _ _ _).2.1
 have k2:w5.heap[W.heap.size+2]? =some (.cells #[.slice none 0 0,.map (some (W.heap.size+1)),.slice none 0 0] 232):=by rw[<-BG];exact(Zda W.heap _ _ _ _ _ _).2.2.1
 have k3:w5.heap[W.heap.size+3]? =some (.cells #[.pointer (some ⟨W.heap.size+2,0,none⟩)] 88):=by rw[<-BG];exact(Zda W.heap _ _ _ _ _ _).2.2.2.1
 have k4:w5.heap[W.heap.size+4]? =some (.cells #[.slice (some ⟨g,o+1,none⟩) l.length (cap-1)] 24):=by rw[<-BG];exact(Zda W.heap _ _ _ _ _ _).2.2.2.2.1
 have k5:w5.heap[W.heap.size+5]? =some (.cells #[.int .i64 2] 3):=by rw[<-BG];exact(Zda W.heap _ _ _ _ _ _).2.2.2.2.2
 clear BG;obtain⟨m,hm⟩:∃m,l.length=2*m:=⟨l.length/2,Z⟩;refine ZUT (W.heap.size+4) (W.heap.size+5) g (o+1) m (cap-1) (λk A=>J3 W.heap.size R g o cap xN l k W A) (λ_ _=>False)
  func60 rfl rfl Z Z Z ?_ ?_ (λk A n h=>h.drewN n) ?_ ?_ ?_ ?_
 ·rw[<-hm];simp[World.cell?,k4]
 ·simp[World.cell?,k5]
 ·have lo:∀b,b<W.heap.size+6->∀(tmps:Array Value) (ps:Array Tmp) (I8 bd:Code),(Dz w5 60 tmps ps I8 bd).heap[b]? =w5.heap[b]? :=λb hb _ _ _ _=>Rc Z;refine⟨?_,(lo _ Z ..).trans k0,(lo _ Z ..).trans k3,(lo _ Z ..).trans k4,(lo _ Z ..).trans k5,?_,?_,?_,⟨_,(lo _ Z ..).trans k2,pV _ _ _ _⟩,rfl⟩
  ·refine⟨yl.os,yl.tape,yl.output,?_,λb hb=>(lo _ Z ..).trans (yl.block b hb)⟩;simp[Dz];omega
  ·simp[Dz];omega
  ·refine IM (w:=w5) ?_ (lo _ Z ..);exact⟨#[],0,k1,⟨ae,MapKept.stamped_empty 0,ae⟩,nV _,rfl⟩
  ·exact Il (w:=w5) (ZA2 k1) (lo _ Z ..)
 ·intro k A rb A2 hT hk xK hL hD;have zL:=hT.same (qp xK.size.symm) xK.os xK.tape xK.output (λb _ hb=>xK.block b (by rw[Az];exact hb));have Bz:=vR (xK.block (W.heap.size+4) Z);have TJ:=vR (xK.block (W.heap.size+5) Z);have EH:2*k+1<l.length:=by omega
  obtain⟨nm,Bq⟩:∃nm,l[2*k]' Z=nm:=⟨_,rfl⟩;obtain⟨ty,EK⟩:∃ty,l[2*k+1]'EH=ty:=⟨_,rfl⟩;have HP:Hid ((zn l)[k]? =some (nm,ty)):=by
   have:=Zzs l k EH;rw[Bq,EK]at this;exact this
  have q0:A2.cell? ⟨g,o+1+2*k,none⟩=some (.string ⟨nm.toArray⟩):=by
   have h1:=HCX.out (2*k+1) ah;rw[List.getElem_cons_succ,Bq,show o+(2*k+1)=o+1+2*k from Z]at h1;exact wT zL.low xL h1
  have q1:A2.cell? ⟨g,o+1+2*k+1,none⟩=some (.string ⟨ty.toArray⟩):=by
   have h1:=HCX.out (2*k+1+1) ah;rw[List.getElem_cons_succ,EK,show o+(2*k+1+1)=o+1+2*k+1 from Z]at h1;exact wT zL.low xL h1
  have Zw7:=HLX.out nm (by rw[<-Bq];exact qb _ (oC _));have ZxB:=HLX.out ty (by rw[<-EK];exact qb _ (oC _));have qR:=xH zL.bR;have r0:A2.cell? ⟨R,0,none⟩=some (.int .i64 line):=wT zL.low KR (xH hR);have r3:A2.cell? ⟨R,3,none⟩=some (.map (some Kb)):=wT zL.low KR (KH hR);have rK:=IM HI.out.keys (zL.low.block Kb (by have:=HI.out.hK;omega));have Ay:=zL.sz;have JD:W.heap.size<A2.heap.size:=Z
  have Cj:g<A2.heap.size:=Z
  have KQ:R<A2.heap.size:=Z
  have Dq:=vR zL;have HL2:Hid (A2.heap[W.heap.size+7]? =some (.loop rb)):=by rw[Az]at hL;exact hL
  have FL:Hid (A2.heap[W.heap.size+6]? =some (.deferred (some []))):=by rw[Az]at hD;exact hD
  clear hT zL xK hL hD Bq EK EH k0 k1 k2 k3 k4 k5 wL;refine Ie rfl aA ?_;go_wp2;try refine⟨trivial,?_⟩
  refine vG ?_;refine vF ?_;refine XW (S:=λw'=>w'.cell? ⟨W.heap.size,0,none⟩=some (.pointer (some ⟨R,0,none⟩))/\w'.cell? ⟨g,o+1+2*k,none⟩=some (.string ⟨nm.toArray⟩)/\w'.cell? ⟨g,o+1+2*k+1,none⟩=some (.string ⟨ty.toArray⟩)) af af aA ⟨by exact qR,by exact q0,by exact q1⟩ (λwL=>?_);refine tk 0 ?_;refine tk 1 ?_;refine tk 2 ?_;refine tk 3 ?_;refine tk 4 ?_;refine tk 5 ?_;refine tk 6 ?_;have yx:vV A2 ((A2.alloc (.cells #[.string ⟨#[]⟩,.int .i64 0] 119)).drew):=by
   have h6:=(nW A2.heap.size A2).alloc (nV _) (.cells #[.string ⟨#[]⟩,.int .i64 0] 119);exact jP
  refine vz (rs:= [7,8]) af ae (vB rfl (λK hK=>?_) (vB rfl (λK hK=>?_) vC))
  ·go_simp;refine(ZzS R Kb 100 xN line nm ty _ Zw7 ZxB ?_ ?_ ?_).mono ?_
   ·exact r0
   ·exact r3
   ·exact rK
   rintro e w3 (⟨t,hto,wO,rfl,wH⟩|⟨Iz,b,rfl,Bj,yz,wH⟩)
   ·have TN:=vR hto;have yD:=vR wO;clear hto wO;have D6:vV A2 w3:=⟨wH.os,wH.tape,wH.output,wH.size,wH.block⟩;refine hK.out _ _ ⟨wT D6 JD qR,wT D6 Cj q0,wT D6 Cj q1⟩ (λwL=>?_);clear hK K;refine vz (rs:= [8]) af ae (vB rfl (λK hK=>?_) vC);go_simp;refine hK.out _ _ ?_ (λwL=>?_)
    ·refine⟨?_,?_,?_⟩<;>go_keep
    clear hK K;refine vz (rs:= [9]) af ae (vB rfl (λK hK=>?_) vC);go_simp;obtain⟨Cc,Zg⟩:∃Cc,w3.heap.size=Cc:=⟨_,rfl⟩;have ZI1:A2.heap.size<=Cc:=by rw[<-Zg];exact D6.size
    have xw:vV A2 (w3.alloc (.cells #[.string ⟨nm.toArray⟩,.int .i64 t] 119)):=D6.alloc D6.size _;have Gy:(w3.alloc (.cells #[.string ⟨nm.toArray⟩,.int .i64 t] 119)).heap[w3.heap.size]? =some (.cells #[.string ⟨nm.toArray⟩,.int .i64 t] 119):=oK w3 _;obtain⟨A4,Sn⟩:∃A4,w3.alloc (.cells #[.string ⟨nm.toArray⟩,.int .i64 t] 119)=A4:=⟨_,rfl⟩;rw[Sn]at xw Gy ⊢;simp only[Zg]at Gy hK ⊢;clear Sn Zg wH D6 yx;exact ZZ5
   ·have D6:vV A2 w3:=⟨wH.os,wH.tape,wH.output,wH.size,wH.block⟩;exact ZZ6
  ·go_simp;refine hK.out _ _ ⟨wT yx JD qR,wT yx Cj q0,wT yx Cj q1⟩ (λwL=>?_);clear hK K;refine vz (rs:= [7]) af ae (vB rfl (λK hK=>?_) vC);go_simp;refine(ZzS R Kb 100 xN line nm ty _ Zw7 ZxB ?_ ?_ ?_).mono ?_
   ·exact wT yx KQ r0
   ·exact wT yx KQ r3
   ·exact ZjX rK yx
   rintro e w3 (⟨t,hto,wO,rfl,wH⟩|⟨Iz,b,rfl,Bj,yz,wH⟩)
   ·have TN:=vR hto;have yD:=vR wO;clear hto wO;have D6:=yx.trans (wH.mono yx.size);refine hK.out _ _ ⟨wT D6 JD qR,wT D6 Cj q0,wT D6 Cj q1⟩ (λwL=>?_);clear hK K;have Cv:w3.heap[A2.heap.size]? =some (.cells #[.string ⟨#[]⟩,.int .i64 0] 119):=(wH.block A2.heap.size ae).trans (oK A2 _);have Ch:=xH Cv;have yV:=zS Cv;have IA:w3.frozen? ⟨A2.heap.size,0,none⟩=false:=by simp[World.frozen?,Cv]
    have Ci:w3.frozen? ⟨A2.heap.size,1,none⟩=false:=by simp[World.frozen?,Cv]
    refine vz (rs:= [9]) af ae (vB rfl (λK hK=>?_) vC);go_simp;obtain⟨Cc,Zg⟩:∃Cc,A2.heap.size=Cc:=⟨_,rfl⟩;have ZI1:A2.heap.size<=Cc:=by rw[<-Zg];exact nV _
    have xw:vV A2 ((w3.setCell ⟨A2.heap.size,0,none⟩ (.string ⟨nm.toArray⟩)).setCell ⟨A2.heap.size,1,none⟩ (.int .i64 t)):=(D6.setCell (p:=⟨A2.heap.size,0,none⟩) (nV _) _).setCell (p:=⟨A2.heap.size,1,none⟩) (nV _) _;have Gy:((w3.setCell ⟨A2.heap.size,0,none⟩ (.string ⟨nm.toArray⟩)).setCell ⟨A2.heap.size,1,none⟩ (.int .i64 t)).heap[A2.heap.size]? =some (.cells #[.string ⟨nm.toArray⟩,.int .i64 t] 119):=Tj (Tj Cv);obtain⟨A4,Sn⟩:∃A4,((w3.setCell ⟨A2.heap.size,0,none⟩ (.string ⟨nm.toArray⟩)).setCell ⟨A2.heap.size,1,none⟩ (.int .i64 t))=A4:=⟨_,rfl⟩;rw[Sn]at xw Gy ⊢;rw[Zg]at Gy ⊢;clear Sn wH D6 yx Cv Ch yV IA Ci Zg;exact ZZ5
   ·have D6:=yx.trans (wH.mono yx.size);exact ZZ6
 ·intro A A2 hT xK hD;rw[Az]at xK hD;have zL:=hT.same (qp xK.size.symm) xK.os xK.tape xK.output (λb _ hb=>xK.block b hb);have ZoI:(zn l).length=m:=by rw[Zzt];omega
  have ZxA:(zn l).take m=zn l:=oO Z;obtain⟨cv,t1,t2⟩:=zL.tb;have Br:=zL.pl;have SC:=zL.ok;have Gj:=zL.pv;rw[ZxA]at t2 Br Gj SC;have RB:=(show Hid _ from Gj);clear Gj;obtain⟨ac,cc,rfl⟩:=Zgl t2;have Ay:=zL.sz;have p0:=xH zL.bR;have p3:=xH zL.bT;have pt1:=zS t1;have pt0:=xH t1;have r0:A2.cell? ⟨R,0,none⟩=some (.int .i64 line):=wT zL.low KR (xH hR);have hRA:=(zL.low.block R KR).trans hR;have r1:=zS hRA;have gx:A2.cell? ⟨g,o,none⟩=some (.string ⟨x.toArray⟩):=wT zL.low xL (HCX.out 0 ae);have Dq:=vR zL;have ZVE:=vR SC;have YG:=vR t1;have V9:=vR t2;have FL:=vR hD;have Zoo:∀w,IL w (W.heap.size+1) m ((zn l).map (·.1))->(Builtin.len_ #[230] 3 #[.map (some (W.heap.size+1))]).run prog w= .ok (.int .i64 (WL ((zn l).map (·.1))).length) w:=by
   intro w h;have h1:=World.ownsMap.len h underlying230 3;rw[ZAg]at h1;exact h1
  have ZK:=Zt3 ((zn l).map (·.1));rw[pY,ZoI]at ZK;have Zi5:=ZGQ ((zn l).map (·.1));rw[pY,ZoI]at Zi5;obtain⟨d,hd⟩:∃d,(WL ((zn l).map (·.1))).length=d:=⟨_,rfl⟩;rw[hd]at ZK Zi5 Zoo;clear hT zL xK hD t1 t2 SC hd k0 k1 k2 k3 k4 k5 wL;have hdm:=ZK.2 HGD.out.2;subst hdm;clear ZK Zi5;refine Ag (AJ ?_);refine wp_region_noPanic ?_;refine pG (S:=λw'=>w'.cell? ⟨W.heap.size,0,none⟩=some (.pointer (some ⟨R,0,none⟩))/\w'.cell? ⟨W.heap.size+3,0,none⟩=some (.pointer (some ⟨W.heap.size+2,0,none⟩))/\w'.cell? ⟨W.heap.size+2,1,none⟩=some (.map (some (W.heap.size+1)))/\w'.cell? ⟨W.heap.size+2,0,none⟩=some (.slice ac d cc)/\IL w' (W.heap.size+1) d ((zn l).map (·.1))) af ⟨by exact p0,by exact p3,by exact pt1,by exact pt0,by exact Br⟩ (λwL=>?_);refine tk 0 ?_;refine tk 1 ?_;refine tk 2 ?_;refine tk 3 ?_;refine tk 4 ?_;refine wpAnyH_take (i:=5) (v:=.int .i64 d) rfl af af af (λ_ _ _ h=>h) (Or.inl ⟨by rfl,?_⟩) aP ?_
  ·intro w Zz;have hl:=Zoo w Zz.2.2.2.2;clear Zz;go_simp
  try simp only[Act.put,pz,List.set_cons_zero,List.set_cons_succ,List.getElem_toArray,List.getElem_cons_zero,List.getElem_cons_succ]
  refine tk 6 ?_;refine tk 7 ?_;refine tk 8 ?_;refine tk 9 ?_;refine tk 10 ?_;refine tk 11 ?_;refine vz (rs:= [12]) af ae (vB rfl (λK hK=>?_) vC);go_simp;go_wp2_with fail;refine(Vw _ _).mono ?_;rintro e w' ⟨rfl,rfl⟩;go_wp2_with fail;refine hK.out _ _ ⟨by exact p0,by exact p3,by exact pt1,by exact pt0,by exact Br⟩ (λwL=>?_);clear hK K;refine vD af (NoPanic.normal ?_) _;have ZfN:(0:Int)<2*(d:Int)+1:=Z
  have hlM:M<W.heap.size:=by have:=HI.out.hM;omega
  obtain⟨CU,Zxi,Zw9,Zcg⟩:=rZ (w:=A2.drew.drew) (val:=.pointer (some ⟨W.heap.size+2,0,none⟩)) (show IL A2.drew.drew M st.names.length st.names from IM HI.out.names (Dq.out.low.block M hlM)) K8 underlying48 aj (K7 x Z) rfl;have ZxF:=ZqJ (w:=A2.drew.drew) (val:=.pointer (some ⟨W.heap.size+2,0,none⟩)) (d:=nP (W.heap.size+2)) (Il (w':=A2.drew.drew) HI.out.val (Dq.out.low.block M hlM)) underlying48 aj (show x.length<=100000 by omega) rfl Zxi;have ZCX:=vR ZxF;clear ZxF;clear wL;refine Ag (AJ ?_);refine wp_region_noPanic ?_;refine pG (S:=λw'=>w'.cell? ⟨W.heap.size,0,none⟩=some (.pointer (some ⟨R,0,none⟩))/\w'.cell? ⟨W.heap.size+3,0,none⟩=some (.pointer (some ⟨W.heap.size+2,0,none⟩))/\w'.cell? ⟨R,1,none⟩=some (.map (some M))/\w'.cell? ⟨g,o,none⟩=some (.string ⟨x.toArray⟩)) af ⟨by exact p0,by exact p3,by exact r1,by exact gx⟩ (λwL=>?_);refine tk 0 ?_;refine tk 1 ?_;refine tk 2 ?_;refine tk 3 ?_;refine tk 4 ?_;refine tk 5 ?_;refine tk 6 ?_;refine tk 7 ?_;refine vz (rs:= [8]) af ae (vB rfl (λK hK=>?_) vC);go_simp;have Vf:∀b,b<A2.heap.size->b≠M->CU.heap[b]? =A2.heap[b]? :=λb hb wF=>Zcg.block b hb (λe=>wF (oN e));have hcM:∀ob,A2.heap[M]? =some ob->(∃es clk,ob= .map es clk):=by
   intro ob h1;obtain⟨es,clk,h2,_⟩:=HI.out.names;rw[Dq.out.low.block M hlM,h2]at h1;exact⟨es,clk,(oN h1).symm⟩
  have hgM:g≠M:=by
   intro e;subst e;obtain⟨es,clk,h2,_⟩:=HI.out.names;have h3:=HCX.out 0 ae;simp[World.cell?,h2]at h3
  refine hK.out _ _ ⟨?_,?_,?_,?_⟩ (λwL=>?_)
  ·exact yP (Vf W.heap.size Z Z) p0
  ·exact yP (Vf (W.heap.size+3) Z Z) p3
  ·exact yP (Vf R Z HI.out.Zu) r1
  ·exact yP (Vf g Z hgM) gx
  clear hK K;refine vD af (NoPanic.normal ?_) _;have ZiG:=(Vf R Z HI.out.Zu).trans hRA;have u0:=yP (Vf W.heap.size Z Z) p0;have u3:=yP (Vf (W.heap.size+3) Z Z) p3;have ur:=KG ZiG;have uf:CU.frozen? ⟨R,2,none⟩=false:=by simp[World.frozen?,ZiG]
  have ZCA:=vR Zw9;have Zla:=vR Vf;have Zhe:Hid (CU.os=A2.os/\CU.tape=A2.tape/\CU.output=A2.output/\A2.heap.size<=CU.heap.size):=⟨Zcg.os,Zcg.tape,Zcg.output,Zcg.size⟩;have ZCO:=vR ZiG;clear wL p0 p3 r1 gx r0 Zxi Zw9 Zcg Vf hcM hRA ZiG pt1 pt0 Br Zoo;refine AJ ?_;go_wp2;have ZXY:=Zhe.out.2.2.2;have ZWW:R<A2.heap.size:=Z
  have ZI3:(CU.setCell ⟨R,2,none⟩ (.pointer (some ⟨W.heap.size+2,0,none⟩))).heap[W.heap.size+6]? =some (.deferred (some [])):=(ou CU ⟨R,2,none⟩ _ (W.heap.size+6) (by show W.heap.size+6≠R;omega)).trans ((Zla.out (W.heap.size+6) Z Z).trans FL.out);refine Zaq (v:=.tuple #[]) ZI3 (by simp[results,Tryz.results60]) ⟨rfl,?_,?_⟩
  ·have Zgb:∀b,b<A2.heap.size->b≠M->b≠R->b≠W.heap.size+6->((CU.setCell ⟨R,2,none⟩ (.pointer (some ⟨W.heap.size+2,0,none⟩))).putObj (W.heap.size+6) (.deferred none)).heap[b]? =A2.heap[b]? :=λb hb h1 h2 h3=>
    (pF h3).trans ((ou CU ⟨R,2,none⟩ _ b h2).trans (Zla.out b hb h1))
   have hKl:=HI.out.hK;have hBl:=HI.out.hB;have hMl:=HI.out.hM;have ZWX:=HI.out.hR;have zM:(Di (zn l)).length=d:=by unfold Di;rw[pY,ZoI]
   have Bq:(Aj.mk st.all (some (x,⟨Di (zn l), []⟩))).names=st.names++ [x]:=by unfold Aj.names Aj.all;simp
   have hx:∀g ob,B<=g->W.heap[g]? =some ob->((CU.setCell ⟨R,2,none⟩ (.pointer (some ⟨W.heap.size+2,0,none⟩))).putObj (W.heap.size+6) (.deferred none)).heap[g]? =some ob:=λg ob hg e=>by
    have hl:=(wo e);exact(Zgb g Z Z Z Z).trans ((Dq.out.low.block g hl).trans e)
   have hMk:((CU.setCell ⟨R,2,none⟩ (.pointer (some ⟨W.heap.size+2,0,none⟩))).putObj (W.heap.size+6) (.deferred none)).heap[M]? =CU.heap[M]? :=(pF Z).trans (ou CU ⟨R,2,none⟩ _ M (p8 HI.out.Zu));have ZXZ:A2.heap.size<=((CU.setCell ⟨R,2,none⟩ (.pointer (some ⟨W.heap.size+2,0,none⟩))).putObj (W.heap.size+6) (.deferred none)).heap.size:=by rw[X3];simp;omega
   have zW:=HI.out.tl;refine⟨HI.out.hR,HI.out.hM,HI.out.hK,HI.out.Zu,HI.out.hMK,HI.out.Zt,Z,?_,?_,?_,?_,?_,W.heap.size,.pointer (some ⟨W.heap.size+2,0,none⟩),Z,Z,λi p q=>?_,(pF Z).trans (Tj ZCO.out),?_⟩
   ·rw[Bq,List.nodup_append];refine⟨HI.out.nd,ae,?_⟩;intro a ha b hb e;have h6:=HK2.out;rw[qU]at hb;subst hb;subst e;have:=rC.2 ha;rw[h6]at this;cases this
   ·rw[Bq];have h6:=ZCA.out;rw[Zaz]at h6;rw[o6];exact IM h6 hMk
   ·exact IM HI.out.keys ((Zgb Kb Z (p8 HI.out.hMK) (p8 HI.out.Zt) Z).trans (Dq.out.low.block Kb Z))
   ·rw[Bq];simp[zW]
   ·rw[Bq];have hz:VN (st.names++ [x]) (Ts++ [W.heap.size+2])=VN st.names Ts++ [(x,nP (W.heap.size+2))]:=by unfold VN;rw[ug zW.symm];simp
    rw[hz,o6];exact Il ZCX.out hMk
   ·intro W' hW';have Xj:st.all.length=Ts.length:=by rw[zW];unfold Aj.names;rw[pY]
    have hiT:i<Ts.length:=by have:i<st.all.length:=p;omega
    rw[pJ hiT];have Xf:=λg ob (hg:B<=g) (e:W.heap[g]? =some ob)=>hW' g ob hg (wo e) (hx g ob hg e);show Nn B W' Ts[i] (st.all[i]'p).2;by_cases vR:i<st.done.length
    ·have e1:=Zsh st i p vR;rw[e1];exact HDN.out i vR hiT W' (λg ob hg _ e=>Xf g ob hg e)
    ·have hL:=Gv.out;unfold YN at hL;cases hlt:st.last with
     |none=>
      have:st.all.length=st.done.length:=by unfold Aj.all;rw[hlt];simp
      have:i<st.all.length:=p;omega
     |some t=>
      rw[hlt]at hL;obtain⟨T,_,hTs,hTZ⟩:=hL;have QF:i=st.done.length:=by
       have h7:st.all.length=st.done.length+1:=by unfold Aj.all;rw[hlt];simp
       have:i<st.all.length:=p;omega
      subst QF;have e1:=Zsi st t hlt p;have e2:Ts[st.done.length]=T:=by rw[oW hiT]at hTs;exact oN hTs
      rw[e1,e2];exact hTZ.wJ Ei (λg ob hg e=>Xf g ob (om Ei hg) e)
   ·have Xj:st.all.length=Ts.length:=by rw[zW];unfold Aj.names;rw[pY]
    refine⟨W.heap.size+2,rfl,by simp[Xj],Z,⟨.slice ac d cc,W.heap.size+1,.slice none 0 0, [],Z,(Zgb (W.heap.size+2) Z Z Z Z).trans YG.out,?_,?_,pV _ _ _ _,rfl,λi p=>by simp at p⟩,by show(Di (zn l)).length<=6;omega,by show 1<=(Di (zn l)).length;omega,ae⟩
    ·show World.ownsRow _ W.heap.size _ 2 _ (Di (zn l)).length (Dt (Di (zn l)));rw[zM];refine⟨V9.out.1,?_⟩;rcases V9.out.2 with h0|⟨g1,Cr,Au,e6,Fq,DK,r1⟩
     ·exact jg
     ·exact .inr ⟨g1,Cr,Au,e6,Z,(Zgb g1 (wo DK) Z Z Z).trans DK,r1⟩
    ·show JS _ (W.heap.size+1) (Di (zn l)).length (placesOf ((Di (zn l)).map (·.1)));rw[zM,show(Di (zn l)).map (·.1)=(zn l).map (·.1) from by unfold Di;rw[rD];rfl];exact Il RB.out (Zgb (W.heap.size+1) Z Z Z Z)
  ·refine⟨Zhe.out.1.trans Dq.out.low.os,Zhe.out.2.1.trans Dq.out.low.tape,Zhe.out.2.2.1.trans Dq.out.low.output,?_,?_⟩
   ·rw[X3];simp;have:=Dq.out.low.size;omega
   ·intro b hb h1 h2;have hBl:=HI.out.hB;exact(pF Z).trans ((ou CU ⟨R,2,none⟩ _ b h1).trans ((Zla.out b Z h2).trans (Dq.out.low.block b Z)))
 ·intro ch A h;exact h.elim
end Go.Proofs.YtncnkiabjhhclaaGreatDoor
