set_option linter.all false
namespace Go.Proofs.YtncnkiabjhhclaaGreatDoor
variable{p:Prop}
def Z(h:p:=by omega):=h
def O(h:p:=by decide):=h
def ae(h:p:=by simp):=h
def ah(h:p:=by simp;omega):=h
def ai(h:p:=by cases e):=h
def aj(h:p:=by unfold maxLen;omega):=h
def au(h:p:=by simp[Value.oneCell']):=h
def ax(h:p:=by simp at h):=h
def ay(h:p:=by simpa using h):=h
def az(h:p:=by intro t;cases t<;>decide):=h
def aA(h:p:=by rintro⟨_,_,h⟩;exact h):=h
def aB(h:p:=by simp[opened];omega):=h
def aC(h:p:=by simp only[Array.size_push];omega):=h
def aD(h:p:=by simpa using hc):=h
def aF(h:p:=by simp only[mz,Es]at *;omega):=h
def aG(h:p:=by exact FI (by omega)):=h
def aH(h:p:=by rw[parse]):=h
def aI(h:p:=by rw[HX.out];rfl):=h
def aJ(h:p:=by rw[GR e,hu]):=h
def aK(h:p:=by exact FY):=h
def aL(h:p:=by rw[List.length_drop];omega):=h
def aM(h:p:=by simp only[Array.size_push]):=h
def aN(h:p:=by simpa using hi):=h
def aO(h:p:=by repeat (first|exact GX.out|exact CG|refine yJ.alloc ?_ _|refine yJ.drew ?_|refine yJ.BX ?_ _)):=h
def aP(h:p:=by assumption):=h
def aQ(h:p:=by rw[List.cons_append,parse]):=h
def aS(h:p:=by cases h):=h
def aT(h:p:=by simp[intOf]<;>omega):=h
def aU(h:p:=by intro n;simp):=h
def aW(h:p:=by simp[parse,xU]):=h
def aX(h:p:=by simp<;>omega):=h
def aY(h:p:=by rw[wM]):=h
def aZ(h:p:=by rw[List.cons_append,wM,if_pos hu]):=h
def bq(h:p:=by simp[World.cell?,h]):=h
def bu(h:p:=by rw[parse,I7 (by omega)]):=h
def bz(h:p:=by simp[World.frozen?,hb]):=h
def bB(h:p:=by rw[h0]):=h
def bC(h:p:=by simpa using wF):=h
def bD(h:p:=by simp[e]):=h
def bE(h:p:=by simp[intOf];omega):=h
def bG(h:p:=by decide +kernel):=h
def bH(h:p:=by simpa using hk):=h
def bI(h:p:=by show _<w1.heap.size;omega):=h
def bJ(h:p:=by simpa using hg):=h
def bK(h:p:=by simpa using hm):=h
def bM(h:p:=by simp[EY]):=h
def bN(h:p:=by exact VL (by omega)):=h
def bO(h:p:=by simpa using hn):=h
def bP(h:p:=by simpa using h2):=h
def bQ(h:p:=by simpa using h1):=h
def bS(h:p:=by simpa using e):=h
def bU(h:p:=by simp only[World.cell?,ho];rfl):=h
def bV(h:p:=by first|rfl|(rw[Bool.eq_iff_iff];simp)):=h
def bY(h:p:=by simp[madeCells]):=h
def bZ(h:p:=by simp only[Array.size_setIfInBounds];omega):=h
def cB(h:p:=by rw[←h.1];exact hlt):=h
def cK(h:p:=by simp[zW]):=h
def cO(h:p:=by rw[e];simp):=h
def cZ(h:p:=by simp only[List.length_cons]at hN;omega):=h
def dh(h:p:=by rw[Wv];omega):=h
def di(h:p:=by simpa using h3):=h
def dm(h:p:=by simpa using zm):=h
def dn(h:p:=by have:=Option.some.inj e;omega):=h
def dw(h:p:=by simp[World.cell?,h1]):=h
def dz(h:p:=by rw[HV.out]):=h
def dA(h:p:=by simpa using hl):=h
def dB(h:p:=by simpa using ht):=h
def dC(h:p:=by rw[Ou];omega):=h
def dD(h:p:=by simp at hi):=h
def dE(h:p:=by simp[World.cell?,hfq]):=h
def dF(h:p:=by simp[World.cell?,hb,De]):=h
def dG(h:p:=by subst e;have:=H.out.ix.obj;rw[hb]at this;cases this):=h
def dH(h:p:=by subst e;obtain⟨es,c,h1,_⟩:=H.out.ix.wR;rw[hb]at h1;cases h1):=h
def dI(h:p:=by subst e;obtain⟨es,c,h1,_⟩:=H.out.ix.keys;rw[hb]at h1;cases h1):=h
def dJ(h:p:=by exact yX):=h
def dK(h:p:=by rw[hx];exact hk):=h
def dL(h:p:=by intro j hj;omega):=h
def dM(h:p:=by rw[Aa];rfl):=h
def dN(h:p:=by simp[Region.wanted,hg]):=h
def dO(h:p:=by simp[World.frozen?,h]):=h
def dP(h:p:=by simp [Value.oneCell', Eh]):=h
def dQ(h:p:=by unfold maxLen; (try simp only [List.length_append, List.length_cons, List.length_nil]); omega):=h
def dR(h:p:=by (try simp only [List.length_append, List.length_cons, List.length_nil]); omega):=h
def dS(h:p:=by simpa using this):=h
def dU(h:p:=by simpa using HX.out.2):=h
def dV(h:p:=by rw[HF.out];rfl):=h
def dW(h:p:=by simpa using Ck):=h
def dX(h:p:=by simpa using hs):=h
def dY(h:p:=by obtain⟨e,h1,h2,h3⟩:=hx i hi;exact⟨e,by simpa using h1,h2,by simpa using h3⟩):=h
def dZ(h:p:=by rw[HC.out];rfl):=h
def ed(h:p:=by simp[World.cell?,kk]):=h
def eu(h:p:=by simp[World.frozen?,kk]):=h
def eB(h:p:=by simp[World.cell?,hp.c]):=h
def eD(h:p:=by simp[Bf];omega):=h
def eF(h:p:=by rw[e];simp[hg]):=h
def eG(h:p:=by simp[World.cell?,hk]):=h
def eH(h:p:=by simp[World.frozen?,hk]):=h
def eO(h:p:=by simpa using q1):=h
def eP(h:p:=by simp[World.cell?,Xh,FP]):=h
def eQ(h:p:=by rw[Bf];exact h.size):=h
def eT(h:p:=by rw[HP.out];rfl):=h
def eU(h:p:=by rw[CS]at hr;omega):=h
def eX(h:p:=by revert hs;simp only[Qk,List.mem_cons,List.not_mem_nil,or_false];rintro(rfl|rfl|rfl|rfl)<;>decide):=h
def eY(h:p:=by simp[World.cell?,h2]):=h
def eZ(h:p:=by simp[World.putObj]):=h
def fe(h:p:=by simp only[first]at h ⊢;rw[h];rfl):=h
def fo(h:p:=by cases u<;>first|exact absurd hu (by decide)|rfl):=h
def fw(h:p:=by simp only[List.length_cons];omega):=h
def fA(h:p:=by have:=hB.size;simp;omega):=h
def fB(h:p:=by rw[List.drop_drop]):=h
def fC(h:p:=by have:=KL hx;omega):=h
def fD(h:p:=by rw[heap_drewN];exact h2):=h
def fE(h:p:=by rw[heap_drewN];exact h3):=h
def fF(h:p:=by show 1=ps.size;omega):=h
def fG(h:p:=by rw[X3];exact BQ.size):=h
def fH(h:p:=by rw[List.length_take];omega):=h
def fI(h:p:=by have := hB.size; simp; omega):=h
def fM(h:p:=by show Pb≠W.heap.size;omega):=h
def fO(h:p:=by simp[World.cell?,hb]):=h
def fP(h:p:=by intro n;simp[xW]):=h
def fQ(h:p:=by intro p hp n;simp at hp;rw[hp];simp):=h
def fT(h:p:=by simp[World.cell?,yY.o,vU]):=h
def fU(h:p:=by simp[World.cell?,k2]):=h
def fV(h:p:=by rw[getD_map _ _ _ hit,getD_map _ _ _ hit]):=h
def fZ(h:p:=by simp[World.cell?,yz,De]):=h
def gq(h:p:=by simp[World.cell?,Dm,vU]):=h
def gu(h:p:=by simp[results,Tryz.results443,vU]):=h
def gy(h:p:=by simp[World.frozen?,Ej]):=h
def gz(h:p:=by simp[World.cell?,ZnG,FP]):=h
def gB(h:p:=by cases e;exact hn (by simp)):=h
def gD(h:p:=by cases e2;revert ht;decide):=h
def gF(h:p:=by exact Zh1 _ _ _ _):=h
def gG(h:p:=by rw[F5]at hr;omega):=h
def gH(h:p:=by rw[List.mem_singleton.1 ht];decide):=h
def gI(h:p:=by show W0.heap.size≤sb;have:=Oz.out.low.size;omega):=h
def gJ(h:p:=by show W0.heap.size≤sb;omega):=h
def gK(h:p:=by have:=P6.out.1;omega):=h
def gL(h:p:=by have:=h (j+1) (by simp;omega);simpa using this):=h
def gM(h:p:=by simp only[List.length_cons]at hl;omega):=h
def gP(h:p:=by rw[List.cons_append,wM,hu,if_pos rfl]):=h
def gQ(h:p:=by intro e2;have:=hf u r e;rw[e2]at this;exact absurd this (by decide)):=h
def gT(h:p:=by simp only[List.length_cons,List.length_nil]at hN ⊢;omega):=h
def gU(h:p:=by intro e;have:=Option.some.inj e;omega):=h
def gV(h:p:=by injection hh with h1;injection h1 with _ h2;exact h2.symm):=h
def gW(h:p:=by rw[List.length_drop];exact Nat.le_refl _):=h
def iq(h:p:=by rcases hB with⟨rfl,_⟩|⟨_,_,h,_⟩<;>omega):=h
def iw(h:p:=by have h3:=h.wJ g ob h1 h2;rw[e,h.Bi]at h3;exact(h1 _ _ _ (Option.some.inj h3).symm).2.2 rfl):=h
def iy(h:p:=by have:=Zeo (w6.setCell ⟨b,1,none⟩ (.slice (some ⟨g6,0,none⟩) (bg.rows.length+1) c6)) (.int .i64 0) 3;rw[Bf]at this;exact this):=h
def iA(h:p:=by rw[e,hL]at he;cases he;exact hn _ rfl):=h
def iB(h:p:=by simp[Instr.loadAt,Instr.sureAddr,loadVar,Sem.run_bind,hia,load,q0,Result.andThen,Sem.run]):=h
def iC(h:p:=by cases j with|zero=>simp at h;subst h;simp[Addr.add]|succ j=>simp at h):=h
def iD(h:p:=by simpa[World.putObj]using Gu.out.size):=h
def iE(h:p:=by show w3.heap.size≠W.heap.size;omega):=h
def iF(h:p:=by subst e;rw[H.out.mem]at p1;cases p1):=h
def iG(h:p:=by simp at hm;rcases hm with rfl|rfl|rfl<;>(revert ht;decide)):=h
def iH(h:p:=by simp at hm ⊢;rcases hm with h|h|h<;>simp[h]):=h
def iI(h:p:=by first|exact yF (Below.refl _ _) 1|exact yF ((Below.refl _ w2).alloc (Nat.le_refl _) _) 1):=h
def iJ(h:p:=by show W0.heap.size≤W.heap.size+2;have:=x8.size;omega):=h
def iK(h:p:=by show W0.heap.size≤W.heap.size+1;omega):=h
def iL(h:p:=by have a1:=a.1;have b1:=b.1;rw[F5];dsimp only at a1 b1 ⊢;omega):=h
def iM(h:p:=by have a1:=a.1;rw[F5];dsimp only at a1 ⊢;omega):=h
def iN(h:p:=by first|exact λ_=>rfl|exact λ_=>trivial):=h
def iO(h:p:=by exact(World.cell?_alloc_lt wA _ ⟨wr.heap.size,1,none⟩ (Array.getElem?_eq_some_iff.1 Fw).1).trans (xh Fw).2.1):=h
def iP(h:p:=by rw[←Ps];exact Su.low.setCell (p:=⟨sb,7,none⟩) (by show W0.heap.size≤sb;have:=Oz.out.low.size;omega) _):=h
def iQ(h:p:=by obtain⟨_,qq,ev,hb,_⟩:=q1;exact hB.block _ (wo hb)):=h
def iT(h:p:=by revert hs;simp only[Kv,List.mem_cons,List.not_mem_nil,or_false];rintro(rfl|rfl|rfl)<;>decide):=h
def iU(h:p:=by revert hs;simp only[Tg,List.mem_cons,List.not_mem_nil,or_false];rintro(rfl|rfl|rfl|rfl|rfl)<;>decide):=h
def iV(h:p:=by revert hs;simp only[Ph,List.mem_cons,List.not_mem_nil,or_false];rintro(rfl|rfl)<;>decide):=h
def jg(h:p:=by exact .inl h0):=h
def jh(h:p:=by exact .inl ⟨by rw[hn];rfl,ht⟩):=h
def ji(h:p:=by exact .inr ⟨g,cap,cu,rfl,hb,(hg.block g (wo hh) (wF g rfl)).trans hh,r⟩):=h
def jk(h:p:=by exact .inr ⟨g,cap,cu,rfl,hg,(Below.heap_setCell w ⟨b,k,none⟩ u g GH).trans hh,r⟩):=h
def jl(h:p:=by exact .inr ⟨g1,cap,cu,rfl,hb,(Below.heap_setCell w ⟨g,o,none⟩ u g1 (λe=>hn (by have e2:g1=g:=e;rw[e2];rfl))).trans hh,r⟩):=h
def jm(h:p:=by exact HK4.out.2.same (ts:= [3]) (λg cu ty ht e=>NG.cells e gH) O):=h
def jo(h:p:=by exact Nat.le_refl _):=h
def jq(h:p:=by exact absurd rfl h):=h
def jr(h:p:=by exact hP3.below (((Below.refl _ w3).alloc (Nat.le_refl _) _).alloc ae _)):=h
def jw(h:p:=by exact λe=>nomatch e):=h
def jy(h:p:=by exact(((((wU.of Pb xX).trans (wU.set Pb _ _ _)).Oq (Nat.le_refl _) _ _).Oq (Nat.le_refl _) _ _).Oq (Nat.le_refl _) _ _).trans (wU.alloc Pb _ _)):=h
def jA(h:p:=by exact((hB.setCell (p:=⟨w.heap.size,0,none⟩) (Nat.le_refl _) _).setCell (p:=⟨w.heap.size,1,none⟩) (Nat.le_refl _) _).setCell (p:=⟨w.heap.size,2,none⟩) (Nat.le_refl _) _):=h
def jB(h:p:=by exact⟨#[],0,k0,⟨ae,MapKept.stamped_empty 0,ae⟩,Nat.le_refl _,rfl⟩):=h
def jC(h:p:=by exact⟨BQ.os,BQ.tape,BQ.output,fG,λb hb=>(World.putObj_heap_other Z).trans (BQ.block b hb)⟩):=h
def jD(h:p:=by exact⟨[],ae,λc hc=>aD⟩):=h
def jE(h:p:=by exact⟨_,_,rfl,rfl⟩):=h
def jF(h:p:=by exact⟨_,_,rfl,wT D6 Jd q0,wT D6 Jd q1,wT D6 Jd q2,wT D6 Jd q3,wT D6 Jd q4,JX.out,D6⟩):=h
def jG(h:p:=by exact⟨_,a₁,w₁,hq,.of_steps (.one h0 stepR_block) harr⟩):=h
def jH(h:p:=by exact⟨_,a₁,w₁,hq,.of_steps (.one h0 stepR_seq) (.pass (x:=.code y) rfl (λ_ _=>.inl ae) harr)⟩):=h
def jI(h:p:=by exact⟨_,rfl,⟨_,_,rfl,xI W _,HX.out.same (KT.vZ hB)⟩,hB⟩):=h
def jJ(h:p:=by exact⟨by rw[HX.out],⟨1,_,_,rfl,.inl rfl⟩,λ_=>aI⟩):=h
def jK(h:p:=by exact⟨e',GU,fr',hR,ComesIn.of_steps hs₀ hs,Bo,hl⟩):=h
def jL(h:p:=by exact⟨e0',c0',Zfu _ _ p1 JG (λe=>iF) H.out.kv H.out.ks (λ_ _ _ e=>ai),p2,p3⟩):=h
def jM(h:p:=by exact⟨es,cs,Bb (k8 _ _ s7 (zV s7 Ht (λe=>ai))) (zV s7 GG (λe=>ai)),s2⟩):=h
def jN(h:p:=by exact⟨ev,cv,Bb (k8 _ _ v7 (zV v7 Ht (λe=>ai))) (zV v7 GG (λe=>ai)),v2⟩):=h
def jO(h:p:=by exact⟨g,o,BA,q1,NL,(World.cell?_of_block (NL.trans hg.symm)).trans q2⟩):=h
def jP(h:p:=by exact⟨h6.os,h6.tape,h6.output,h6.size,h6.block⟩):=h
def jQ(h:p:=by exact⟨hL,Hq W' _ hj (FM.put ..) ((World.putObj_heap_other Z).trans hD)⟩):=h
def jR(h:p:=by exact⟨k+1,Z,rfl,aG,hB.trans (wK.mono hB.size),HN⟩):=h
def jS(h:p:=by exact⟨rfl,rfl⟩):=h
def jT(h:p:=by exact⟨rfl,yF ((Below.refl _ W).alloc (Nat.le_refl _) _) _⟩):=h
def kT(h:p:=by have Ey:=HB.out.obj;exact⟨ZcY HB.out.rows xu Lf.out,ZcY HB.out.times xu Lf.out,(xu.block b (wo Ey) (λhm=>Lf.out b hm _ _ _ Ey)).trans Ey,λ_ _ _ e=>e,Below.refl _ _,Nat.le_trans HB.out.low.size xu.size,HB.out.gb⟩):=h
def kY(h:p:=by have e2:=Za8.out g ob he q1;have e3:=xq wH e2;have e4:=(P8.out.block g (wo e3) eO).trans e3;have e5:=(JZ.out.block g (wo e4) (by simp;exact⟨q3,q4⟩)).trans e4;exact Bb (k8 _ _ (Nw _ _ e5 q5) q2) q1):=h
def kZ(h:p:=by have h6:=(((Below.refl _ w5).alloc (Nat.le_refl _) (.cells #[.pointer (some ⟨w2.heap.size,0,none⟩)] 628)).block g (wo he)).trans he;exact(zh.block g (wo h6) (λe=>Zzc YB.out h6 (hn (YB.out.lt g e.symm).1) e)).trans h6):=h
def lh(h:p:=by have hlt:=(wo hh);exact .inr ⟨g,cap,cur,rfl,hg,(hb.block g hlt).trans hh,r⟩):=h
def lC(h:p:=by have yD:Hid (Dg=none):=by show _=_;rw[ZdM.out,wO];exact Z0u):=h
def lD(h:p:=by have yD:Hid (Dg=none):=by show _=_;rw[ZdN.out,wO];exact Z0u):=h
def lF(h:p:=by have:=yG.size;have:=wK.size;have:=Iw.size;have:=Iy.size;simp;omega):=h
def lG(h:p:=by intro _ o s ho;rw[List.append_assoc,Zc4 h rfl o _ ho];exact ZcO o cmp _ aB rfl):=h
def lH(h:p:=by intro k A n hp;exact hp.below (ZjU (Below.refl A.heap.size A) n)):=h
def lI(h:p:=by intro pre A h;refine⟨by simp[World.cell?,h.b2],λc hc=>?_⟩;exact wT h.low hS.1 (hS.2 c hc)):=h
def lJ(h:p:=by intro pre A n h;have hd:=Nq (Below.refl A.heap.size A) n;exact h.same hd.size hd.os hd.tape hd.output (λb _=>by rw[heap_drewN])):=h
def lK(h:p:=by intro r r' hf hg;exact Fz (λn=>aH) (full ih hf) (Ka hg rfl)):=h
def lL(h:p:=by intro r r' hf hg;obtain rfl:=Ct hg rfl;exact Kt (λn=>aQ) (XJ (full ih (DF rfl)))):=h
def lM(h:p:=by intro r r' hf hg;obtain rfl:=Ct hg rfl;exact Kt (λn=>aQ) (full ih hf)):=h
def lN(h:p:=by intro r r' hf hg;obtain rfl:=Ct hg rfl;exact Kt (λn=>by simp[parse,skip,xU]) (full ih (hf.mono az))):=h
def lQ(h:p:=by intro r r' hf hg;obtain rfl:=Ct hg rfl;exact Om (λn=>aW)):=h
def lS(h:p:=by intro r r' hf hg;obtain rfl:=Ct hg rfl;exact Om (λn=>by simp[parse])):=h
def lT(h:p:=by intro r r' hf hg;rw[List.append_assoc];exact xO r _ (DF rfl) (Ur rfl (Fz (λn=>aQ) (full yf hf) (Ka hg rfl)))):=h
def lU(h:p:=by obtain⟨N,hN⟩:=h1;refine⟨N+1,λn hn=>?_⟩;obtain⟨m,rfl⟩:∃m,n=m+1:=⟨n-1,Z⟩;rw[h m];exact hN m Z):=h
def lV(h:p:=by obtain⟨a,cap,rfl,h1,h3⟩:=hv;refine⟨a,cap,rfl,h1,λi hi=>?_⟩;obtain⟨g,o,cu,rv,mv,e,ho,hc,hd,hr,hm⟩:=h3 i hi;have:=h g cu _ O ho;exact⟨g,o,cu,rv,mv,e,this,yP (this.trans ho.symm) hc,yP (this.trans ho.symm) hd,hr.same h O,hm.same h O⟩):=h
def lW(h:p:=by obtain⟨a,cap,rfl,h1,h3⟩:=hv;refine⟨a,cap,rfl,h1,λi hi=>?_⟩;obtain⟨g,o,cu,tb,cv,pv,rv,e,ho,hc,ht,hr⟩:=h3 i hi;have:=h g cu _ O ho;exact⟨g,o,cu,tb,cv,pv,rv,e,this,yP (this.trans ho.symm) hc,h _ _ _ O ht,hr.same h O O⟩):=h
def lZ(h:p:=by obtain⟨es,c,h1,r⟩:=h;exact⟨es,c,hb.trans h1,r⟩):=h
def l5(h:p:=by obtain⟨es,clock,hb,hs,_⟩:=h;exact⟨es,clock,hb,hs⟩):=h
def l6(h:p:=by obtain⟨es,clock,hb,r⟩:=h;exact⟨es,clock,hB.trans hb,r⟩):=h
def l8(h:p:=by obtain⟨g,cu,e,ho,d0,d1,d2⟩:=hsc k hk;have xL:=(wo ho);exact⟨g,e,wT hB xL d0,wT hB xL d1,wT hB xL d2⟩):=h
def l9(h:p:=by obtain⟨j,hj,e⟩:=List.getElem_of_mem hm;exact wO.out j hj Z e.symm):=h
def mf(h:p:=by obtain⟨t,r,e,h⟩:=ih;exact⟨t,r,e,h⟩):=h
def mg(h:p:=by obtain⟨t,r,rfl,h⟩:=ih;exact⟨t,_,rfl,fe⟩):=h
def mh(h:p:=by obtain⟨t,r,rfl,h⟩:=ih;exact⟨t,_,rfl,h⟩):=h
def mi(h:p:=by obtain⟨u,e1,ht⟩:=Dh ht;obtain⟨v,e2,rfl⟩:=MU ht;rw[Tp a l u h1 e1];exact⟨q,rfl,ZbH b q v h2 e2⟩):=h
def mq(h:p:=by refine(hc W' (Below.refl _ _)).mono ?_;rintro e W2 ⟨rfl,wK⟩;exact⟨fV,wK,trivial⟩):=h
def mr(h:p:=by refine⟨a,cap,rfl,λi hi=>?_⟩;obtain⟨g,cu,e,ho,c0,c1,c2⟩:=hx i hi;have h1:=hk _ _ _ O ho;have hb:=h1.trans ho.symm;exact⟨g,cu,e,h1,yP hb c0,yP hb c1,yP hb c2⟩):=h
def mD(h:p:=by refine⟨zL.low.grown Fs Z (λb e=>dn),(Gn _ Z Z).trans zL.b1,(Gn _ Z Z).trans zL.b2,Nat.le_trans Ay Fs.size,?_⟩;rw[Zaz]at NY;rw[List.length_append];exact NY):=h
def mF(h:p:=by rintro e w' ⟨N,rfl,_,_,hB⟩;exact⟨hB,.inr ⟨(by intro v h;cases h),_,_,_,rfl⟩⟩):=h
def mQ(h:p:=by rintro k A n ⟨h1,h2,h3⟩;exact⟨Je k A n h1,fD,fE⟩):=h
def mV(h:p:=by rw[Addr.add_lit]at this;simpa using this):=h
def mW(h:p:=by rw[Array.getElem?_setIfInBounds_ne Z];exact Ke.out j hj Z):=h
def mX(h:p:=by rw[Array.size_setIfInBounds];exact Fp):=h
def mY(h:p:=by rw[Bool.eq_iff_iff,beq_iff_eq,beq_iff_eq];exact eq_comm):=h
def mZ(h:p:=by rw[List.getElem_append_left hlt,List.getElem_append_left cB];exact h.2 i hlt cB):=h
def ng(h:p:=by rw[List.take_succ_eq_append_getElem h,List.foldl_append];rfl):=h
def ni(h:p:=by rw[World.size_alloc]at this;exact this):=h
def nu(h:p:=by rw[e,Sem.run_bind,ZpN w pb sv h];rfl):=h
def nz(h:p:=by rw[hc]at h;simpa using h):=h
def nC(h:p:=by rw[parse,parse];exact two _ _ _ aF O):=h
def nD(h:p:=by rw[show(i+1)*2=i*2+2 from Z,show i*2+2+1=i*2+1+2 from Z,e,e];simpa using ih):=h
def nG(h:p:=by rw[←Bd];exact(((Below.refl _ W).alloc (Nat.le_refl _) _).alloc ae _).alloc ah _):=h
def nH(h:p:=by rw[←Da];exact(((Below.refl _ W).alloc (Nat.le_refl _) _).alloc ae _).alloc ah _):=h
def nL(h:p:=by simp at h;subst h;simp only[World.cell?,hb];rfl):=h
def nM(h:p:=by simp at hj;subst hj;simp only[World.cell?,h];rfl):=h
def nN(h:p:=by simp at this;omega):=h
def nO(h:p:=by simp only[Nat.zero_mul]at d1;rw[hc]at d1;exact hv _ (Option.some.inj d1)):=h
def nQ(h:p:=by simp only[Option.map_some,Function.comp_apply,Option.some.injEq,Prod.mk.injEq,Value.int.injEq,true_and];omega):=h
def nR(h:p:=by simpa using this):=h
def nU:=@if_neg
def nV:=@Nat.le_refl
def nY:=@if_pos
def om:=@Nat.le_trans
def oo:=@List.map_append
def oq:=@List.map_cons
def oz:=@Array.getElem?_eq_some_iff
def oC:=@List.getElem_mem
def oF:=@List.map_nil
def oG:=@And.intro
def oI:=@List.append_assoc
def oJ:=@Bool.and_eq_true
def oL:=@decide_eq_true_eq
def oN:=@Option.some.inj
def oO:=@List.take_of_length_le
def oQ:=@List.mem_cons
def oU:=@Nat.lt_of_lt_of_le
def oW:=@List.getElem?_eq_getElem
def o6:=@List.length_append
def o8:=@List.take_succ_eq_append_getElem
def o9:=@Nat.zero_add
def pz:=@List.setIfInBounds_toArray
def pI:=@Nat.zero_le
def pJ:=@List.getElem_append_left
def pM:=@List.drop_eq_getElem_cons
def pO:=@Option.map_eq_some_iff
def pQ:=@beq_eq_false_iff_ne
def pR:=@List.all_eq_true
def pW:=@or_false
def pX:=@if_true
def pY:=@List.length_map
def p8:=@Ne.symm
def p9:=@Bool.eq_iff_iff
def qb:=@List.mem_cons_of_mem
def qd:=@decide_eq_false
def qf:=@List.size_toArray
def qg:=@Array.replicate_succ
def qh:=@List.push_toArray
def qj:=@List.append_toArray
def ql:=@List.not_mem_nil
def qm:=@List.mem_map
def qp:=@Nat.le_of_eq
def qw:=@of_decide_eq_true
def qx:=@Nat.lt_succ_self
def qB:=@List.takeWhile_cons
def qD:=@List.length_drop
def qE:=@if_false
def qH:=@List.mem_append
def qI:=@List.getD_eq_getElem?_getD
def qJ:=@Prod.mk.inj
def qL:=@Array.getElem?_setIfInBounds_ne
def qM:=@List.drop_eq_nil_of_le
def qN:=@List.foldl_append
def qP:=@List.getElem?_eq_some_iff
def qQ:=@Array.getElem?_setIfInBounds_self_of_lt
def qU:=@List.mem_singleton
def qV:=@Option.bind_eq_some_iff
def qW:=@List.getElem_append_right
def qZ:=@decide_eq_false_iff_not
def ru:=@List.mem_range
def rz:=@Array.getElem?_eq_getElem
def rC:=@List.contains_iff_mem
def rD:=@List.map_map
def rE:=@List.cons.inj
def rF:=@Bool.false_eq_true
def rH:=@Nat.succ_pos
def rM:=@List.idxOf?_cons
def rP:=@List.getElem?_map
def rQ:=@List.flatMap_append
def rR:=@List.any_eq_true
def rW:=@List.length_pos_iff
def rX:=@decide_true
def rY:=@List.getElem_of_mem
def r9:=@Bool.or_eq_true
def si:=@beq_iff_eq
def sj:=@Nat.lt_or_ge
def su:=@decide_eq_true
def sw:=@List.length_take
def sD:=@List.append_nil
def sF:=@List.flatMap_cons
def sG:=@List.drop_length
def sH:=@List.takeWhile_sublist
def sJ:=@UInt8.toNat_inj
def sK:=@List.nodup_cons
def sM:=@Bool.false_or
def sN:=@Option.some.injEq
def sO:=@Prod.mk.injEq
def sP:=@true_and
def sQ:=@Bool.beq_comm
def sS:=@List.take_append_drop
def sV:=@Nat.eq_zero_or_pos
def tu:=@Array.getElem?_push
def tC:=@Nat.sub_self
def tF:=@List.mem_cons_self
def tH:=@List.take_length
def tJ:=@decide_false
def tK:=@Nat.mod_eq_of_lt
def tL:=@List.sum_append
def tN:=@List.getElem_set_ne
def tQ:=@Int.toNat_of_nonneg
def tV:=@Int.add_zero
def tX:=@Bool.beq_eq_decide_eq
def tY:=@Array.getElem?_modify
def tZ:=@Option.map_map
def ug:=@List.zip_append
def uh:=@List.drop_drop
def ui:=@Bool.not_eq_true'
def uj:=@List.getElem_map
def uk:=@List.eq_nil_of_length_eq_zero
def um:=@List.getElem_modify
def uo:=@List.filter_eq_self
def uq:=@List.filter_append
def uu:=@List.mem_of_getElem?
def uw:=@List.getElem_set_self
def uy:=@List.contains_eq_any_beq
def uz:=@List.length_eq_zero_iff
def uA:=@Array.getElem?_eq_none
def uB:=@List.range_eq_range'
def uC:=@of_decide_eq_false
def uD:=@List.getElem?_eq_none
def uG:=@List.idxOf?_eq_none_iff
def uH:=@List.getElem_dropLast
def uI:=@List.length_dropLast
def uJ:=@List.getElem?_drop
def uK:=@Array.getElem?_setIfInBounds
def uL:=@Array.size_setIfInBounds
def uM:=@List.contains_eq_mem
def uN:=@List.getElem_zipWith
end Go.Proofs.YtncnkiabjhhclaaGreatDoor
