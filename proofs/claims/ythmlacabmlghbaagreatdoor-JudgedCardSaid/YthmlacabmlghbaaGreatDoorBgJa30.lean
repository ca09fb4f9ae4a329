import Derived.Test.YthmlacabmlghbaaGreatDoorBgJa27
import Derived.Test.YthmlacabmlghbaaGreatDoorBgRefG
import Derived.Test.YthmlacabmlghbaaGreatDoorBgTabC
set_option maxRecDepth 100000
set_option maxHeartbeats 8000000
set_option linter.unusedSimpArgs false
set_option linter.unusedVariables false
namespace Go.Proofs.YthmlacabmlghbaaGreatDoor
open Go.Proofs.Tryz
theorem ZSH{p:Prop}(h:p:=by clear h1;go_wp2;go_end0;exact .inl ⟨st',H1.out,rfl,h3,(UX.of_below (hB1.mono hBW)).trans h4⟩):p:=h
theorem ZSG{p:Prop}(h:p:=by clear h1;go_wp2;exact⟨rfl,.inr ⟨H1.out,b,rfl,hb0,hb1,(hB1.mono hBW).trans hB3⟩⟩):p:=h
open Go.RowKit
theorem ZCp(f:Nat):∀(s:Za) (l:List Za),Ez f s=some l->(∀x∈l,x≠ []/\x.length<=s.length)/\l.length<=s.length:=by
 induction f with
 |zero=>intro s l h;rw[Ez]at h;cases h;exact⟨fun x hx=>ZQl,ZW8 _⟩
 |succ f ih=>
  intro s l h;rw[Ez]at h;have htl:=Zfl s;cases ht:JC s with
  |nil=>rw[ht]at h;cases h;exact⟨fun x hx=>ZQl,ZW8 _⟩
  |cons c r=>
   rw[ht]at h htl;simp only at h;cases hl:Qc (c::r)with
   |none=>rw[hl]at h;cases h
   |some n=>
    rw[hl]at h;simp only at h;have hp:=ZjG (Zg5 s c r ht) hl;cases hf:Ez f ((c::r).drop n)with
    |none=>rw[hf]at h;cases h
    |some m=>
     rw[hf]at h;cases h;obtain⟨h1,h2⟩:=ih _ m hf;rw[ZXo]at h1 h2;refine⟨?_,by simp only[List.length_cons]at *;omega⟩;intro x hx;rcases ZW3.1 hx with rfl|hx
     ·refine⟨?_,?_⟩
      ·intro e;have:=congrArg List.length e;rw[ZXS,List.length_nil]at this;omega
      ·rw[ZXS];omega
     ·exact⟨(h1 x hx).1,by have:=(h1 x hx).2;omega⟩
theorem ZCt{s:Za}{l:List Za}(h:fieldsOf s=some l):(∀x∈l,x≠ []/\x.length<=s.length)/\l.length<=s.length:=ZCp _ s l h
theorem RInv.keep{B R M Kb:Nat}{Zg:List Za}{line:Int}{st:St}{W W':World}(h:RInv B R M Kb Zg line st W)(hs:W.heap.size<=W'.heap.size)(hb:∀b,b<W.heap.size->(b=R\/b=M\/b=Kb\/B<=b)->W'.heap[b]? =W.heap[b]?):RInv B R M Kb Zg line st W':=by
 obtain⟨v,hR,hv⟩:=h.last;have hlt:∀{b:Nat} {o:Obj},W.heap[b]? =some o->b<W.heap.size:=fun e=>(ZWU.1 e).1;refine⟨h.hR,h.hM,h.hK,h.hRM,h.hMK,h.hRK,ZW0 h.hB hs,h.nd,JV h.names (hb M h.names.lt (.inr (.inl rfl))),JV h.keys (hb Kb h.keys.lt (.inr (.inr (.inl rfl)))),h.tabs.keep (hb M h.names.lt (.inr (.inl rfl))) (fun b hb1 hb2=>hb b hb1 (.inr (.inr (.inr hb2)))),v,(hb R (hlt hR) (.inl rfl)).trans hR,?_⟩;cases hl:st.last with
 |none=>rw[hl]at hv;exact hv
 |some t=>
  rw[hl]at hv;obtain⟨T,cv,pv,rv,rs,rfl,hT,VS,hcv,K6,r⟩:=hv;have own:∀{e sz n:Nat} {v:Value} {xs:List Value},W.ownsRow B e sz v n xs->W'.ownsRow B e sz v n xs:=by
   intro e sz n v xs h;refine⟨h.1,?_⟩;rcases h.2 with h0|⟨g,cap,cu,rfl,hg,hh,r⟩
   ·exact ZS4
   ·exact .inr ⟨g,cap,cu,rfl,hg,(hb g (hlt hh) (.inr (.inr (.inr hg)))).trans hh,r⟩
  exact⟨T,cv,pv,rv,rs,rfl,hT,(hb T (hlt VS) (.inr (.inr (.inr hT)))).trans VS,own hcv,own K6,r⟩
theorem RInv.below{B R M Kb:Nat}{Zg:List Za}{line:Int}{st:St}{W W':World}(h:RInv B R M Kb Zg line st W)(hB:Below W.heap.size W W'):RInv B R M Kb Zg line st W':=h.keep hB.size (fun b hb _=>hB.block b hb)
theorem ZLs{Zg:List Za}{st:St}{x:Za}(h:fieldsOf x=none):Xm Zg st x=none:=by unfold Xm;rw[h]
theorem step_nil{Zg:List Za}{st:St}{x:Za}(h:fieldsOf x=some []):Xm Zg st x=some st:=by unfold Xm;rw[h]
theorem ZLr{Zg:List Za}{st:St}{x p:Za}{ps:List Za}(h:fieldsOf x=some (p::ps)):Xm Zg st x=Ug Zg st p ps:=by unfold Xm;rw[h]
def Zf1(B R M Kb:Nat)(Zg:List Za)(line:Int)(W:World)(r:Option St)(e:Ending)(W':World):Prop:=
 (∃st',r=some st'/\e= .returned (.tuple #[])/\RInv B R M Kb Zg line st' W'/\UX B R M W W')\/(r=none/\bad B line W e W')
theorem bad.from{B:Nat}{line:Int}{W W1 W':World}{e:Ending}(h:bad B line W1 e W')(hB:Below B W W1):bad B line W e W':=by
 obtain⟨b,h1,h2,h3,h4⟩:=h;exact⟨b,h1,h2,h3,hB.trans h4⟩
theorem Zv5(B R M Kb:Nat)(Zg:List Za)(line:Int)(st:St)(g cap:Nat)(p:Za)(ps:List Za)(W:World)(hlx:∀y∈ps,y.length<=90000)(hll:ps.length<=90000)(hI:RInv B R M Kb Zg line st W)(fv:Value)
  (hfv:ps≠ []->fv= .slice (some ⟨g,1,none⟩) ps.length cap/\ps.length<=cap/\cap<=maxLen)(hv:QS W fv ps):
  Calls prog 83 #[.pointer (some ⟨R,0,none⟩),fv] W fun e W'=>Zf1 B R M Kb Zg line W (Ug Zg st UJ ps) e W':=by
 have hcp:Ug Zg st UJ ps=if ZiF Zg st ps then some ⟨st.names++ [ps.getD 0 []],some ⟨YG (Zo (ps.drop 1)),0⟩,st.tabs++ [(ps.getD 0 [],YG (Zo (ps.drop 1)))]⟩else none:=by unfold Ug;rw[ZWR rfl]
 by_cases hlen:ZeI ps.length=true
 ·cases ps with
  |nil=>cases hlen
  |cons x l=>
   obtain⟨rfl,hc1,hc2⟩:=hfv ZPm;by_cases hok:ZbN Zg st x=true
   ·have hcx:∀(i:Nat) (h:i<(x::l).length),W.cell? ⟨g,1+i,none⟩=some (Zp (x::l)[i]):=by
     intro i h;obtain⟨a,c,e,h1⟩:=hv;obtain⟨g1,o1,e1,h2⟩:=h1 i h;cases e;cases e1;exact h2
    refine(ZJU B R M Kb Zg line st g 1 cap x l W hlx (by simp at hll;omega) hc1 hc2 hI hcx hlen hok).mono ?_;rintro e W' (⟨h1,rfl,h2,h3⟩|⟨h1,h2⟩)
    ·refine .inl ⟨_,?_,rfl,h2,h3⟩;rw[hcp,ZWR ⟨hlen,hok,h1.1,h1.2⟩];rfl
    ·refine .inr ⟨?_,h2⟩;rw[hcp,ZWQ (fun h=>h1 ⟨h.2.2.1,h.2.2.2⟩)]
   ·have hok':ZbN Zg st x=false:=by simpa using hok
    refine(ZJW B R M Kb Zg line st _ x l W (hlx x ZPm) (by simp at hll;omega) hI hv hlen hok').mono ?_;intro e W' h2;refine .inr ⟨?_,h2⟩;rw[hcp,ZWQ (fun h=>hok h.2.1)]
 ·have hlen':ZeI ps.length=false:=by simpa using hlen
  refine(ZJV B R M Kb Zg line st fv ps W hll hI hv hlen').mono ?_;intro e W' h2;refine .inr ⟨?_,h2⟩;rw[hcp,ZWQ (fun h=>hlen h.1)]
theorem Zv4(B R M Kb:Nat)(Zg:List Za)(line:Int)(st:St)(ps:List Za)(W:World)(hlx:∀y∈ps,y.length<=90000/\y≠ [])(hll:ps.length<=90000)(hI:RInv B R M Kb Zg line st W)(fv:Value)(hv:QS W fv ps)(Uv:Vx W)(hG:13<=B):
  Calls prog 84 #[.pointer (some ⟨R,0,none⟩),fv] W fun e W'=>Zf1 B R M Kb Zg line W (Ug Zg st EP ps) e W':=by
 have hcp:Ug Zg st EP ps=match st.last with|none=>none|some t=>if(ps.length=t.Ze.length/\t.rows≠12)/\rowOk ps t.Ze=true then some ⟨st.names,some ⟨t.Ze,t.rows+1⟩,st.tabs⟩else none:=by
  unfold Ug;rw[ZWQ ZPl,ZWR rfl];cases st.last<;>rfl
 cases hl:st.last with
 |none=>
  rw[hl]at hcp;refine(ZJQ B R M Kb Zg line st fv ps W hI hl hv).mono ?_;intro e W' h2;exact .inr ⟨hcp,h2⟩
 |some t=>
  rw[hl]at hcp;simp only at hcp;have ZOE:t.rows<=12:=by
   obtain⟨v,hR,hv0⟩:=hI.last;rw[hl]at hv0;obtain⟨T,cv,pv,rv,rs,_,_,_,_,_,_,h,_⟩:=hv0;exact h
  by_cases h1:ps.length=t.Ze.length/\t.rows≠12
  ·refine(ZJP B R M Kb Zg line st t fv ps W hlx hI hl hv Uv hG h1.1 U).mono ?_;rintro e W' (⟨h2,rfl,h3,h4⟩|⟨h2,h3⟩)
   ·refine .inl ⟨_,?_,rfl,h3,UX.of_below h4⟩;rw[hcp,ZWR ⟨h1,h2⟩]
   ·refine .inr ⟨?_,h3⟩;rw[hcp,ZWQ (fun h=>by rw[h2]at h;exact Bool.noConfusion h.2)]
  ·refine(ZJO B R M Kb Zg line st t fv ps W hll hI hl hv U).mono ?_;intro e W' h2;refine .inr ⟨?_,h2⟩;rw[hcp,ZWQ (fun h=>h1 h.1)]
theorem Zf1.from{B R M Kb:Nat}{Zg:List Za}{line:Int}{W W1 W':World}{r:Option St}{e:Ending}(h:Zf1 B R M Kb Zg line W1 r e W')(hB:Below B W W1):Zf1 B R M Kb Zg line W r e W':=by
 rcases h with⟨st',h1,h2,h3,h4⟩|⟨h1,h2⟩
 ·exact .inl ⟨st',h1,h2,h3,(UX.of_below hB).trans h4⟩
 ·exact .inr ⟨h1,h2.from hB⟩
theorem ZJN(B R M Kb:Nat)(Zg:List Za)(line:Int)(st:St)(x:Za)(W:World)(hx:x.length<=90000)(hI:RInv B R M Kb Zg line st W)(Uv:Vx W)(hG:13<=B):
  Calls prog 54 #[.pointer (some ⟨R,0,none⟩),.string ⟨x.toArray⟩] W fun e W'=>Zf1 B R M Kb Zg line W (Xm Zg st x) e W':=by
 have c0:W.cell? ⟨R,0,none⟩=some (.int .i64 line):=by
  obtain⟨v,hR,_⟩:=hI.last;simp[World.cell?,hR]
 have hBW:=hI.hB;go_enter func54,ntmps54;go_wp2_with fail;refine(ZJL R line x _ hx c0).mono ?_;intro e W1 hf;cases hfo:fieldsOf x with
 |none=>
  rw[hfo]at hf;obtain⟨b,rfl,hb0,hb1,hB1⟩:=hf;have HS:Hid (Xm Zg st x=none):=ZLs hfo;clear hfo;go_wp2;exact⟨rfl,.inr ⟨HS.out,b,rfl,hb0,hb1,hB1.mono hBW⟩⟩
 |some l=>
  rw[hfo]at hf;obtain⟨v,rfl,hown,hB1⟩:=hf;obtain⟨hmem,hlen⟩:=ZCt hfo;have hI1:=hI.below hB1;have ZtO:=Uv.below hB1 U;cases l with
  |nil=>
   have HS:Hid (Xm Zg st x=some st):=step_nil hfo;clear hfo;obtain⟨a,c,rfl⟩:=Ed hown;clear hown;go_wp2;go_end0;exact .inl ⟨st,HS.out,rfl,hI1,UX.of_below (hB1.mono hBW)⟩
  |cons p ps=>
   have HS:Hid (Xm Zg st x=Ug Zg st p ps):=ZLr hfo;clear hfo;obtain⟨g,cap,cur,rfl,hgB,hgh,hc1,hc2,hcs,ZDy⟩:∃g cap cur,v= .slice (some ⟨g,0,none⟩) (ps.length+1) cap/\W.heap.size<=g/\W1.heap[g]? =some (.cells cur 9 (0,0))/\ps.length+1<=cap/\cap<=maxLen/\cur.size=cap*1/\cur.toList.take ((ps.length+1)*1)=(p::ps).map Zp:=by
    rcases hown.2 with⟨_,h0⟩|h0
    ·simp at h0
    ·exact h0
   have hcell:∀i (h:i<(p::ps).length),W1.cell? ⟨g,i,none⟩=some (Zp (p::ps)[i]):=by
    intro i h;have:=hown.cells (g:=g) rfl i (Zp (p::ps)[i]) (by rw[ZXU,ZW1 h];rfl);exact ZWd
   have hc0:W1.cell? ⟨g,0,none⟩=some (.string ⟨p.toArray⟩):=hcell 0 ZPm;have HC:Hid (∀i (h:i<(p::ps).length),W1.cell? ⟨g,i,none⟩=some (Zp (p::ps)[i])):=hcell;simp only[List.length_cons]at hlen;have HM:Hid (∀y∈ps,y.length<=90000/\y≠ []):=fun y hy=>⟨by have:=(hmem y (ZXe _ hy)).2;omega,(hmem y (ZXe _ hy)).1⟩;have hps:ps.length<=90000:=U
   clear hcell hmem hown hgh hcs ZDy;have HV:Hid (∀fv,(¬cap=1->fv= .slice (some ⟨g,1,none⟩) ps.length (cap-1))->(cap=1->∃a,fv= .slice a ps.length 0)->QS W1 fv ps/\(ps≠ []->fv= .slice (some ⟨g,1,none⟩) ps.length (cap-1)/\ps.length<=cap-1/\cap-1<=maxLen)):=by
    intro fv h1 h2;by_cases hcap:cap=1
    ·obtain⟨a,rfl⟩:=h2 hcap;have hp0:ps= []:=ZX7.1 U;subst hp0;exact⟨⟨a,0,rfl,fun i hi=>ZPX⟩,fun h=>absurd rfl h⟩
    ·rw[h1 hcap];refine⟨⟨some ⟨g,1,none⟩,cap-1,rfl,fun i hi=>⟨g,1,rfl,?_⟩⟩,fun _=>⟨rfl,U,U⟩⟩;have:=HC.out (i+1) (by simp;exact hi);rw[Nat.add_comm 1 i];exact this
   by_cases ht:(p== [116,97,98,108,101])=true
   ·have HP:Hid (p=UJ):=eq_of_beq ht;by_cases hcap:cap=1
    ·subst hcap;obtain rfl:ps= []:=ZX7.1 U;have hq:QS W1 (.slice (some ⟨g,0,none⟩) 0 0) []:=⟨_,_,rfl,fun i hi=>ZPX⟩;clear HV;go_wp2_with fail;refine(Zv5 B R M Kb Zg line st g 0 p [] _ (fun y hy=>(HM.out y hy).1) ZPm hI1 _ (fun h=>absurd rfl h) hq).mono ?_;rintro e W' (⟨st',h1,rfl,h3,h4⟩|⟨h1,b,rfl,hb0,hb1,hB3⟩)
     ·have H1:Hid (Xm Zg st x=some st'):=by show _=_;rw[HS.out,HP.out];exact h1
      exact ZSH
     ·have H1:Hid (Xm Zg st x=none):=by show _=_;rw[HS.out,HP.out];exact h1
      exact ZSG
    ·have hq:=HV.out (.slice (some ⟨g,1,none⟩) ps.length (cap-1)) (fun _=>rfl) (fun h=>absurd h hcap);go_wp2_with fail;refine(Zv5 B R M Kb Zg line st g (cap-1) p ps _ (fun y hy=>(HM.out y hy).1) hps hI1 _ (fun h=>⟨rfl,(hq.2 h).2⟩) hq.1).mono ?_;rintro e W' (⟨st',h1,rfl,h3,h4⟩|⟨h1,b,rfl,hb0,hb1,hB3⟩)
     ·have H1:Hid (Xm Zg st x=some st'):=by show _=_;rw[HS.out,HP.out];exact h1
      exact ZSH
     ·have H1:Hid (Xm Zg st x=none):=by show _=_;rw[HS.out,HP.out];exact h1
      exact ZSG
   ·have ht':(p== [116,97,98,108,101])=false:=by simpa using ht
    have HP:Hid (p≠UJ):=fun e=>ht ZPP;clear ht;by_cases hr:(p== [114,111,119])=true
    ·have HP2:Hid (p=EP):=eq_of_beq hr;by_cases hcap:cap=1
     ·subst hcap;obtain rfl:ps= []:=ZX7.1 U;have hq:QS W1 (.slice (some ⟨g,0,none⟩) 0 0) []:=⟨_,_,rfl,fun i hi=>ZPX⟩;clear HV;go_wp2_with fail;refine(Zv4 B R M Kb Zg line st [] _ (fun y hy=>HM.out y hy) ZPm hI1 _ hq ZtO hG).mono ?_;rintro e W' (⟨st',h1,rfl,h3,h4⟩|⟨h1,b,rfl,hb0,hb1,hB3⟩)
      ·have H1:Hid (Xm Zg st x=some st'):=by show _=_;rw[HS.out,HP2.out];exact h1
       exact ZSH
      ·have H1:Hid (Xm Zg st x=none):=by show _=_;rw[HS.out,HP2.out];exact h1
       exact ZSG
     ·have hq:=HV.out (.slice (some ⟨g,1,none⟩) ps.length (cap-1)) (fun _=>rfl) (fun h=>absurd h hcap);go_wp2_with fail;refine(Zv4 B R M Kb Zg line st ps _ (fun y hy=>HM.out y hy) hps hI1 _ hq.1 ZtO hG).mono ?_;rintro e W' (⟨st',h1,rfl,h3,h4⟩|⟨h1,b,rfl,hb0,hb1,hB3⟩)
      ·have H1:Hid (Xm Zg st x=some st'):=by show _=_;rw[HS.out,HP2.out];exact h1
       exact ZSH
      ·have H1:Hid (Xm Zg st x=none):=by show _=_;rw[HS.out,HP2.out];exact h1
       exact ZSG
    ·have hr':(p== [114,111,119])=false:=by simpa using hr
     have HP2:Hid (p≠EP):=fun e=>hr ZPP;clear hr;have c01:W1.cell? ⟨R,0,none⟩=some (.int .i64 line):=by
      obtain⟨v,hR,_⟩:=hI1.last;simp[World.cell?,hR]
     go_wp2_with fail;refine(Vr R line _ c01).mono ?_;rintro e w3 ⟨b,rfl,hb0,hb1,hB3⟩;go_wp2;refine⟨rfl,.inr ⟨?_,b,rfl,hb0,hb1,(hB1.mono hBW).trans (hB3.mono (by have:=hB1.size;omega))⟩⟩;rw[HS.out];unfold Ug;rw[ZWQ HP.out,ZWQ HP2.out]
section
open Go.Shelf
attribute [local go_sem] Oper.semAt_some
def Vd(Zg:List Za):St->List Za->Option St
 |st, []=>some st
 |st,x::r=>match Xm Zg st x with
  |none=>none
  |some st'=>Vd Zg st' r
theorem ZqC(Zg:List Za)(x:Za):∀(pre:List Za) (st st1 st2:St),Vd Zg st pre=some st1->Xm Zg st1 x=some st2->Vd Zg st (pre++ [x])=some st2
 | [],st,st1,st2,h1,h2=>by
  cases h1;simp only[List.nil_append,Vd,h2]
 |y::pre,st,st1,st2,h1,h2=>by
  rw[Vd]at h1;rw[List.cons_append,Vd];cases hc:Xm Zg st y with
  |none=>rw[hc]at h1;cases h1
  |some st'=>rw[hc]at h1;exact ZqC Zg x pre st' st1 st2 h1 h2
theorem Zwl(Zg:List Za)(x:Za)(post:List Za):∀(pre:List Za) (st st1:St) (k:Nat),Vd Zg st pre=some st1->Xm Zg st1 x=none->Zbu Zg st k (pre++x::post)=(k:Int)+pre.length+1
 | [],st,st1,k,h1,h2=>by
  cases h1;simp only[List.nil_append,Zbu,h2,List.length_nil];omega
 |y::pre,st,st1,k,h1,h2=>by
  rw[Vd]at h1;rw[List.cons_append,Zbu];cases hc:Xm Zg st y with
  |none=>rw[hc]at h1;cases h1
  |some st'=>
   rw[hc]at h1;have ih:=Zwl Zg x post pre st' st1 (k+1) h1 h2;show Zbu Zg st' (k+1) (pre++x::post)=_;rw[ih,List.length_cons];omega
theorem Zwm(Zg:List Za):∀(ls:List Za) (st st1:St) (k:Nat),Vd Zg st ls=some st1->Zbu Zg st k ls= -1
 | [],_,_,_,_=>rfl
 |y::ls,st,st1,k,h1=>by
  rw[Vd]at h1;rw[Zbu];cases hc:Xm Zg st y with
  |none=>rw[hc]at h1;cases h1
  |some st'=>rw[hc]at h1;exact Zwm Zg ls st' st1 (k+1) h1
theorem Zr3(s:Za)(h:¬s.length>4000):YZ s=Zbu YI ⟨[],none, []⟩ 0 (ZX s):=by
 unfold YZ;rw[ZWQ h];exact Zwn (ZX s) ⟨[],none, []⟩ 0 ZPm
theorem RInv.line{B R M Kb:Nat}{Zg:List Za}{line ZfN:Int}{st:St}{W:World}(h:RInv B R M Kb Zg line st W):RInv B R M Kb Zg ZfN st (W.setCell ⟨R,0,none⟩ (.int .i64 ZfN)):=by
 obtain⟨v,hR,hv⟩:=h.last;have hR':(W.setCell ⟨R,0,none⟩ (.int .i64 ZfN)).heap[R]? =some (.cells #[.int .i64 ZfN,.map (some M),v,.map (some Kb)] 138 (0,0)):=X8 hR;have hR0:RInv B R M Kb Zg line st (W.putObj R (.cells #[.int .i64 line,.map (some M),v,.map (some Kb)] 138 (0,0))):=by
  refine h.keep (by rw[Za1];exact ZWS _) (fun b hb _=>?_);by_cases e:b=R
  ·subst e;rw[World.putObj_heap_same hb,hR]
  ·exact ZXz e
 have lo:∀b,b≠R->(W.setCell ⟨R,0,none⟩ (.int .i64 ZfN)).heap[b]? =W.heap[b]? :=fun b hb=>ZXf W ⟨R,0,none⟩ _ b hb;have hsz:(W.setCell ⟨R,0,none⟩ (.int .i64 ZfN)).heap.size=W.heap.size:=ZPm
 refine⟨h.hR,h.hM,h.hK,h.hRM,h.hMK,h.hRK,by rw[hsz];exact h.hB,h.nd,JV h.names (lo M (Ne.symm h.hRM)),JV h.keys (lo Kb (Ne.symm h.hRK)),h.tabs.keep (lo M (Ne.symm h.hRM)) (fun b _ hb=>lo b (by have:=h.hR;omega)),v,hR',?_⟩;have hRB:=h.hR;cases hl:st.last with
 |none=>rw[hl]at hv;exact hv
 |some t=>
  rw[hl]at hv;obtain⟨T,cv,pv,rv,rs,rfl,hT,VS,hcv,K6,r⟩:=hv;exact⟨T,cv,pv,rv,rs,rfl,hT,(lo T U).trans VS,Zvr hcv (fun g hg=>lo g U),Zvr K6 (fun g hg=>lo g U),r⟩
structure Zbl (N R Kb Bs:Nat) (pre:List Za) (w5 A:World):Prop where
 st:∃st,Vd YI ⟨[],none, []⟩ pre=some st/\RInv (w5.heap.size+2) R N Kb YI pre.length st A
 os:A.os=w5.os
 tape:A.tape=w5.tape
 output:A.output=w5.output
 size:w5.heap.size+2<=A.heap.size
 keep:∀b,b<w5.heap.size->b≠R->b≠N->b≠Bs->A.heap[b]? =w5.heap[b]?
theorem Zbl.same{N R Kb Bs:Nat}{pre:List Za}{w5 A A':World}(h:Zbl N R Kb Bs pre w5 A)(hs:A.heap.size<=A'.heap.size)(h1:A'.os=A.os)(h2:A'.tape=A.tape)(h3:A'.output=A.output)(hRK:R<w5.heap.size/\N<w5.heap.size/\Kb<w5.heap.size/\R≠Bs/\N≠Bs/\Kb≠Bs)(hBs:Bs<w5.heap.size)
  (hb:∀b,b<A.heap.size->b≠Bs->b≠w5.heap.size+1->b≠w5.heap.size->A'.heap[b]? =A.heap[b]?):Zbl N R Kb Bs pre w5 A':=by
 obtain⟨st,hst,hI⟩:=h.st;have hsz:=h.size;refine⟨⟨st,hst,hI.keep hs (fun b hb1 hb2=>hb b hb1 U U U)⟩,h1.trans h.os,h2.trans h.tape,h3.trans h.output,ZW0 hsz hs,fun b hb1 hb2 hb3 hb4=>(hb b U hb4 U U).trans (h.keep b hb1 hb2 hb3 hb4)⟩
theorem ZG6{P:Program}{fn:Func}{a:Act}{R:Ending->World->Prop}{w:World}{ch:List PanicEntry}(ha:a.defers= [])(hR:R (.panicked ch) w):bodyPostM Fence.wide 0 P fn R (.panic ch) a w:=by
 show LeavesInM Fence.wide 0 P fn a.tmps R a.defers (.panicking ch) w;rw[ha];unfold LeavesInM LeavesIn;exact hR
theorem UZ.below{n:Nat}{w w':World}(h:UZ w)(hB:Below n w w')(hn:13<=n):UZ w':=
 ⟨ZXi h.1 hB.size,fun c hc=>(hB.cell (p:=⟨1,c.toNat,none⟩) (show 1<n from ZXi ZPl hn)).trans (h.2 c hc)⟩
end
def Zce(tl:List (Za×List (Za×Int))):List J8:=tl.map fun x=>(x.1,x.2.map (·.1),x.2.map fun c=>Jw c.2)
structure TOk (st:St):Prop where
 names:st.tabs.map (·.1)=st.names
 nd:st.names.Nodup
 ne:∀n∈st.names,n≠ []
 le:st.names.length<=8
 ok:∀x∈st.tabs,Zc1 x.2
theorem ZMz{k:Za}{t:Int}(h:Q5 k=some t):t=1\/t=2:=by
 unfold Q5 at h;split at h
 ·cases h;exact ZS5
 ·split at h
  ·cases h;exact .inr rfl
  ·cases h
theorem ZFi{Zg:List Za}{s:Za}(h:Q3 Zg s=true):s≠ []:=by
 rintro rfl;unfold Q3 at h;simp at h
theorem ZBt{l:List Za}(hl:2<=l.length/\l.length<=12)(h1:(Zo l).all (Ef YI)=true)(h2:((Zo l).map (·.1)).Nodup):Zc1 (YG (Zo l)):=by
 have hlen:(YG (Zo l)).length=l.length/2:=by unfold YG;rw[ZW5,ZoA]
 refine⟨?_,fun c hc=>?_,by rw[hlen];omega,by rw[hlen];omega⟩
 ·have:(YG (Zo l)).map (·.1)=(Zo l).map (·.1):=by unfold YG;rw[ZX2];rfl
  rw[this];exact h2
 ·unfold YG at hc;obtain⟨p,hp,rfl⟩:=ZXj.1 hc;have:=(ZXQ.1 h1) p hp;unfold Ef at this;simp only[ZXN]at this;obtain⟨t,ht⟩:=Option.isSome_iff_exists.1 this.1;rw[ht];exact ZMz ht
theorem ZBp{st st':St}{x:Za}(h:Xm YI st x=some st')(hk:TOk st):ZiG (Zce st.tabs) x=Zce st'.tabs/\TOk st':=by
 have hf:=Zsf (x.length+1) x U;unfold Xm at h;unfold ZiG;cases hp:Xf x with
 |none=>
  cases hl:fieldsOf x with
  |none=>rw[hl]at h;cases h
  |some l=>
   obtain⟨y,hy,hb⟩:=hf.2 hp l hl;rw[hl]at h;cases l with
   |nil=>cases hy
   |cons p ps=>simp only at h;rw[Zrd st p ps ⟨y,hy,hb⟩]at h;cases h
 |some l=>
  rw[hf.1 l hp]at h;cases l with
  |nil=>simp only at h;cases h;exact⟨rfl,hk⟩
  |cons p ps=>
   simp only at h ⊢;unfold Ug at h;by_cases hpt:p=UJ
   ·rw[ZWR hpt]at h ⊢;split at h
    ·rename_i hok;cases h;obtain⟨o1,o2,o3,o4⟩:=hok;refine⟨?_,?_⟩
     ·unfold Zce;rw[ZWY,ZWZ,ZW2,ZmE _ o3];have:(YG (Zo (ps.drop 1))).map (·.1)=(Zo (ps.drop 1)).map (·.1):=by unfold YG;rw[ZX2];rfl
      rw[this]
     ·unfold ZbN at o2;simp only[ZXN,ZYf,ZXw]at o2;obtain⟨⟨n1,n2⟩,n3⟩:=o2;have hno:ps.getD 0 []∉st.names:=fun hm=>by
       rw[ZXI.2 hm]at n2;cases n2
      have hlen:3<=ps.length/\ps.length%2=1/\ps.length<=13:=ZXL o1;refine⟨?_,?_,?_,?_,?_⟩
      ·show(st.tabs++ [(ps.getD 0 [],YG (Zo (ps.drop 1)))]).map (fun x=>x.1)=st.names++ [ps.getD 0 []];rw[ZWY,hk.names];rfl
      ·show(st.names++ [_]).Nodup;rw[List.nodup_append];refine⟨hk.nd,ZPm,fun a ha b hb e=>?_⟩;rw[ZXh]at hb;subst hb;subst e;exact hno ha
      ·intro n hn;rcases ZXt.1 hn with hn|hn
       ·exact hk.ne n hn
       ·rw[ZXh.1 hn];exact ZFi n1
      ·show(st.names++ [_]).length<=8;rw[ZW9,List.length_singleton];omega
      ·intro y hy;rcases ZXt.1 hy with hy|hy
       ·exact hk.ok y hy
       ·rw[ZXh.1 hy];exact ZBt ZPO o3 o4
    ·cases h
   ·rw[ZWQ hpt]at h ⊢;split at h
    ·split at h
     ·cases h
     ·split at h
      ·cases h;exact⟨rfl,hk.names,hk.nd,hk.ne,hk.le,hk.ok⟩
      ·cases h
    ·cases h
theorem Zmb:∀(ls:List Za) (st st':St),Vd YI st ls=some st'->TOk st->Qt (Zce st.tabs) ls=Zce st'.tabs/\TOk st'
 | [],st,st',h,hk=>by
  rw[Vd]at h;cases h;exact⟨rfl,hk⟩
 |x::ls,st,st',h,hk=>by
  rw[Vd]at h;cases hc:Xm YI st x with
  |none=>rw[hc]at h;cases h
  |some st1=>
   rw[hc]at h;obtain⟨h1,h2⟩:=ZBp hc hk;rw[Qt,h1];exact Zmb ls st1 st' h h2
theorem Zw0:TOk ⟨[],none, []⟩:=⟨rfl,List.nodup_nil,(fun n h=>ZPs),ZPm,(fun x h=>ZPs)⟩
def El(x:J8):Tb:=⟨x.1,x.2.1,x.2.2⟩
theorem ZwU:∀(ts:List (Za×Value×Value×Value)) (i:Nat) (h:i<ts.length) (j:Nat),j<4->(Jh ts)[i*4+j]? = [Go.Proofs.YthmlacabmlghbaaGreatDoor.Zp ts[i].1,ts[i].2.1,ts[i].2.2.1,ts[i].2.2.2][j]?
 |t::ts,0,_,j,hj=>by
  have e:Jh (t::ts)=Go.Proofs.YthmlacabmlghbaaGreatDoor.Zp t.1::t.2.1::t.2.2.1::t.2.2.2::Jh ts:=rfl;rw[e,Nat.zero_mul,ZX5];rcases j with _|_|_|_|j
  ·rfl
  ·rfl
  ·rfl
  ·rfl
  ·omega
 |t::ts,i+1,h,j,hj=>by
  have ih:=ZwU ts i ZPv j hj;have e:Jh (t::ts)=Go.Proofs.YthmlacabmlghbaaGreatDoor.Zp t.1::t.2.1::t.2.2.1::t.2.2.2::Jh ts:=rfl;rw[e,show(i+1)*4+j=i*4+j+4 from U];simpa using ih
theorem ZiP.tabs{B:Nat}{W:World}{v:Value}{tb:List J8}(h:ZiP B W v tb):Vz [] W v (tb.map El):=by
 obtain⟨ts,ho,hi⟩:=h;have hc:=fun g=>ho.cells (g:=g);rcases ho.2 with⟨rfl,h0⟩|⟨g,cap,cur,rfl,_⟩
 ·have:tb= []:=ZX7.1 h0;subst this;exact ZT3
 ·refine⟨some ⟨g,0,none⟩,cap,ZQy,fun i hlt=>?_⟩;rw[ZW5]at hlt;have hit:i<ts.length:=by rw[<-hi.len];exact hlt
  have hz:(tb[i],ts[i])∈tb.zip ts:=by
   rw[ZYn];exact⟨i,ZPo,ZPm⟩
  have ht:=hi.all _ hz;have hcell:∀j,j<4->∀u, [Go.Proofs.YthmlacabmlghbaaGreatDoor.Zp ts[i].1,ts[i].2.1,ts[i].2.2.1,ts[i].2.2.2][j]? =some u->W.cell? ⟨g,i*4+j,none⟩=some u:=fun j hj u hu=>by
   have:=hc g rfl (i*4+j) u (by rw[ZwU ts i hit j hj];exact hu);exact ZWc
  refine⟨g,ts[i].2.1,ts[i].2.2.1,rfl,?_⟩;rw[ZYp];refine⟨ZPm,?_,hcell 1 U _ rfl,hcell 2 U _ rfl,?_,ZfS ht.Ze (fun x hx=>ZQl),ZfS ht.types (fun x hx=>ZQl)⟩
  ·have:=hcell 0 U _ rfl;rw[ht.nm]at this;exact this
  ·obtain⟨a,k,c,e⟩:=ht.rows;exact⟨a,k,c,ZSe⟩
def Zcl(tl:List (Za×List (Za×Int))):List Tb:=tl.map fun x=>⟨x.1,x.2.map (·.1),x.2.map fun c=>Jw c.2⟩
theorem Zr4(tl:List (Za×List (Za×Int))):(Zce tl).map El=Zcl tl:=by
 unfold Zce Zcl;rw[ZX2];rfl
theorem ZBQ{st:St}(h:TOk st):Zc2 (Zcl st.tabs):=by
 have hl:st.tabs.length=st.names.length:=by rw[<-h.names,ZW5]
 have h8:=h.le;refine⟨by unfold Zcl;rw[ZW5];omega,fun t ht=>?_,fun t ht=>?_⟩
 ·obtain⟨x,hx,rfl⟩:=ZXj.1 ht;have:=h.ok x hx;exact⟨by simpa using this.le,ZPm⟩
 ·obtain⟨x,hx,rfl⟩:=ZXj.1 ht;simpa using(h.ok x hx).pos
def Zal(p:Za×Za):Tr:=nd {kind:= [115,111,117,114,99,101],text:=p.1,Zx:=p.2} .nil
def Ev(p:Za×Za):Tr:=nd {kind:= [99,111,108,117,109,110],Zd:=p.1,text:=p.2} .nil
def prV(p:Za×Za):Value×Value:=(Zv p.1,Zv p.2)
theorem Zwf{Pb n0:Nat}{W:World}:∀{fs:List (Value×Value)} {tf:Tr},Zl Pb n0 W (.srs fs) tf->∃ps:List (Za×Za),fs=ps.map prV/\elems tf=ps.map Zal
 | [],_,h=>by cases h;exact⟨[],rfl,rfl⟩
 |x::r,_,h=>by
  cases h with
  |ZbT h=>
   rename_i n s ts;obtain⟨ps,e1,e2⟩:=Zwf h;exact⟨(n,s)::ps,by rw[e1];rfl,by rw[elems,e2];rfl⟩
theorem Zwe{Pb n0:Nat}{W:World}:∀{fs:List (Value×Value)} {tf:Tr},Zl Pb n0 W (.cls fs) tf->∃ps:List (Za×Za),fs=ps.map prV/\elems tf=ps.map Ev
 | [],_,h=>by cases h;exact⟨[],rfl,rfl⟩
 |x::r,_,h=>by
  cases h with
  |Zbr h=>
   rename_i o s ts;obtain⟨ps,e1,e2⟩:=Zwe h;exact⟨(o,s)::ps,by rw[e1];rfl,by rw[elems,e2];rfl⟩
def ZaU(p:Za×Za):Za:=if p.2= []then p.1 else p.2
theorem Zpn(db:List Tb)(p:Za×Za)(r:List Tr)(s:Sc)(ok:Bool):XC db (Zal p::r) s ok=match JP db p.1 with
 |none=>XC db r s false
 |some t=>if s.names.contains (ZaU p)then XC db r s false else XC db r {s with names:=s.names++ [ZaU p],tabs:=s.tabs++ [t]} ok:=rfl
theorem ZdP(db:List Tb):∀(l:List Tr) (s:Sc),(XC db l s false).2=false
 | [],s=>rfl
 | .nil::r,s=>ZdP db r s
 | .cons _ _::r,s=>ZdP db r s
 | .node f _ _ _ _ _ _::r,s=>by
  rw[XC];split
  ·exact ZdP db r s
  ·split;all_goals
    split
    ·exact ZdP db r s
    ·exact ZdP db r _
theorem Zsh:∀{tl:List (Za×List (Za×Int))} {x:Za×List (Za×Int)},(tl.map (·.1)).Nodup->x∈tl->JP (Zcl tl) x.1=some ⟨x.1,x.2.map (·.1),x.2.map fun c=>Jw c.2⟩
 |y::tl,x,hn,hx=>by
  rw[ZWZ,ZYm]at hn;unfold JP Zcl;rw[ZWZ,List.find?_cons];by_cases h:y.1=x.1
  ·have:y=x:=by
    rcases ZW3.1 hx with h'|h'
    ·exact h'.symm
    ·exact absurd (ZXj.2 ⟨x,h',h.symm⟩) hn.1
   subst this;simp
  ·have hx':x∈tl:=by
    rcases ZW3.1 hx with h'|h'
    ·exact absurd (by rw[h']) h
    ·exact h'
   have:=Zsh hn.2 hx';unfold JP Zcl at this;simp only[h,decide_false];exact this
theorem ZCv{tl:List (Za×List (Za×Int))}{s:Za}(h:s∉tl.map (·.1)):JP (Zcl tl) s=none:=by
 unfold JP Zcl;rw[List.find?_eq_none];intro t ht;obtain⟨x,hx,rfl⟩:=ZXj.1 ht;simp only[ZXw];intro e;exact h (ZXj.2 ⟨x,hx,e⟩)
theorem Zpv{tl:List (Za×List (Za×Int))}{Ts:List Nat}(h:tl.length=Ts.length):(ZbW tl Ts).map (·.1)=tl.map (·.1):=by
 unfold ZbW;rw[ZX2];have:((fun x:Za×DataW Unit=>x.1)∘fun p:(Za×List (Za×Int))×Nat=>(p.1.1,nP p.2))=(fun x=>x.1)∘Prod.fst:=rfl;rw[this,<-ZX2,List.map_fst_zip U]
theorem elem_nil{v:Value}{ps:List MemPlace}(h:Zah v=some (.agg [],ps)):v= .pointer none:=by
 unfold Zah at h;split at h
 ·cases h
 ·cases h
 ·rfl
 ·cases h
theorem Zxr(w:World):(zeroValue 136).run prog w= .ok (.pointer none) w:=by kernel_rfl
theorem ZHB{W0:World}{M:Nat}{db:List Tb}(hD:J4 W0 M db)(s:Za)(hs:s.length<=100000):M<W0.heap.size/\
  ((∃T Ze tb,JP db s=some tb/\Zjd tb Ze/\Zc1 Ze/\(∃B,Qi B W0 T Ze)/\s≠ []/\∀w:World,w.heap[M]? =W0.heap[M]?->(Instr.lookup 72 (.map (some M)) (.string ⟨s.toArray⟩) true).run prog w= .ok (.tuple #[.pointer (some ⟨T,0,none⟩),.bool true]) w)\/
  (JP db s=none/\∀w:World,w.heap[M]? =W0.heap[M]?->(Instr.lookup 72 (.map (some M)) (.string ⟨s.toArray⟩) true).run prog w= .ok (.tuple #[.pointer none,.bool false]) w)):=by
 obtain⟨B,names,tl,⟨hnm,Ts,hlen,hval,htab⟩,hnd,hne,hok,rfl⟩:=hD.tabs;have hM:M<W0.heap.size:=by
  obtain⟨es,ck,hm⟩:=hval.obj;exact(ZWU.1 hm).1
 refine⟨hM,?_⟩;rw[<-hnm]at hnd hne;by_cases hm:s∈tl.map (·.1)
 ·obtain⟨x,hx,rfl⟩:=ZXj.1 hm;obtain⟨j,hj,rfl⟩:=ZX4 hx;have hz:(tl[j],Ts[j]' U)∈tl.zip Ts:=by
   rw[ZYn];exact⟨j,ZPo,ZPm⟩
  have hkv:(tl[j].1,nP (Ts[j]' U))∈ZbW tl Ts:=ZXj.2 ⟨_,hz,rfl⟩;refine .inl ⟨Ts[j]' U,tl[j].2,_,Zsh hnd hx,⟨rfl,rfl⟩,hok _ hx,⟨B,htab _ hz⟩,hne _ hm,fun w hw=>?_⟩;obtain⟨v,ps,hrun,hv⟩:=World.ownsMap.look_ok (R:=Zah) (D:=ET (ZbW tl Ts)) (V7 hval hw) KA underlying72 (Zxr w) rfl (Kz tl[j].1 hs);rw[Zkf,Zpv hlen,ZXI.2 hm]at hrun;rw[Zrc (by rw[Zpv hlen];exact hnd) hkv]at hv;rw[ZB2 hv]at hrun;exact hrun
 ·refine .inr ⟨ZCv hm,fun w hw=>?_⟩;obtain⟨v,ps,hrun,hv⟩:=World.ownsMap.look_ok (R:=Zah) (D:=ET (ZbW tl Ts)) (V7 hval hw) KA underlying72 (Zxr w) rfl (Kz s hs);have hh:Maps.has (ET (ZbW tl Ts)) (YD s)=false:=by rw[Zkf,Zpv hlen,ZYo];simpa using hm
  rw[hh]at hrun;rw[Maps.atKey_of_not_has hh]at hv;rw[elem_nil hv]at hrun;exact hrun
structure KM (W0:World) (db:List Tb) (ps:List (Za×Za)) (R:Sc×Bool) (k:Nat) (xs:List XS):Prop where
 len:xs.length=k
 run:∃s:Sc,XC db ((ps.drop k).map Zal) s true=R/\Xk s xs/\s.phase=ZcR/\s.groups= []
 tb:∀x∈xs,∃B,Qi B W0 x.T x.Ze
theorem Xk.nil:Xk {} []:=⟨rfl,rfl,(fun i t x h=>ZPY),List.nodup_nil,(fun n h=>ZPs),ZW8 _,(fun x h=>ZPs)⟩
theorem KM.start{W0:World}{db:List Tb}{ps:List (Za×Za)}{tf:Tr}(he:elems tf=ps.map Zal)(hl:ps.length<=3):KM W0 db ps (XJ db tf) 0 []:=by
 refine⟨rfl,⟨{},?_,Xk.nil,rfl,rfl⟩,fun x h=>ZPs⟩;unfold XJ;have hlen:tf.len=ps.length:=by rw[<-Ey,he,ZW5]
 rw[he,hlen,ZXX hl];rfl
theorem ZKT{db:List Tb}{ps:List (Za×Za)}{tf:Tr}(he:elems tf=ps.map Zal)(hl:¬ps.length<=3):(XJ db tf).2=false:=by
 unfold XJ;have hlen:tf.len=ps.length:=by rw[<-Ey,he,ZW5]
 rw[he,hlen,ZXD hl];exact ZdP _ _ _
theorem ZmN{ps:List (Za×Za)}{k:Nat}(h:k<ps.length):(ps.drop k).map Zal=Zal ps[k]::(ps.drop (k+1)).map Zal:=by
 rw[ZXl h,ZWZ]
theorem KM.none{W0:World}{db:List Tb}{ps:List (Za×Za)}{R:Sc×Bool}{k:Nat}{xs:List XS}(h:KM W0 db ps R k xs)(hk:k<ps.length)(hf:JP db ps[k].1=none):R.2=false:=by
 obtain⟨s,e,_⟩:=h.run;rw[ZmN hk,Zpn,hf]at e;rw[<-e];exact ZdP _ _ _
theorem KM.dup{W0:World}{db:List Tb}{ps:List (Za×Za)}{R:Sc×Bool}{k:Nat}{xs:List XS}{tb:Tb}(h:KM W0 db ps R k xs)(hk:k<ps.length)(hf:JP db ps[k].1=some tb)(hd:(xs.map (·.name)).contains (ZaU ps[k])=true):R.2=false:=by
 obtain⟨s,e,hs,_⟩:=h.run;rw[ZmN hk,Zpn,hf]at e;simp only at e;rw[hs.names,ZWR hd]at e;rw[<-e];exact ZdP _ _ _
theorem KM.next{W0:World}{db:List Tb}{ps:List (Za×Za)}{R:Sc×Bool}{k:Nat}{xs:List XS}{tb:Tb}{T:Nat}{Ze:List (Za×Int)}(h:KM W0 db ps R k xs)(hk:k<ps.length)(hl:ps.length<=3)(hf:JP db ps[k].1=some tb)(hd:(xs.map (·.name)).contains (ZaU ps[k])=false)(hT:Zjd tb Ze)(hc:Zc1 Ze)(hB:∃B,Qi B W0 T Ze)(hne:ps[k].1≠ []):KM W0 db ps R (k+1) (xs++ [⟨ZaU ps[k],T,Ze⟩]):=by
 obtain⟨s,e,hs,hp,hg⟩:=h.run;rw[ZmN hk,Zpn,hf]at e;simp only at e;have hlen:=h.len;have hdn:ZaU ps[k]∉xs.map (·.name):=fun hm=>by rw[ZXI.2 hm]at hd;cases hd
 rw[hs.names,ZWQ (by rw[hd];simp)]at e;refine⟨by rw[ZW9,hlen];rfl,⟨_,e,⟨?_,?_,?_,?_,?_,?_,?_⟩,hp,hg⟩,fun x hx=>?_⟩
 ·show(s.tabs++ [tb]).length=_;rw[ZW9,ZW9,hs.len];rfl
 ·show xs.map (·.name)++ [ZaU ps[k]]=_;rw[ZWY];rfl
 ·intro i t x ht hx;have ht':(s.tabs++ [tb])[i]? =some t:=ht;by_cases hi:i<xs.length
  ·rw[List.getElem?_append_left (by rw[hs.len];exact hi)]at ht';rw[List.getElem?_append_left hi]at hx;exact hs.tabs i t x ht' hx
  ·rw[ZYC (by rw[hs.len];omega)]at ht';rw[ZYC U]at hx;rw[hs.len]at ht';have hi0:i-xs.length=0:=by
    have:=(ZXq.1 hx).1;exact ZWH
   rw[hi0]at ht' hx;simp at ht' hx;subst ht';subst hx;exact hT
 ·show(xs.map (·.name)++ [ZaU ps[k]]).Nodup;rw[List.nodup_append];refine⟨by rw[<-hs.names];exact hs.nd,ZPm,fun a ha b hb=>?_⟩;rw[ZXh]at hb;subst hb;intro e2;subst e2;exact hdn ha
 ·intro n hn;have hn':n∈xs.map (·.name)++ [ZaU ps[k]]:=hn;rcases ZXt.1 hn' with h1|h1
  ·exact hs.ne n (by rw[hs.names];exact h1)
  ·rw[ZXh.1 h1];unfold ZaU;split
   ·exact hne
   ·assumption
 ·rw[ZW9,hlen];simp;omega
 ·intro x hx;rcases ZXt.1 hx with h1|h1
  ·exact hs.ok x h1
  ·rw[ZXh.1 h1];exact hc
 ·rcases ZXt.1 hx with h1|h1
  ·exact h.tb x h1
  ·rw[ZXh.1 h1];exact hB
theorem KM.done{W0:World}{db:List Tb}{ps:List (Za×Za)}{R:Sc×Bool}{xs:List XS}(h:KM W0 db ps R ps.length xs):R.2=true/\Xk R.1 xs/\R.1.phase=ZcR/\R.1.groups= []:=by
 obtain⟨s,e,hs,hp,hg⟩:=h.run;rw[ZYd]at e;rw[<-e];exact⟨rfl,hs,hp,hg⟩
def Vu:List XS->Nat->List Value
 | [],_=> []
 |x::r,f=>.string ⟨x.name.toArray⟩:: .pointer (some ⟨x.T,0,none⟩):: .int .i64 (f:Int)::Vu r (f+x.Ze.length)
theorem ZwC:∀(xs:List XS) (x:XS) (f:Nat),Vu (xs++ [x]) f=Vu xs f++ [.string ⟨x.name.toArray⟩,.pointer (some ⟨x.T,0,none⟩),.int .i64 ((f+ZR xs xs.length:Nat):Int)]
 | [],x,f=>by simp[Vu,ZR]
 |y::xs,x,f=>by
  rw[List.cons_append,Vu,ZwC xs x,Vu];have:f+y.Ze.length+ZR xs xs.length=f+ZR (y::xs) (y::xs).length:=by
   simp[ZR];omega
  rw[this];rfl
theorem ZwD:∀(xs:List XS) (f i:Nat) (h:i<xs.length),(Vu xs f)[i*3]? =some (.string ⟨xs[i].name.toArray⟩)/\(Vu xs f)[i*3+1]? =some (.pointer (some ⟨xs[i].T,0,none⟩))/\(Vu xs f)[i*3+2]? =some (.int .i64 ((f+ZR xs i:Nat):Int))
 |x::xs,f,0,_=>⟨rfl,rfl,by simp[Vu,ZR]⟩
 |x::xs,f,i+1,h=>by
  have ih:=ZwD xs (f+x.Ze.length) i ZPv;have e:∀j,(Vu (x::xs) f)[j+3]? =(Vu xs (f+x.Ze.length))[j]? :=fun j=>by simp[Vu]
  rw[show(i+1)*3=i*3+3 from U,show i*3+3+1=i*3+1+3 from U,show i*3+3+2=i*3+2+3 from U,e,e,e];have hf:f+x.Ze.length+ZR xs i=f+ZR (x::xs) (i+1):=by simp[ZR];omega
  rw[hf]at ih;simpa using ih
theorem Zvs{W:World}{B:Nat}{v:Value}{xs:List XS}(h:W.ownsRow B 268 3 v xs.length (Vu xs 0)):U0 W v xs:=by
 have hc:=fun g=>h.cells (g:=g);rcases h.2 with⟨rfl,h0⟩|⟨g,cap,cu,rfl,_,hh,_⟩
 ·exact ZT2
 ·refine⟨some ⟨g,0,none⟩,cap,rfl,fun i hi=>?_⟩;obtain⟨e0,e1,e2⟩:=ZwD xs 0 i hi;have hg:∀j u,(Vu xs 0)[j]? =some u->W.cell? ⟨g,j,none⟩=some u:=fun j u hj=>by have:=hc g rfl j u hj;rw[ZXE]at this;simpa using this
  rw[ZX5]at e2;exact⟨g,cu,rfl,hh,hg _ _ e0,hg _ _ e1,hg _ _ e2⟩
end Go.Proofs.YthmlacabmlghbaaGreatDoor
