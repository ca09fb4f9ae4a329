import Derived.Test.YthmlacabmlghbaaGreatDoorBgJa15
set_option maxRecDepth 100000
set_option maxHeartbeats 8000000
set_option linter.unusedSimpArgs false
set_option linter.unusedVariables false
namespace Go.Proofs.YthmlacabmlghbaaGreatDoor
open Go.Proofs.Tryz
theorem ZUx{p:Prop}(h:p:=by go_wp2;go_ret2;have e:=HR.out;subst e;exact⟨_,rfl,hB0.trans ((Vj.trans ((hB3.alloc (Nat.le_trans (Nat.le_refl _) hB3.size) _).mono ZSj)).mono hB0.size),fun h=>absurd h U⟩):p:=h
theorem ZUy{p:Prop}(h:p:=by go_wp2;go_ret2;have e:=HR.out;subst e;exact⟨_,rfl,hB0.trans (Vj.mono hB0.size),fun h=>absurd h U⟩):p:=h
open Go.RowKit
theorem Zi8.below{B:Nat}{st:J7}{tb:List J8}{ov:Value}{W W':World}(h:Zi8 B st tb ov W)(hB:Below W.heap.size W W'):Zi8 B st tb ov W':=by
 obtain⟨ts,h1,h2,h4,h3⟩:=h.mem;refine⟨ZW0 h.hB hB.size,h.n8,ts,own_below h1 hB,h2,h4.mono (fun _ _ _ h=>own_below h hB),?_⟩;cases hl:st.last with
 |none=>rw[hl]at h3;exact h3
 |some tr=>
  rw[hl]at h3;obtain⟨ts',nm,a1,c1,a2,c2,a3,c3,rs,q1,q2,q3,q4⟩:=h3;exact⟨ts',nm,a1,c1,a2,c2,a3,c3,rs,q1,own_below q2 hB,own_below q3 hB,q4⟩
def ZiP(B:Nat)(W:World)(v:Value)(tb:List J8):Prop:=∃ts,W.ownsRow B 52 4 v tb.length (Jh ts)/\KN B W tb ts
theorem Tryz.ZEO:(prog.info? 52).map (fun i=>(i.zero,i.size,i.bytes))=some (some (.agg #[.string ⟨#[]⟩,.slice none 0 0,.slice none 0 0,.slice none 0 0]),4,88):=by kernel_rfl
theorem ZvH:∀(n:Nat) (l:List Za),l.length<=n->(Zo l).length=l.length/2
 |_, [],_=>rfl
 |_, [_],_=>by simp[Zo]
 |n+2,a::b::r,h=>by simp only[Zo,List.length_cons];rw[ZvH n r ZPv];omega
 |1,a::b::r,h=>ZPY
 |0,a::b::r,h=>ZPY
theorem ZDA{l:List Za}(h:Zae l=true):1<=(Zo (l.drop 2)).length/\(Zo (l.drop 2)).length<=6:=by
 unfold Zae at h;have h1:Zdw l.length=true:=by cases hh:Zdw l.length<;>simp[hh]at h ⊢
 have h2:4<=l.length/\l.length%2=0/\l.length<=14:=ZXL h1;rw[ZvH _ _ (ZWS _)];simp;omega
theorem Zit{w:World}{B B' e sz n:Nat}{v:Value}{xs:List Value}(h:w.ownsRow B e sz v n xs)(hb:B'<=B):w.ownsRow B' e sz v n xs:=
 ⟨h.1,h.2.imp id fun⟨g,cap,cur,h1,h2,h3⟩=>⟨g,cap,cur,h1,ZW0 hb h2,h3⟩⟩
theorem KN.low{B B':Nat}{W:World}{tb:List J8}{ts:List (Za×Value×Value×Value)}(h:KN B W tb ts)(hb:B'<=B):KN B' W tb ts:=
 ⟨h.len,fun p hp=>⟨(h.all p hp).nm,Zit (h.all p hp).Ze hb,Zit (h.all p hp).types hb,(h.all p hp).rows⟩⟩
theorem ZwT(ts:List (Za×Value×Value×Value))(t:Za×Value×Value×Value)(j:Nat):(Jh (ts++ [t]))[ts.length*4+j]? = [Zp t.1,t.2.1,t.2.2.1,t.2.2.2][j]? :=by
 rw[Zle,ZYC (by rw[Zlf];omega),Zlf,Nat.add_sub_cancel_left];rfl
theorem ZMf(ts:List (Za×Value×Value×Value))(t:Za×Value×Value×Value)(u:Value):(Jh (ts++ [t])).set (ts.length*4+3) u=Jh (ts++ [(t.1,t.2.1,t.2.2.1,u)]):=by
 rw[Zle,Zle,List.set_append,ZWQ (by rw[Zlf];omega),Zlf,Nat.add_sub_cancel_left];rfl
theorem Zo8{st:J7}{p:Za}{ps:List Za}(h1:¬p=UJ)(h2:p=EP)(h3:rowFits st ps.length=none):Eg st p ps=none:=by
 unfold Eg;rw[ZWQ h1,ZWR h2,h3]
theorem ZKL{st:J7}{p:Za}{ps types:List Za}{rows:Nat}(h1:¬p=UJ)(h2:p=EP)(h3:rowFits st ps.length=some (types,rows)):
  Eg st p ps=if ZcZ ps types=true then some ⟨st.names,some (types,rows+1)⟩else none:=by
 unfold Eg;rw[ZWQ h1,ZWR h2,h3]
theorem Tryz.ZER:(prog.info? 58).map (fun i=>(i.zero,i.size,i.bytes))=some (some (.agg #[.string ⟨#[]⟩,.int .i64 0,.string ⟨#[]⟩]),3,40):=by kernel_rfl
theorem ZAV(w:World)(a b c:Value)(ty:TypeId):∀j u, [a,b,c][j]? =some u->(w.alloc (.cells #[a,b,c] ty)).cell? ((⟨w.heap.size,0,none⟩:Addr).add j)=some u:=by
 intro j u h;obtain⟨q0,q1,q2,_⟩:=cells3 (ZWV w (.cells #[a,b,c] ty));rw[ZXE];rcases j with _|_|_|j
 ·cases h;exact q0
 ·cases h;exact q1
 ·cases h;exact q2
 ·simp at h
theorem Tryz.ZEL:(prog.info? 56).map (fun i=>(i.zero,i.size,i.bytes))=some (some (.slice none 0 0),1,24):=by kernel_rfl
theorem ZAT(w:World)(a b c d:Value)(ty:TypeId):∀j u, [a,b,c,d][j]? =some u->(w.alloc (.cells #[a,b,c,d] ty)).cell? ((⟨w.heap.size,0,none⟩:Addr).add j)=some u:=by
 intro j u h;obtain⟨q0,q1,q2,q3,_⟩:=ZaD (ZWV w (.cells #[a,b,c,d] ty));rw[ZXE];rcases j with _|_|_|_|j
 ·cases h;exact q0
 ·cases h;exact q1
 ·cases h;exact q2
 ·cases h;exact q3
 ·simp at h
theorem ZJ4{st:J7}{x:Za}(h:Xf x=some []):EO st x=some st:=by unfold EO;rw[h]
theorem ZJ5{st:J7}{x:Za}(h:Xf x=none):EO st x=none:=by unfold EO;rw[h]
theorem ZJ3{st:J7}{x p:Za}{ps:List Za}(h:Xf x=some (p::ps)):EO st x=Eg st p ps:=by unfold EO;rw[h]
theorem ZKe(s:Za)(W:World)(hs:s.length<=4000):
  Calls prog 5 #[.string ⟨s.toArray⟩] W fun e W'=>∃v,e= .returned (.tuple #[v,.int .i64 (UH ⟨[],none⟩ 0 (ZX s))])/\Below W.heap.size W W'/\Hid (UH ⟨[],none⟩ 0 (ZX s)= -1->ZiP W.heap.size W' v (Qt [] (ZX s))):=by
 have hex:=QY;have hmem:∀x∈ZX s,x.length<=4000:=fun x hx=>ZW0 (Zrn hx) hs;have hlen:(ZX s).length<=4001:=ZW0 (Zrm s) U;have hrl:=fun w=>ZKs s w U;generalize ZX s=ls at hmem hlen hrl ⊢;generalize hRR:UH ⟨[],none⟩ 0 ls=R;have HRR:Hid (UH ⟨[],none⟩ 0 ls=R):=hRR;clear hRR;generalize hTT:Qt [] ls=TT;have HTT:Hid (Qt [] ls=TT):=hTT;clear hTT;go_enter func5,ntmps5;go_wp2_with fail;refine(hrl _).mono ?_;rintro e w1 ⟨lv,rfl,hlv,hB0⟩;clear hrl;obtain⟨al,ZNy,rfl⟩:=Ed hlv;go_wp2;go_loopg [4,6] (ls.length-0+1) (fun gk ov i wr=>∃(k:Nat) (st:J7) (tb:List J8),k<=ls.length/\gk=ls.length-k+1/\i= .int .i64 k/\Zi8 w1.heap.size st tb ov wr/\Below w1.heap.size w1 wr/\Hid (UH st k (ls.drop k)=R)/\Hid (Qt tb (ls.drop k)=TT));case atStart=>exact⟨0,⟨[],none⟩, [],U,rfl,rfl,⟨ZWS _,ZPm, [],ZXp _ _ _ _,rfl,⟨rfl,fun p hp=>by cases hp⟩,rfl⟩,ZWT _ _,HRR,HTT⟩
 case round=>
  obtain⟨k,st,tb,hk,rfl,rfl,hI,hB,hq,hqt⟩:=hrel;obtain⟨ov',Zdj,eo⟩:∃a cap,u4= .slice a st.names.length cap:=by obtain⟨ts,h,_⟩:=hI.mem;exact Ed h
  subst eo;by_cases hlt:k<ls.length
  ·obtain⟨gl,hal,hgl,hcx⟩:∃gl,al=some ⟨gl,0,none⟩/\gl<w1.heap.size/\w1.cell? ⟨gl,k,none⟩=some (Zp ls[k]):=by
    rcases hlv.2 with⟨e,h0⟩|⟨g,cap,cur,e,_,hh,_⟩
    ·omega
    ·cases e;refine⟨g,rfl,(ZWU.1 hh).1,?_⟩;have:=hlv.cells (g:=g) rfl k (Zp ls[k]) (by simp[ZW1 hlt]);exact ZWd
   subst hal;have cx:wr.cell? ⟨gl,k,none⟩=some (.string ⟨ls[k].toArray⟩):=(hB.cell (p:=⟨gl,k,none⟩) hgl).trans hcx;have hx:ls[k].length<=4000:=hmem _ (ZWX hlt);have HD:Hid (ls.drop k=ls[k]::ls.drop (k+1)):=ZXl hlt;clear hcx hlv;generalize hxe:ls[k]=x at cx hx HD;clear hxe;go_wp2_with fail;refine(ZKu x _ U).mono ?_;intro e w2 hp;cases hpc:Xf x with
   |none=>
    rw[hpc]at hp;obtain⟨rfl,hB2⟩:=hp;have HR:Hid (R=(k:Int)+1):=by show _=_;rw[<-hq.out,HD.out,ZbR (ZJ5 hpc)]
    clear hpc cx;go_wp2;go_ret2;have e:=HR.out;subst e;exact⟨_,rfl,hB0.trans ((hB.trans (hB2.mono hB.size)).mono hB0.size),fun h=>absurd h U⟩
   |some l=>
    rw[hpc]at hp;obtain⟨pv,rfl,hpv,hB2⟩:=hp;obtain⟨ap,ZNz,rfl⟩:=Ed hpv;have hpm:=Zru hpc;cases l with
    |nil=>
     have HR:Hid (UH st (k+1) (ls.drop (k+1))=R):=by show _=_;rw[<-hq.out,HD.out,Zk1 (ZJ4 hpc)]
     have HT:Hid (Qt tb (ls.drop (k+1))=TT):=by show _=_;rw[<-hqt.out,HD.out,Qt,ZiG,hpc]
     clear hpc cx;go_wp2;go_roundg (ls.length-(k+1)+1);case measure=>omega
     case rel=>exact⟨k+1,st,tb,U,rfl,ZPp,hI.below hB2,hB.trans (hB2.mono hB.size),HR,HT⟩
    |cons p ps=>
     have ZtX:=ZAg hpc;have HPS:Hid (EO st x=Eg st p ps):=ZJ3 hpc;have HTL:Hid (Qt (if p=UJ then tb++ [(ps.getD 0 [],(Zo (ps.drop 1)).map (·.1),(Zo (ps.drop 1)).map (·.2))]else tb) (ls.drop (k+1))=TT):=by show _=_;rw[<-hqt.out,HD.out,Qt,ZiG,hpc]
     clear hpc cx;have hvw:=Zox (l:=p::ps) hpv;obtain⟨gp,hap,hgp⟩:∃gp,ap=some ⟨gp,0,none⟩/\∀j (h:j<(p::ps).length),w2.cell? ⟨gp,j,none⟩=some (Zp ((p::ps)[j])):=by
      obtain⟨a,cap,e,hc⟩:=hvw;cases e;rcases hpv.2 with⟨e,h0⟩|⟨g,cap,cur,e,_⟩
      ·cases h0
      ·cases e;refine⟨g,rfl,fun j h=>?_⟩;obtain⟨g1,o1,e1,h1⟩:=hc j h;cases e1;simpa using h1
     subst hap;have HGP:Hid (∀j (h:j<(p::ps).length),w2.cell? ⟨gp,j,none⟩=some (Zp ((p::ps)[j]))):=hgp;clear hgp;have cp0:w2.cell? ⟨gp,0,none⟩=some (.string ⟨p.toArray⟩):=HGP.out 0 ZPm;have ZtZ:(p::ps).length<=90000:=U
     have hps:ps.length<=90000:=by simp at ZtZ;omega
     have hpl:∀y∈p::ps,y.length<=90000:=fun y hy=>by have:=(hpm y hy).2;omega
     have Vj:Below w1.heap.size w1 w2:=hB.trans (hB2.mono hB.size);have hI2:=hI.below hB2;by_cases htb:p=UJ
     ·have hb1:(p== [116,97,98,108,101])=true:=by rw[htb];rfl
      have JK:Hid (p=UJ):=htb;clear htb;go_wp2_with fail;refine(ZKq _ (p::ps) _ hpl ZtZ hvw).mono ?_;rintro e w3 ⟨nm,a1,a2,n1,n2,c1,c2,rfl,HH,hB3⟩;cases hho:Zae (p::ps)with
      |false=>
       have HR:Hid (R=(k:Int)+1):=by show _=_;rw[<-hq.out,HD.out,ZbR (by rw[HPS.out];unfold Eg;rw[ZWR JK.out,ZWQ (by rw[hho];simp)])]
       clear hho;exact ZUx
      |true=>
       have HHO:Hid (Zae (p::ps)=true):=hho;obtain⟨hnm,hn1,hn2,Kc,hcv⟩:=HH.out hho;have hl6:=ZDA hho;clear hho HH;have UU:Hid (nm=ps.getD 0 []):=hnm;have Qz:Hid (n1=(Zo (ps.drop 1)).length):=hn1;have XX:Hid (n2=(Zo (ps.drop 1)).length):=hn2;clear hnm hn1 hn2;by_cases h8:st.names.length=8
       ·have hb8:((st.names.length:Int)==8)=true:=by simp[h8]
        have HR:Hid (R=(k:Int)+1):=by show _=_;rw[<-hq.out,HD.out,ZbR (by rw[HPS.out];unfold Eg;rw[ZWR JK.out,ZWQ (by intro h;exact h.2.1 h8)])]
        clear h8;exact ZUx
       ·have hb8:((st.names.length:Int)==8)=false:=by simp;omega
        have H8:Hid (st.names.length≠8):=h8;clear h8;have hA3:Below w2.heap.size w2 (w3.alloc (.cells #[.string ⟨nm.toArray⟩,.slice a1 n1 c1,.slice a2 n2 c2,.slice none 0 0] 52)):=hB3.alloc hB3.size _;have hI3:=hI2.below hA3;obtain⟨ts,ho3,ZK,ZEs,_⟩:=hI3.mem;have hvn:=ZIp ho3 ZK;have hT3:=ZWV w3 (.cells #[.string ⟨nm.toArray⟩,.slice a1 n1 c1,.slice a2 n2 c2,.slice none 0 0] 52);have hn8:=hI.n8;go_wp2_with fail;refine(ZKl _ st.names nm _ U hvn).mono ?_;rintro e w4 ⟨r,rfl,hfo,hB4⟩;have Zco:Below w1.heap.size w1 w4:=Vj.trans ((hA3.trans (hB4.mono hA3.size)).mono Vj.size);by_cases hin:nm∈st.names
        ·have hr:0<=r:=hfo.1 hin;have HR:Hid (R=(k:Int)+1):=by show _=_;rw[<-hq.out,HD.out,ZbR (by rw[HPS.out];unfold Eg;rw[ZWR JK.out,ZWQ (by rw[<-UU.out];intro h;exact h.2.2 hin)])]
         clear hin hfo;go_wp2;go_ret2;have e:=HR.out;subst e;exact⟨_,rfl,hB0.trans (Zco.mono hB0.size),fun h=>absurd h U⟩
        ·obtain rfl:r= -1:=hfo.2 hin;have HR:Hid (UH ⟨st.names++ [nm],some ((Zo (ps.drop 1)).map (·.2),0)⟩ (k+1) (ls.drop (k+1))=R):=by
          show _=_;rw[<-hq.out,HD.out];refine(Zk1 ?_).symm;rw[HPS.out];unfold Eg;rw[ZWR JK.out,ZWR ⟨HHO.out,H8.out,by rw[<-UU.out];exact hin⟩,UU.out]
         clear hin hfo;have hT4:=(hB4.block w3.heap.size ZPm).trans hT3;obtain⟨q0,q1,q2,q3,_⟩:=ZaD hT4;have ho4:=own_below ho3 hB4;have Zn5:=own_below (own_below Kc ((ZWT _ w3).alloc (ZWS _) (.cells #[.string ⟨nm.toArray⟩,.slice a1 n1 c1,.slice a2 n2 c2,.slice none 0 0] 52))) hB4;have ZDz:=own_below (own_below hcv ((ZWT _ w3).alloc (ZWS _) (.cells #[.string ⟨nm.toArray⟩,.slice a1 n1 c1,.slice a2 n2 c2,.slice none 0 0] 52))) hB4;obtain⟨i0,hi,hz0,hz1,hz2⟩:=ZXd Tryz.ZEO;have hw4:w1.heap.size<=w4.heap.size:=Zco.size;go_wp2_with (at_builtin;go_must (refine ZXg _ rfl _ _ 25 rfl w1.heap.size 52 i0 (.agg #[.string ⟨#[]⟩,.slice none 0 0,.slice none 0 0,.slice none 0 0]) 4 88 underlying25 hi hz0 hz1 hz2 rfl ZPl _ _ _ rfl (ho4.alloc _) ⟨w4.heap.size,0,none⟩ 1 1 [.string ⟨nm.toArray⟩,.slice a1 n1 c1,.slice a2 n2 c2,.slice none 0 0] rfl rfl (ZAT _ _ _ _ _ _) ZPA ZPq U ZPo ?_);intro v' w5 hown' hgrow _);go_roundg (ls.length-(k+1)+1);case measure=>omega
         case rel=>
          have hBF:=XM Zco hw4 ho4 hgrow;have e1:=Qz.out;have e2:=XX.out;subst e1 e2;have hk5:∀v n xs,w4.ownsRow w2.heap.size 9 1 v n xs->w5.ownsRow w1.heap.size 9 1 v n xs:=fun v n xs h=>Zit (ZdI (h.alloc _) hgrow (ZeO h ho4 ZPl)) (by have:=Vj.size;omega);have ZDT:∀v n xs,w4.ownsRow w1.heap.size 9 1 v n xs->w5.ownsRow w1.heap.size 9 1 v n xs:=fun v n xs h=>ZdI (h.alloc _) hgrow (ZeO h ho4 ZPl);have Zn3:=(ZEs.mono (fun _ _ _ h=>own_below h hB4)).mono ZDT;have ht:=HTL.out;rw[ZWR JK.out]at ht;refine⟨k+1,⟨st.names++ [nm],some ((Zo (ps.drop 1)).map (·.2),0)⟩,_,U,rfl,ZPp,⟨hBF.size,by simp;have:=H8.out;omega,ts++ [(nm,.slice a1 (Zo (ps.drop 1)).length c1,.slice a2 (Zo (ps.drop 1)).length c2,.slice none 0 0)],?_,by simp[ZK],Zn3.add ⟨UU.out,?_,?_,none,0,0,rfl⟩,ts,nm,a1,c1,a2,c2,none,0, [],?_,?_,ZXp _ _ _ _,U,?_,?_⟩,hBF,HR,ht⟩
          ·rw[Zle,ZW9];exact hown'
          ·simp only[ZW5];exact hk5 _ _ _ ZDz
          ·simp only[ZW5];exact hk5 _ _ _ Zn5
          ·simp
          ·simp only[ZW5];exact Zit (ZdI (Zn5.alloc _) hgrow (ZeO Zn5 ho4 ZPl)) (by have:=Vj.size;omega)
          ·simp only[ZW5];exact hl6.2
          ·simp only[ZW5];exact hl6.1
     ·have hb1:(p== [116,97,98,108,101])=false:=by simpa[UJ]using htb
      have JK:Hid (¬p=UJ):=htb;clear htb;have hn8:=hI.n8;by_cases hrw:p=EP
      ·have hb2:(p== [114,111,119])=true:=by rw[hrw];rfl
       have hb2':(p != [114,111,119])=false:=by rw[hrw];rfl
       have HRW:Hid (p=EP):=hrw;clear hrw;cases hla:st.last with
       |none=>
        have HR:Hid (R=(k:Int)+1):=by show _=_;rw[<-hq.out,HD.out,ZbR (by rw[HPS.out];exact Zo8 JK.out HRW.out (by unfold rowFits;rw[hla]))]
        have h0:st.names.length=0:=by
         obtain⟨ts,_,hn,_,hl⟩:=hI.mem;rw[hla]at hl;have hl':ts= []:=hl;rw[<-hn,hl'];rfl
        clear hla;rw[h0];exact ZUy
       |some tr=>
        obtain⟨types,rows⟩:=tr;obtain⟨ts,ho,hn,ZEt,hl⟩:=hI2.mem;rw[hla]at hl;obtain⟨ts',nm,a1,c1,a2,c2,a3,c3,rs,ets,Kc,K6,ZOu,ht6,ht1⟩:=hl;subst ets;have hnl:st.names.length=ts'.length+1:=by rw[<-hn];simp
        obtain⟨go,hov⟩:∃go,ov'=some ⟨go,0,none⟩:=by
         rcases ho.2 with⟨_,h0⟩|⟨g,cap,cur,e,_⟩
         ·omega
         ·cases e;exact⟨g,rfl⟩
        subst hov;have hcell:∀j u, [Zp nm,.slice a1 types.length c1,.slice a2 types.length c2,.slice a3 rows c3][j]? =some u->w2.cell? ⟨go,ts'.length*4+j,none⟩=some u:=by
         intro j u hj;have:=ho.cells (g:=go) rfl (ts'.length*4+j) u (by rw[ZwT];exact hj);exact ZWd
        have t1:=hcell 1 _ rfl;have t2:=hcell 2 _ rfl;have t3:=hcell 3 _ rfl;clear hcell;rw[hnl]at ho ⊢;generalize htn:ts'.length=m at *;have HTN:Hid (ts'.length=m):=htn;have HNL:Hid (st.names.length=m+1):=hnl;clear htn hnl;have hm7:m<=7:=by have:=HNL.out;omega
        by_cases hfit:ps.length=types.length/\rows≠12
        ·have UR:Hid (EO st x=if ZcZ ps types=true then some ⟨st.names,some (types,rows+1)⟩else none):=by
          show _=_;rw[HPS.out];exact ZKL JK.out HRW.out (by unfold rowFits;rw[hla];simp only;rw[ZWR hfit])
         have HLE:Hid (ps.length=types.length):=hfit.1;have ZOt:ps.length<=6:=by have:=hfit.1;omega
         have d1:((ps.length:Int)+1 != (types.length:Int)+1)=false:=by rw[hfit.1];simp
         have d1':(ps.length:Int)=(types.length:Int):=by rw[hfit.1]
         have d2:((rows:Int)==12)=false:=by have:=hfit.2;simp;omega
         have ZnW:rows<=11:=by have:=hfit.2;omega
         clear hfit hla;obtain⟨ga,hga⟩:∃ga,a2=some ⟨ga,0,none⟩:=by
          rcases Kc.2 with⟨_,h0⟩|⟨g,cap,cur,e,_⟩
          ·omega
          ·cases e;exact⟨g,rfl⟩
         subst hga;have V8:Hid (∀j (h:j<types.length),ga<w2.heap.size/\w2.cell? ⟨ga,j,none⟩=some (Zp types[j])):=by
          intro j h;have h1:=Kc.cells (g:=ga) rfl j (Zp types[j]) (by simp[ZW1 h]);rw[ZXE]at h1;have h2:w2.cell? ⟨ga,j,none⟩=some (Zp types[j]):=ZQr
          exact⟨ZWW w2 _ h2,h2⟩
         have hgo:go<w2.heap.size:=ZWW w2 _ t2;have Ztw:gp<w2.heap.size:=ZWW w2 _ cp0;go_wp2;go_loopg [12,13] (ps.length-0+1) (fun gk rv c wi=>∃(j:Nat) (vs:List Value),j<=ps.length/\gk=ps.length-j+1/\c= .int .i64 (j+1:Nat)/\wi.ownsRow w2.heap.size 58 3 rv j vs/\Below w2.heap.size w2 wi/\
           Hid (∀i,i<j->(h:i<ps.length)->(h':i<types.length)->(QJ ps[i] types[i]).2=true))
         case atStart=>exact⟨0, [],U,rfl,rfl,ZXp _ _ _ _,ZWT _ _,by intro i hi;omega⟩
         case round=>
          obtain⟨j,vs,hj,rfl,rfl,hrow,U8,hvo⟩:=hrel;by_cases hjl:j<ps.length
          ·have hjt:j<types.length:=by have:=HLE.out;omega
           have ci:wr.cell? ⟨gp,j+1,none⟩=some (.string ⟨ps[j].toArray⟩):=(U8.cell (p:=⟨gp,j+1,none⟩) Ztw).trans (HGP.out (j+1) ZPo);have ti:wr.cell? ⟨go,m*4+2,none⟩=some (.slice (some ⟨ga,0,none⟩) types.length c2):=(U8.cell (p:=⟨go,m*4+2,none⟩) hgo).trans t2;have yi:wr.cell? ⟨ga,j,none⟩=some (.string ⟨types[j].toArray⟩):=(U8.cell (p:=⟨ga,j,none⟩) (V8.out j hjt).1).trans (V8.out j hjt).2;have VU:=hpm ps[j] (ZXe _ (ZWX hjl));have ZfH:=fun w=>ZKw ps[j] types[j] w U VU.1;have HVJ:Hid ((QJ ps[j] types[j]).2=true->∀i,i<j+1->(h:i<ps.length)->(h':i<types.length)->(QJ ps[i] types[i]).2=true):=by
            intro h0 i hi h h';by_cases hij:i=j
            ·subst hij;exact h0
            ·exact hvo.out i U h h'
           have HVF:Hid ((QJ ps[j] types[j]).2=false->ZcZ ps types=false):=by
            intro h0;unfold ZcZ;rw[List.all_eq_false];refine⟨(ps[j],types[j]),?_,by simpa using h0⟩;rw[ZYn];exact⟨j,ZPo,ZPm⟩
           generalize ps[j]=pj at ci ZfH HVJ HVF;generalize types[j]=tj at yi ZfH HVJ HVF;generalize QJ pj tj=rvj at ZfH HVJ HVF;clear VU;obtain⟨⟨kd,nu,tx⟩,gd⟩:=rvj;simp only[Zi7.v]at ZfH;have hj0:(0:Int)<=(j:Int)+1:=U
           have hj1:(j:Int)+1<(ps.length:Int)+1:=U
           have hj2:(j:Int)<(types.length:Int):=U
           have XH:IntKind.i64.wrap ((j:Int)+1-1)=(j:Int):=by rw[IntKind.wrap_i64];omega
           have hj5:IntKind.i64.wrap (j:Int)=(j:Int):=by rw[IntKind.wrap_i64];omega
           have X5:((j:Int)+1).toNat=j+1:=U
           have cia:∀o,(wr.alloc o).cell? ⟨gp,j+1,none⟩=some (.string ⟨pj.toArray⟩):=fun o=>(ZW6 wr o ⟨gp,j+1,none⟩ (ZXi Ztw U8.size)).trans ci;have tia:∀o,(wr.alloc o).cell? ⟨go,m*4+2,none⟩=some (.slice (some ⟨ga,0,none⟩) types.length c2):=fun o=>(ZW6 wr o ⟨go,m*4+2,none⟩ (ZXi hgo U8.size)).trans ti;have yia:∀o,(wr.alloc o).cell? ⟨ga,j,none⟩=some (.string ⟨tj.toArray⟩):=fun o=>(ZW6 wr o ⟨ga,j,none⟩ (ZWW wr _ yi)).trans yi;go_upto_region 24 with fail
           go_cut [14,15] (fun pt g wx=>∃T,pt= .pointer (some ⟨T,0,none⟩)/\g= .bool gd/\wx.heap[T]? =some (.cells #[.string ⟨kd.toArray⟩,.int .i64 nu,.string ⟨tx.toArray⟩] 58 (0,0))/\Below wr.heap.size wr wx);case first=>
            go_region_with (go_at_call 17;refine(ZfH _).mono ?_;rintro e w' ⟨rfl,K3⟩;first|(have hTv:w'.heap[wr.heap.size]? =some (.cells #[.string ⟨#[]⟩,.int .i64 0,.string ⟨#[]⟩] 58 (0,0)):=(K3.block wr.heap.size ZPm).trans (by exact ZWV _ _);obtain⟨z0,z1,z2,zf⟩:=cells3 hTv;have zf0:=zf 0;have zf1:=zf 1;have zf2:=zf 2)|skip);all_goals
             go_wp2_with fail;go_meet;first
              |exact⟨_,rfl,rfl,ZWV w' _,(show Below wr.heap.size wr w' from ⟨K3.os,K3.tape,K3.output,K3.size,K3.block⟩).alloc K3.size _⟩
              |exact⟨wr.heap.size,rfl,rfl,X8 (X8 (X8 hTv)),(((((ZWT _ wr).alloc (ZWS _) (.cells #[.string ⟨#[]⟩,.int .i64 0,.string ⟨#[]⟩] 58)).trans ((show Below (wr.alloc (.cells #[.string ⟨#[]⟩,.int .i64 0,.string ⟨#[]⟩] 58)).heap.size (wr.alloc (.cells #[.string ⟨#[]⟩,.int .i64 0,.string ⟨#[]⟩] 58)) w' from ⟨K3.os,K3.tape,K3.output,K3.size,K3.block⟩).mono ZPm)).setCell (p:=⟨wr.heap.size,0,none⟩) (ZWS _) _).setCell (p:=⟨wr.heap.size,1,none⟩) (ZWS _) _).setCell (p:=⟨wr.heap.size,2,none⟩) (ZWS _) _⟩
           case rest=>
            obtain⟨T,rfl,rfl,hT,U7⟩:=hcut;clear ci ti yi cia tia yia ZfH;obtain⟨z0,z1,z2,_⟩:=cells3 hT;cases gd with
            |false=>
             have HR:Hid (R=(k:Int)+1):=by show _=_;rw[<-hq.out,HD.out,ZbR (by rw[UR.out,ZWQ (by rw[HVF.out rfl];simp)])]
             go_wp2;go_ret2;have e:=HR.out;subst e;have hBE:=hB0.trans ((Vj.trans ((U8.trans (U7.mono U8.size)).mono Vj.size)).mono hB0.size);first
              |exact⟨_,rfl,hBE,fun h=>absurd h U⟩
              |exact⟨⟨_,rfl⟩,hBE,fun h=>absurd h U⟩
            |true=>
             have Zt2:=own_below hrow U7;obtain⟨i0,hi,hz0,hz1,hz2⟩:=ZXd Tryz.ZER;have ZsF:=U8.trans (U7.mono U8.size);have hw2:=ZsF.size;go_wp2_with (at_builtin;go_must (refine ZXg _ rfl _ _ 56 rfl w2.heap.size 58 i0 (.agg #[.string ⟨#[]⟩,.int .i64 0,.string ⟨#[]⟩]) 3 40 underlying56 hi hz0 hz1 hz2 rfl ZPl _ _ _ rfl (Zt2.alloc _) ⟨wc.heap.size,0,none⟩ 1 1 [.string ⟨kd.toArray⟩,.int .i64 nu,.string ⟨tx.toArray⟩] rfl rfl (ZAV _ _ _ _ _) ZPA ZPq U ZPo ?_);intro v' w5 hown' hgrow _);go_roundg (ps.length-(j+1)+1);case measure=>omega
             case rel=>exact⟨j+1,_,U,rfl,ZPp,hown',XM ZsF hw2 Zt2 hgrow,HVJ.out ZRn⟩
          ·have HVT:Hid (ZcZ ps types=true):=by
            show _=_;unfold ZcZ;rw[ZXQ];intro y hy;obtain⟨i,hi,rfl⟩:=ZYn.1 hy;simp only[List.length_zip]at hi;simp only[List.getElem_zip];exact hvo.out i U U U
           have HR:Hid (UH ⟨st.names,some (types,rows+1)⟩ (k+1) (ls.drop (k+1))=R):=by
            show _=_;rw[<-hq.out,HD.out];refine(Zk1 ?_).symm;rw[UR.out,ZWR HVT.out]
           obtain⟨ar,cr,rfl⟩:=Ed hrow;have hoi:=own_below ho U8;have Zh7:=own_below K6 U8;have Zua:=own_below Kc U8;have ti3:wr.cell? ⟨go,m*4+3,none⟩=some (.slice a3 rows c3):=(U8.cell (p:=⟨go,m*4+3,none⟩) hgo).trans t3;have ZsG:=Vj.trans (U8.mono Vj.size);have hwi:=ZsG.size;obtain⟨i0,hi,hz0,hz1,hz2⟩:=ZXd Tryz.ZEL;have HOI:Hid (wr.ownsRow w1.heap.size 52 4 (.slice (some ⟨go,0,none⟩) (m+1) Zdj) (m+1) (Jh (ts'++ [(nm,.slice a1 types.length c1,.slice (some ⟨ga,0,none⟩) types.length c2,.slice a3 rows c3)]))):=hoi;have HTI:=ZeO hoi Zh7 ZPl;have HC5:Hid ((Jh (ts'++ [(nm,.slice a1 types.length c1,.slice (some ⟨ga,0,none⟩) types.length c2,.slice a3 rows c3)]))[m*4+3]? =some (.slice a3 rows c3)):=by show _=_;rw[<-HTN.out,ZwT];rfl
           clear hoi ho t1 t2 t3;go_wp2_with (at_builtin;go_must (refine ZXg _ rfl _ _ 50 rfl w1.heap.size 56 i0 (.slice none 0 0) 1 24 underlying50 hi hz0 hz1 hz2 rfl ZPl _ _ _ rfl (Zh7.alloc _) ⟨wr.heap.size,0,none⟩ 1 1 [.slice ar j cr] rfl rfl (ZXm _ _ _) ZPA ZPq U ZPo ?_);intro v' w5 hown' hgrow _;go_must (obtain⟨g',cap',rfl⟩:=Zvt hown');go_must (have ho5:=ZdI (HOI.out.alloc _) hgrow HTI);go_must (have f3:=ho5.frozenAt (m*4+3));go_must (have c5:w5.cell? ⟨go,m*4+3,none⟩=some (.slice a3 rows c3):=(ho5.cellAt (m*4+3) U).trans HC5.out));go_roundg (ls.length-(k+1)+1);case measure=>omega
           case rel=>
            have hgB:=(HOI.out.lt go rfl).1;have hBF:=(XM ZsG hwi Zh7 hgrow).setCell (p:=⟨go,m*4+3,none⟩) hgB (.slice (some ⟨g',0,none⟩) (rows+1) cap');have Zn:∃cur,w5.heap[go]? =some (.cells cur 52 (0,0)):=by
             rcases ho5.2 with⟨h',_⟩|⟨g1,cp,cu,e1,_,hh,_⟩
             ·cases h'
             ·cases e1;exact⟨cu,hh⟩
            obtain⟨cur,Zn⟩:=Zn;have h1:=(ho5.stored (m*4+3) (.slice (some ⟨g',0,none⟩) (rows+1) cap')).1;rw[<-HTN.out,ZMf,HTN.out]at h1;have hk5:∀v n xs,wr.ownsRow w1.heap.size 9 1 v n xs->(w5.setCell ⟨go,m*4+3,none⟩ (.slice (some ⟨g',0,none⟩) (rows+1) cap')).ownsRow w1.heap.size 9 1 v n xs:=fun v n xs h=>UF (ZdI (h.alloc _) hgrow (ZeO h Zh7 ZPl)) Zn ZPl;have Zn3:=((ZEt.mono (fun _ _ _ h=>own_below h U8)).mono hk5).rows (a':=some ⟨g',0,none⟩) (n':=rows+1) (c':=cap');have ht:=HTL.out;rw[ZWQ JK.out]at ht;refine⟨k+1,⟨st.names,some (types,rows+1)⟩,tb,U,rfl,ZPp,⟨hBF.size,hI.n8,ts'++ [(nm,.slice a1 types.length c1,.slice (some ⟨ga,0,none⟩) types.length c2,.slice (some ⟨g',0,none⟩) (rows+1) cap')],?_,?_,Zn3,ts',nm,a1,c1,_,c2,_,cap',rs++ [.slice ar j cr],rfl,?_,?_,U,U,U⟩,hBF,HR,ht⟩
            ·rw[HNL.out];exact h1
            ·rw[<-hn];simp
            ·exact UF (ZdI (Zua.alloc _) hgrow (ZeO Zua Zh7 ZPl)) Zn ZPl
            ·exact UF hown' Zn ZPl
        ·by_cases hle:ps.length=types.length
         ·have h12:rows=12:=by
           by_cases h:rows=12
           ·exact h
           ·exact absurd ⟨hle,h⟩ hfit
          have HR:Hid (R=(k:Int)+1):=by show _=_;rw[<-hq.out,HD.out,ZbR ZSk]
          have d1:((ps.length:Int)+1 != (types.length:Int)+1)=false:=by rw[hle];simp
          have d1':(ps.length:Int)=(types.length:Int):=by rw[hle]
          have d2:((rows:Int)==12)=true:=by rw[h12];rfl
          have d2':(rows:Int)=12:=by rw[h12];rfl
          clear hfit hle h12 hla;exact ZUy
         ·have HR:Hid (R=(k:Int)+1):=by show _=_;rw[<-hq.out,HD.out,ZbR ZSk]
          have d1:((ps.length:Int)+1 != (types.length:Int)+1)=true:=by simp;omega
          have d1':¬(ps.length:Int)=(types.length:Int):=U
          clear hfit hle hla;exact ZUy
      ·have hb2:(p != [114,111,119])=true:=by simpa[EP,bne]using hrw
       have hb3:¬p= [114,111,119]:=hrw;have hb4:(p== [114,111,119])=false:=by simpa[EP]using hrw
       have HR:Hid (R=(k:Int)+1):=by show _=_;rw[<-hq.out,HD.out,ZbR (by rw[HPS.out];unfold Eg;rw[ZWQ JK.out,ZWQ hrw])]
       clear hrw;exact ZUy
  ·obtain rfl:k=ls.length:=by omega
   have HR:Hid (R= -1):=by show _=_;rw[<-hq.out,ZYd];rfl
   go_wp2;go_ret2;have e:=HR.out;subst e;refine⟨_,rfl,hB0.trans (hB.mono hB0.size),fun _=>?_⟩;have ht:=hqt.out;rw[ZYd,Qt]at ht;obtain⟨ts,h1,h2,h3,_⟩:=hI.mem;have hl:tb.length=st.names.length:=by rw[h3.len,<-h2,ZW5]
   have hbb:=hB0.size;rw[<-ht];exact⟨ts,by rw[hl];exact Zit h1 hbb,h3.low hbb⟩
end Go.Proofs.YthmlacabmlghbaaGreatDoor
