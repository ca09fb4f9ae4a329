import Derived.Test.YtncnkiabjhhclaaGreatDoorBgNp
set_option maxRecDepth 100000
set_option maxHeartbeats 8000000
set_option linter.all false
namespace Go.Proofs.YtncnkiabjhhclaaGreatDoor
open Go.Proofs.Tryz
variable{S:List Nat}{W W':World}
def mH{p:Prop}(h:p:=by rintro e w1 ⟨bb,rfl,hR⟩;go_wp2_with fail;go_ret2;exact⟨bb,rfl,hR⟩):p:=h
open Go.RowKit
def AX(W:World):PQ->Value->List Nat->Prop
 | .yO s,v,S=>∃b x d,v= .iface 211 (vU b)/\Eg W b x s none d/\S= [b]
 | .Ai l sign r,v,S=>∃j lv rv S1 S2,v= .iface 170 (vU j)/\W.heap[j]? =some (.cells #[lv,.string ⟨sign.toArray⟩,rv] 173)/\AX W l lv S1/\AX W r rv S2/\S=S1++S2/\(∀g∈S1,g∉S2)
def RJ(W:World)(S:List Nat):Prop:=∀g∈S,∃cu:Array Value,W.heap[g]? =some (.cells cu 259)/\∀(i:Nat) (n:Int),cu[i]?≠some (.int .i64 n)
def Eg.ZPk{b}{x}{s}{wb}{d}(h:Eg W b x s wb d):∃cu,W.heap[b]? =some (.cells cu 259)/\∀(i:Nat) n,cu[i]?≠some (.int .i64 n):=by
 obtain⟨hp,q,ev,hb,h1,h2⟩:=h;obtain⟨sa,sc,e1,_⟩:=hp.src;obtain⟨K2,c2,e2,_⟩:=hp.wh.func;obtain⟨⟨ka,kc,e3,_⟩,_⟩:=hp.ks;obtain⟨ma,mc,e4,_⟩:=hp.made;obtain⟨K5,c5,e5,_⟩:=hp.D8.func;obtain⟨ia,ic,e6,_⟩:=hp.vY;obtain⟨ea,en,ec,e7⟩:∃a n c,ev= .slice a n c:=by
  cases d with
  |false=>exact⟨_,_,_,h1 rfl⟩
  |true=>obtain⟨a,c,e,_⟩:=h2 rfl;exact⟨_,_,_,e⟩
 refine⟨_,hb,λi n e=>?_⟩;simp only[BL.cells,e1,e2,e3,e4,e5,e6,e7]at e;match i with
 |0|1|2|3|4|5|6|7|8|9|10|11=>simp at e
 |i+12=>simp at e
theorem AX.bs:∀{q:PQ} {v:Value} {S:List Nat},AX W q v S->RJ W S
 | .yO s,v,S,⟨b,x,d,_,h,e⟩=>by
  subst e;intro g hg;have:g=b:=bJ
  subst this;exact h.ZPk
 | .Ai l sign r,v,S,⟨j,lv,rv,S1,S2,_,_,h1,h2,e,_⟩=>by
  subst e;intro g hg;rcases qH.1 hg with h|h
  ·exact h1.bs g h
  ·exact h2.bs g h
def RJ.kt(h:RJ W S)(hx:Ox S W W'):KT Ig W W':=KT.Zpu hx λg hg cu ty ht e=>by
 obtain⟨BA,h',_⟩:=h g hg;rw[h']at e;cases e;revert ht;decide
theorem AX.wJ(hk:KT Ig W W'):∀{q:PQ} {v:Value} {S:List Nat},AX W q v S->(∀g∈S,W'.heap[g]? =W.heap[g]?)->AX W' q v S
 | .yO s,v,S,⟨b,x,d,e1,h,e⟩,hs=>⟨b,x,d,e1,h.same hk (hs b cO),e⟩
 | .Ai l sign r,v,S,⟨j,lv,rv,S1,S2,e1,hj,h1,h2,e,hd⟩,hs=>⟨j,lv,rv,S1,S2,e1,hk _ _ _ O hj,h1.wJ hk (λg hg=>hs g eF),h2.wJ hk (λg hg=>hs g eF),e,hd⟩
def AX.below{q}{v}(h:AX W q v S)(hB:vV W W'):AX W' q v S:=h.wJ (KT.vZ hB) λg hg=>by
 obtain⟨cu,hc,_⟩:=h.bs g hg;exact hB.block g (wo hc)
def CV.ox{b}{bg}(h:CV W b bg)(hx:Ox S W W')(hs:RJ W S):CV W' b bg:=by
 obtain⟨⟨x,bv,bs,rv,tv,h1,h2,h3,h4⟩,h5⟩:=h;have mv:=fun(g:Nat) (o:Obj) (e:W.heap[g]? =some o) (hn:(∀cu,o≠.cells cu 259))=>hx.block g (wo e) (λhm=>by
  obtain⟨cu,hc,_⟩:=hs g hm;rw[hc]at e;cases e;exact hn cu rfl)
 have nc:∀{cu:Array Value} {ty:TypeId},ty≠259->∀BA,Obj.cells cu ty≠.cells BA 259:=λht BA e=>by cases e;exact ht rfl
 refine⟨⟨x,bv,bs,rv,tv,(mv b _ h1 (nc O)).trans h1,h2.same (mv x _ h2.obj (nc O)) ?_ ?_,?_,?_⟩,h5⟩
 ·obtain⟨es,c,e,_⟩:=h2.wR;exact mv bv _ e (λcu e=>ai)
 ·obtain⟨es,c,e,_⟩:=h2.keys;exact mv bs _ e (λcu e=>ai)
 ·exact h3.same (hs.kt hx) O O
 ·obtain⟨a,c,e,e1,e2,h⟩:=h4;refine⟨a,c,e,e1,e2,λi hi=>?_⟩;obtain⟨g,ea,hc⟩:=h i hi;refine⟨g,ea,?_⟩;have xL:g<W.heap.size:=oH W ⟨g,i,none⟩ hc;refine yP (hx.block g xL (λhm=>?_)) hc;obtain⟨cu,ho,hn⟩:=hs g hm;simp[World.cell?,ho]at hc;exact hn i _ hc
def ZlO(s:vS):Prop:=s=sUA\/s=sIA\/s=sEA\/s=sU\/s=sI\/s=sE
inductive Tz:PQ->List xE->xk->Nat->Prop
 |yO {s:Aq} {up:List xE} {bg:xk} {met:Nat} (ts:List (Nat×Nat)) (ok:T9 s.yu) (Fa:(zJ s).length<=64) (hm:CR (λf=>DD s.Ee (f::up)) (zJ s)=some ts)
  (hr:(xG (ts.map (·.2))≠0/\bg={}/\met=xG (ts.map (·.2)))\/(xG (ts.map (·.2))=0/\Nl s up (DT (zJ s) (ts.map (·.1))) bg met)):Tz (.yO s) up bg met
 |Ai {l r:PQ} {sign:vS} {up:List xE} {a b bg:xk} {m n met:Nat} (h1:Tz l up a m) (h2:Tz r up b n) (hs:ZlO sign) (hr:(xG [m,n]≠0/\bg={}/\met=xG [m,n])\/(xG [m,n]=0/\ZdW (EJ sign) a b/\bg=xk.put sign a b/\met=0)):Tz (.Ai l sign r) up bg met
def M4(r:Nat):Value:=.iface 135 (vU r)
def ZRr(p)(w):(Instr.typeAssert (.iface 211 (.pointer p)) 61 170 true).run prog w= .ok (.tuple #[.pointer none,.bool false]) w:=by kernel_rfl
def ZRs(p)(w):(Instr.typeAssert (.iface 211 (.pointer p)) 61 211 true).run prog w= .ok (.tuple #[.pointer p,.bool true]) w:=by kernel_rfl
def ZRq(p)(w):(Instr.typeAssert (.iface 170 (.pointer p)) 61 170 true).run prog w= .ok (.tuple #[.pointer p,.bool true]) w:=by kernel_rfl
def ZzL(W)(r b)(up)(av)(met:Nat)(R:Nat->World->Prop)(zu:Ao W (M4 r) up av)(hS:∀q sp,av= .pointer q->Calls prog 80 #[vU b,.agg #[.slice none 0 0,.slice none 0 0,.pointer q,M4 r,.bool sp]] W λe W'=>∃bb,e= .returned (.tuple #[vU bb,.int .i64 met])/\R bb W'):
  Calls prog 50 #[vU r,.iface 211 (vU b),av] W λe W'=>∃bb,e= .returned (.tuple #[vU bb,.int .i64 met])/\R bb W':=by
 have t1:=ZRr;have t2:=ZRs;have HS:=vR hS;simp only[vU,M4]at HS ⊢;cases up with
 |nil=>
  have D8:av= .pointer none:=zu;subst D8;clear zu hS;go_enter func50,ntmps50;go_wp2_with fail;refine(HS.out none false rfl).mono ?_;exact mH
 |cons f up=>
  obtain⟨fb,rv,mv,Wt,sp,rfl,QE,_⟩:=zu;have c4:=Uk QE;clear QE hS;simp only[vU]at HS ⊢;go_enter func50,ntmps50;go_wp2_with fail;refine(HS.out _ sp rfl).mono ?_;exact mH
def ZH6{W1}{rn:Value}{x}{s}{up:List xE}{ts:List (Nat×Nat)}{K:Nat}{cap:Array Value}(hp:Zbm W1 x s none)(hx:x.wh= .func (.func K) #[] cap)(hm:CR (λf=>DD s.Ee (f::up)) (zJ s)=some ts):∀i (hi:i<(zJ s).length) W' fp,Nt.J i W'->Ao W' rn ((zJ s)[i]::up) fp->Nt.X W1.heap.size W1 W'->Calls prog K (#[fp]++cap) W' λe W2=>e= .returned (.tuple #[.int .i64 ((ts.map λt=>t.1).getD i 0:Nat),.int .i64 ((ts.map λt=>t.2).getD i 0:Nat)])/\Nt.X W'.heap.size W' W2/\Nt.J (i+1) W2:=by
 intro i hi W' fp _ Dl hX;have hX:vV W1 W':=hX;obtain⟨zW,hg⟩:=Q4 hm;have hit:i<ts.length:=Z
 obtain⟨K',zY,e1,_,hc⟩:=Zep rn none s.Ee W' _ ((zJ s)[i]::up) fp ts[i] (hp.wh.same (KT.vZ hX)) Dl (hg i hi hit);rw[hx]at e1;cases e1;exact mq
def Zhz(W:World)(q:PQ)(v:Value)(S:List Nat)(bg:xk)(bb:Nat)(W':World):Prop:=CV W' bb bg/\Ox S W W'/\AX W' q v S
def ZSl{b}{x}{s}(h:Zbl Nt W b x s none W'):Ox [b] W W'/\Eg W' b x s none true:=by
 obtain⟨W1,W2,h1,h2,h3,_,h5⟩:=h;have h3:vV W1 W2:=h3;have hB:=h3.trans (h5.mono h3.size);refine⟨h1.trans (Ox.vZ hB),h2.same (KT.vZ hB) ?_⟩;obtain⟨_,_,_,hb,_⟩:=h2;exact hB.block b (wo hb)
def Z0b{p:Prop}(h:p:=by
 have FV:=zA.trans (yl.mono zA.size);go_wp2_with fail;go_ret2;exact⟨bb,by rw[PY.out.2];rfl,by rw[PY.out.1];exact CJ,HOX.out.trans (Ox.vZ FV),HQL.out.below FV,HQR.out.below FV⟩):p:=h
def ZMS(W)(r j)(l rr)(lv rv av)(sign)(S1 S2)(up)(a b bg)(m n met:Nat)(zu:Ao W (M4 r) up av)(hj:W.heap[j]? =some (.cells #[lv,.string ⟨sign.toArray⟩,rv] 173))(hl:AX W l lv S1)(hr:AX W rr rv S2)(hd:∀g∈S1,g∉S2)(hs:ZlO sign)(xO:∀W',KT Ig W W'->AX W' l lv S1->Ao W' (M4 r) up av->Calls prog 50 #[vU r,lv,av] W' λe W2=>∃bb,e= .returned (.tuple #[vU bb,.int .i64 m])/\Zhz W' l lv S1 a bb W2)(yf:∀W',KT Ig W W'->AX W' rr rv S2->Ao W' (M4 r) up av->Calls prog 50 #[vU r,rv,av] W' λe W2=>∃bb,e= .returned (.tuple #[vU bb,.int .i64 n])/\Zhz W' rr rv S2 b bb W2)(xz:(xG [m,n]≠0/\bg={}/\met=xG [m,n])\/(xG [m,n]=0/\ZdW (EJ sign) a b/\bg=xk.put sign a b/\met=0)):
  Calls prog 79 #[vU r,vU j,av] W λe W'=>∃bb,e= .returned (.tuple #[vU bb,.int .i64 met])/\CV W' bb bg/\Ox (S1++S2) W W'/\AX W' l lv S1/\AX W' rr rv S2:=by
 obtain⟨lt,ly,rfl⟩:∃t y,lv= .iface t y:=by cases l with
  |yO s=>obtain⟨_,_,_,e,_⟩:=hl;exact⟨_,_,e⟩
  |Ai=>obtain⟨_,_,_,_,_,e,_⟩:=hl;exact⟨_,_,e⟩
 obtain⟨rt,ry,rfl⟩:∃t y,rv= .iface t y:=by cases rr with
  |yO s=>obtain⟨_,_,_,e,_⟩:=hr;exact⟨_,_,e⟩
  |Ai=>obtain⟨_,_,_,_,_,e,_⟩:=hr;exact⟨_,_,e⟩
 obtain⟨ap,rfl⟩:=Qm zu;have hjl:=(wo hj);have c0:=xH hj;have RD:=vR (xO W (λ_ _ _ _ e=>e) hl zu);have HI2:=vR yf;have HJ:=vR hj;have HU:=vR zu;have HL:=vR hl;have HR:=vR hr;have KA:=vR xz;clear xO yf hj zu hl hr xz;unfold vU at *;go_enter func79,ntmps79;go_wp2_with fail;refine RD.out.mono ?_;rintro e w1 ⟨lb,rfl,ZvS,Zjt,MR⟩;have Zjd:=HL.out.bs.kt Zjt;have UO:=Zjd _ _ _ O HJ.out;have LK:=HR.out.wJ Zjd (λg hg=>Zjt.block g (by obtain⟨cu,hc,_⟩:=HR.out.bs g hg;exact(wo hc)) (λhm=>hd g hm hg));have c2:=KG UO;have HQ2:=vR (HI2.out w1 Zjd LK (HU.out.same Zjd.BV));unfold vU at HQ2;go_wp2_with fail;refine HQ2.out.mono ?_;rintro e w2 ⟨rb,rfl,ZvU,ZfL,SQ⟩;have ZwO:=LK.bs.kt ZfL;have ZT:=ZwO _ _ _ O UO;have ZvT:=ZvS.ox ZfL LK.bs;have VW:=vR ZvT;have HB2:=vR ZvU;have HOX:=vR ((Zjt.mono (S':=S1++S2) (λg hg=>by simp[hg])).trans (ZfL.mono (S':=S1++S2) (λg hg=>by simp[hg])));have HQL:=vR (MR.wJ ZwO (λg hg=>ZfL.block g (by obtain⟨cu,hc,_⟩:=MR.bs g hg;exact(wo hc)) (λhm=>hd g hg hm)));have HQR:=vR SQ;have c1:=zS ZT;have ZKK:=(wo ZT);clear ZvS ZvU ZvT Zjt ZfL MR LK SQ UO ZT RD HQ2;go_wp2_with fail;refine(YV _ [m,n] _ (ZbG (xI w2 _))).mono ?_;rintro e w3 ⟨rfl,rfl⟩;have zA:=(nW w2.heap.size w2).alloc (nV _) (.cells #[.int .i64 m,.int .i64 n] 47);generalize hL:xG [m,n]=L at *;by_cases h0:L=0
 ·subst h0;obtain⟨ZLv,FW,NU⟩:ZdW (EJ sign) a b/\bg=xk.put sign a b/\met=0:=by
   rcases KA.out with⟨h,_⟩|⟨_,h⟩
   ·exact jq
   ·exact h
  have PY:=vR (oG FW NU);have HH:=vR (λw=>ZJJ w sign hs);have c1A:=λob=>(oD w2 ob ⟨j,1,none⟩ ZKK).trans c1;clear FW NU KA;go_wp2_with fail;refine(HH.out _).mono ?_;rintro e w4 ⟨fv,rfl,hfv,rfl⟩;have HP:=vR (ZEy _ lb rb a b fv _ (VW.out.below zA) (HB2.out.below zA) hfv ZLv);rw[ZIa]at HP;unfold vU at HP;obtain⟨kf,rfl,_⟩:=hfv;go_wp2_with fail;refine HP.out.mono ?_;rintro e w5 ⟨bb,rfl,yl,CJ⟩;exact Z0b
 ·have Gh:((L:Int)==0)=false:=by rw[pQ];omega
  have JI:((L:Int) != 0)=true:=by simp;omega
  obtain⟨FW,NU⟩:bg={}/\met=L:=by
   rcases KA.out with⟨_,h⟩|⟨h,_⟩
   ·exact h
   ·exact absurd h h0
  have PY:=vR (oG FW NU);clear FW NU KA h0;go_wp2_with fail;refine(Zbw _).mono ?_;rintro e w5 ⟨bb,rfl,CJ,yl⟩;exact Z0b
def ZRl(W)(r j)(q)(met:Nat)(R:Nat->World->Prop)(hS:Calls prog 79 #[vU r,vU j,.pointer q] W λe W'=>∃bb,e= .returned (.tuple #[vU bb,.int .i64 met])/\R bb W'):
  Calls prog 50 #[vU r,.iface 170 (vU j),.pointer q] W λe W'=>∃bb,e= .returned (.tuple #[vU bb,.int .i64 met])/\R bb W':=by
 have t1:=ZRq;have HS:=vR hS;simp only[vU]at HS ⊢;clear hS;go_enter func50,ntmps50;go_wp2_with fail;refine HS.out.mono ?_;exact mH
theorem Zkl(r):∀q W v S up av bg met,AX W q v S->Ao W (M4 r) up av->Tz q up bg met->Calls prog 50 #[vU r,v,av] W λe W'=>∃bb,e= .returned (.tuple #[vU bb,.int .i64 met])/\Zhz W q v S bg bb W'
 | .yO s,W,v,S,up,av,bg,met,hq,zu,he=>by
  obtain⟨b,x,d,rfl,JL,rfl⟩:=hq;cases he with
  |yO ts ok Fa hm hr=>
   refine ZzL W r b up av met (Zhz W (.yO s) _ [b] bg) zu (λq sp e=>?_);subst e;have zW:=(Q4 hm).1;refine(Zz7 Nt W b x s none d up q 135 (vU r) sp (ts.map (·.1)) (ts.map (·.2)) bg met JL ok zu Fa cK cK (λ_ _ _=>trivial) (λa c h hb=>Below.block (show vV a c from h) b hb) (λW1 K cap _ hs hx=>ZH6 hs.1 hx hm) hr).mono ?_;rintro e W' ⟨bb,rfl,Ey,ZN⟩;obtain⟨h1,h2⟩:=ZSl ZN;exact⟨bb,rfl,Ey,h1,b,x,true,rfl,h2,rfl⟩
 | .Ai l sign rr,W,v,S,up,av,bg,met,hq,zu,he=>by
  obtain⟨j,lv,rv,S1,S2,rfl,hj,hl,hr,rfl,hd⟩:=hq;cases he with
  |Ai h1 h2 hs xz=>
   obtain⟨ap,hap⟩:=Qm zu;have hjc:=ZMS W r j l rr lv rv av sign S1 S2 up _ _ bg _ _ met zu hj hl hr hd hs (λW' _ hq hu=>Zkl r l W' lv S1 up av _ _ hq hu h1) (λW' _ hq hu=>Zkl r rr W' rv S2 up av _ _ hq hu h2) xz;subst hap;refine ZRl W r j ap met _ (hjc.mono ?_);rintro e W' ⟨bb,rfl,Ey,xu,MR,LK⟩;have LD:=(RJ.kt (S:=S1++S2) (λg hg=>by rcases qH.1 hg with h|h;exact hl.bs g h;exact hr.bs g h) xu) _ _ _ O hj;exact⟨bb,rfl,Ey,xu,j,lv,rv,S1,S2,rfl,LD,MR,LK,rfl,hd⟩
def ZgK(b:Nat):List PanicEntry:= [{v:=.iface 53 (.pointer (some ⟨b,0,none⟩)),recovered:=false}]
def ZqF(kind at_)(w):
  Calls prog 29 #[.int .i64 kind,.int .i64 at_] w λe w'=>e= .panicked (ZgK w.heap.size)/\w'=w.alloc (.cells #[.int .i64 kind,.int .i64 at_] 58):=by
 exact jX
def Zr1(W:World)(r k:Nat):Prop:=W.heap[r]? =some (.cells #[.int .i32 0,.int .u32 0,.map (some k),.int .i64 200000] 208)/\∃c,W.heap[k]? =some (.map #[] c)
def ZRm(W):Calls prog 49 #[] W λe W'=>∃r k,e= .returned (vU r)/\Zr1 W' r k/\vV W W'/\W.heap.size<=r/\W.heap.size<=k:=by
 unfold vU;go_enter func49,ntmps49;have Z0:∀(t:TypeId) (w:World),(Instr.makeMap t none).run prog w= .ok (.map (some w.heap.size)) (w.alloc (.map #[] 0)):=λ_ _=>rfl;go_wp2;go_ret;obtain⟨a1,a2⟩:=J6 W (.map #[] 0) (.cells #[.int .i32 0,.int .u32 0,.map (some W.heap.size),.int .i64 200000] 208);exact⟨_,_,rfl,⟨a2,0,a1⟩,((nW _ _).alloc (nV _) _).alloc ae _,Z,Z⟩
def ZzK(W)(v)(met:Nat)(R:Nat->World->Prop)(hv:∃t y,v= .iface t y)(hQ:∀W' r k,vV W W'->Zr1 W' r k->W.heap.size<=r->W.heap.size<=k->Calls prog 50 #[vU r,v,.pointer none] W' λe W2=>∃bb,e= .returned (.tuple #[vU bb,.int .i64 met])/\R bb W2):
  Calls prog 23 #[v] W λe W'=>(met=0/\∃bb,e= .returned (vU bb)/\R bb W')\/(met≠0/\∃bb W2,R bb W2/\e= .panicked (ZgK W2.heap.size)/\W'=W2.alloc (.cells #[.int .i64 met,.int .i64 0] 58)):=by
 obtain⟨vt,vy,rfl⟩:=hv;have HN:=vR (ZRm W);have HQ:=vR hQ;clear hQ;unfold vU at *;go_enter func23,ntmps23;go_wp2_with fail;refine HN.out.mono ?_;rintro e w1 ⟨r,k,rfl,hr,hB,h1,h2⟩;have RD:=vR (HQ.out w1 r k hB hr h1 h2);clear HQ HN;go_wp2_with fail;refine RD.out.mono ?_;rintro e w2 ⟨bb,rfl,hR⟩;by_cases h0:met=0
 ·have m1:((met:Int)==0)=true:=by simp[h0]
  have m2:((met:Int) != 0)=false:=by simp[h0]
  have H0:=vR h0;clear h0;go_wp2_with fail;go_ret;exact .inl ⟨H0.out,bb,rfl,hR⟩
 ·have m1:((met:Int)==0)=false:=by rw[pQ];omega
  have m2:((met:Int) != 0)=true:=by simp;omega
  have H0:=vR h0;clear h0;go_wp2_with fail;refine(ZqF met 0 w2).mono ?_;rintro e w3 ⟨rfl,rfl⟩;go_wp2_with fail;exact⟨rfl,.inr ⟨H0.out,bb,w2,hR,rfl,rfl⟩⟩
def De(l q:Int)(km:Value)(room:Int):Array Value:=#[.int .i32 l,.int .u32 q,km,.int .i64 room]
def ZO4(W)(r)(q room)(km)(v:Nat)(hb:W.heap[r]? =some (.cells (De 0 q km room) 208))(h1: -1000000<=room)(h2:room<=1000000)(hv:v<=100000):Calls prog 442 #[vU r,.int .i64 v] W λe W'=>e= .returned (.tuple #[])/\W'.heap[r]? =some (.cells (De 0 q km (room-v)) 208)/\Ox [r] W W':=by
 have c0:W.cell? ⟨r,0,none⟩=some (.int .i32 0):=dF
 have c3:W.cell? ⟨r,3,none⟩=some (.int .i64 room):=dF
 have f0:W.frozen? ⟨r,0,none⟩=false:=bz
 have f3:W.frozen? ⟨r,3,none⟩=false:=bz
 unfold vU;go_enter_defers func442,ntmps442;go_wp2_with (go_at_call 296;refine(ZgZ ⟨r,0,none⟩ _ c0 f0).mono ?_;rintro e w' ⟨rfl,rfl⟩);have yz:=zD (k:=0) (u:=.int .i32 1) hb;have Af:=zD (k:=3) (u:=.int .i64 (room-v)) yz;refine qO (f:=297) (args:=#[.pointer (some ⟨r,0,none⟩)]) ae aR ?_;refine(Zg0 ⟨r,0,none⟩ .returning _ ?_ (by simp[f0])).mono ?_
 ·simp[World.cell?,Af,De]
 rintro e u' GU ⟨rfl,rfl,rfl⟩;have z8:=zD (k:=0) (u:=.int .i32 0) Af;exact⟨_,rO rfl _ _ _,rfl,by simpa[De]using z8,(JO _ _ _ _).trans ((JO _ _ _ _).trans (JO _ _ _ _))⟩
def ZyH(w)(r):(method 760 135 (.pointer (some ⟨r,0,none⟩)) "Answer").run prog w= .ok (441,.pointer (some ⟨r,0,none⟩)) w:=by kernel_rfl
def Ow(W:World)(some_:Bool)(wR:List wG)(met:Nat)(R:World->Prop)(e:Ending)(W':World):Prop:=∃va vc,e= .returned (.tuple #[.agg #[.bool some_,.slice va wR.length vc],.int .i64 met])/\Hid (xD W' (.slice va wR.length vc) wR/\R W'/\KT (463::IQ) W W')
def ZFw(W)(fb b wi r)(rv mv av)(sp some_)(wR)(met)(R)(hf:W.heap[fb]? =some (.cells #[rv,mv,av,M4 r,.bool sp] 218))(hb:W.heap[b]? =some (.cells #[vU wi] 354))(hA:∀W',vV W W'->Calls prog 441 #[vU r,vU wi,vU fb] W' (Ow W' some_ wR met R))(Sy:∀a b,R a->vV a b->R b)(Sz:∀a g k cu u,R a->W.heap.size<=g->a.heap[g]? =some (.cells cu 463)->R (a.setCell ⟨g,k,none⟩ u)):
  Calls prog 224 #[vU fb,vU b] W λe W'=>e= .returned (.tuple #[.int .i64 (PO some_),.int .i64 met])/\R W':=by
 have c3:=KH hf;have cb:=xH hb;have c3A:=λob=>(oD W ob ⟨fb,3,none⟩ (wo hf)).trans c3;have cbA:=λob=>(oD W ob ⟨b,0,none⟩ (wo hb)).trans cb;have HA:=vR hA;have hma:=ZyH;simp only[vU,M4]at *;have zF:=vR (HA.out W.drew (FR (nW _ _)));have IZ:Hid (Calls prog 441 #[.pointer (some ⟨r,0,none⟩),.pointer (some ⟨wi,0,none⟩),.pointer (some ⟨fb,0,none⟩)] (W.alloc (.cells #[.bool false,.slice none 0 0] 463)).drew λe W'=>∃va vc,e= .returned (.tuple #[.agg #[.bool some_,.slice va wR.length vc],.int .i64 met])/\Hid (xD W' (.slice va wR.length vc) wR/\R W'/\KT (463::IQ) (W.alloc (.cells #[.bool false,.slice none 0 0] 463)).drew W')/\W'.cell? ⟨W.heap.size,0,none⟩=some (.bool false)/\W'.cell? ⟨W.heap.size,1,none⟩=some (.slice none 0 0)/\W'.frozen? ⟨W.heap.size,0,none⟩=false/\W'.frozen? ⟨W.heap.size,1,none⟩=false/\Hid (W'.heap[W.heap.size]? =some (.cells #[.bool false,.slice none 0 0] 463))):=by
  show Calls _ _ _ _ _;refine(HA.out _ (FR ((nW _ _).alloc (nV _) _))).mono ?_;rintro e w1 ⟨va,vc,rfl,hR⟩;have hk:=hR.out.2.2 W.heap.size _ _ O (xI W (.cells #[.bool false,.slice none 0 0] 463));exact⟨va,vc,rfl,hR,eG,eG,eH,eH,hk⟩
 unfold Ow at zF;clear hf hb hA HA;go_enter func224,ntmps224;go_upto_region 1 with fail
 go_cut [5,6] (λav mv wx=>∃ab:Nat,av= .pointer (some ⟨ab,0,none⟩)/\mv= .int .i64 met/\wx.cell? ⟨ab,0,none⟩=some (.bool some_)/\Hid (R wx));case first=>
  go_region_with (first
   |(go_at_call 441;refine zF.out.mono ?_;rintro e w1 ⟨va,vc,rfl,hR⟩)
   |(go_at_call 441;refine IZ.out.mono ?_;rintro e w1 ⟨va,vc,rfl,hR,z0,z1,z2,z3,zk⟩))
  all_goals
   go_wp2_with fail;go_meet;first
    |exact⟨_,rfl,rfl,ae,Sy _ _ hR.out.2.1 ((nW _ _).alloc (nV _) _)⟩
    |(have k1:=zD (k:=0) (u:=.bool some_) zk.out
      have k2:=zD (k:=1) (u:=.slice va wR.length vc) k1;exact⟨_,rfl,rfl,fU,Sz _ _ _ _ _ (Sz _ _ _ _ _ hR.out.2.1 (nV _) zk.out) (nV _) k1⟩)
 case rest=>
  obtain⟨ab,rfl,rfl,hc,hR⟩:=hcut;go_wp2_with fail;refine(Zmj _ _).mono ?_;rintro e w2 ⟨rfl,rfl⟩;go_wp2_with fail;go_ret2;exact⟨rfl,hR.out⟩
end Go.Proofs.YtncnkiabjhhclaaGreatDoor
