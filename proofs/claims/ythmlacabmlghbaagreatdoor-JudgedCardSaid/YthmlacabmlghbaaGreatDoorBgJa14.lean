import Derived.Deep.OwnRows
import Derived.Test.YthmlacabmlghbaaGreatDoorBgJa13
set_option maxRecDepth 100000
set_option maxHeartbeats 8000000
set_option linter.unusedSimpArgs false
set_option linter.unusedVariables false
namespace Go.Proofs.YthmlacabmlghbaaGreatDoor
open Go.Proofs.Tryz
theorem ZUm{p:Prop}(h:p:=by go_enter func84,ntmps84;go_wp2_with fail;refine(Vr R line _ c0).mono ?_;rintro e w3 ⟨b,rfl,hb0,hb1,hB3⟩;go_wp2;exact⟨rfl,b,rfl,hb0,hb1,hB3.mono hBW⟩):p:=h
theorem ZW6:type_of% @Go.World.cell?_alloc_lt:=@Go.World.cell?_alloc_lt
theorem ZRq{p:Prop}(h:p:=by simp[results,Tryz.results15,go_sem]):p:=h
theorem ZSV{p:Prop}(h:p:=by clear hh2 h1 h2;go_enter func15,ntmps15;go_wp2;refine bodyPost_ret (v:=.tuple #[.agg #[.string ⟨#[]⟩,.slice none 0 0,.slice none 0 0,.slice none 0 0],.bool false]) ZRq rfl ⟨rfl,?_⟩;exact(Below.refl _ W).alloc (Nat.le_refl _) _):p:=h
open Go.RowKit
structure Tab where
 Ze:List (Za×Int)
 rows:Nat
structure St where
 names:List Za
 last:Option Tab
 tabs:List (Za×List (Za×Int))
def Ja(cs:List (Za×Int)):List Value:=cs.flatMap fun c=> [Zp c.1,.int .i64 c.2]
def ZwS(B:Nat)(W:World)(v:Value):Option Tab->Prop
 |none=>v= .pointer none
 |some t=>∃T cv pv rv rs,v= .pointer (some ⟨T,0,none⟩)/\B<=T/\W.heap[T]? =some (.cells #[cv,pv,rv] 242 (0,0))/\
  W.ownsRow B 248 2 cv t.Ze.length (Ja t.Ze)/\W.ownsRow B 96 1 rv t.rows rs/\t.Ze.length<=6/\t.rows<=12/\1<=t.Ze.length
structure Qi (B:Nat) (W:World) (T:Nat) (Ze:List (Za×Int)):Prop where
 ge:B<=T
 obj:∃cv P rv,B<=P/\W.heap[T]? =some (.cells #[cv,.map (some P),rv] 242 (0,0))/\W.ownsRow B 248 2 cv Ze.length (Ja Ze)/\Vv W P Ze.length (placesOf (Ze.map (·.1)))/\∃a n c,rv= .slice a n c
 le:Ze.length<=6
 pos:1<=Ze.length
def ZbW(tl:List (Za×List (Za×Int)))(Ts:List Nat):List (Za×DataW Unit):=(tl.zip Ts).map fun p=>(p.1.1,nP p.2)
def E8(B:Nat)(W:World)(M:Nat)(names:List Za)(tl:List (Za×List (Za×Int))):Prop:=
 tl.map (·.1)=names/\∃Ts:List Nat,tl.length=Ts.length/\Vv W M tl.length (ZbW tl Ts)/\∀p∈tl.zip Ts,Qi B W p.2 p.1.2
theorem ZkN{W W':World}{B e sz n:Nat}{v:Value}{xs:List Value}(h:W.ownsRow B e sz v n xs)(hb:∀g cu fr,B<=g->W.heap[g]? =some (.cells cu e fr)->W'.heap[g]? =some (.cells cu e fr)):W'.ownsRow B e sz v n xs:=by
 refine⟨h.1,?_⟩;rcases h.2 with h0|⟨g,cap,cu,rfl,hg,hh,r⟩
 ·exact ZS4
 ·exact .inr ⟨g,cap,cu,rfl,hg,hb g _ _ hg hh,r⟩
theorem Qi.typed{B T:Nat}{W W':World}{Ze:List (Za×Int)}(h:Qi B W T Ze)(h1:∀g es ck,B<=g->W.heap[g]? =some (.map es ck)->W'.heap[g]? =some (.map es ck))(h2:∀g cu fr,B<=g->W.heap[g]? =some (.cells cu 248 fr)->W'.heap[g]? =some (.cells cu 248 fr))
  (h3:∀g a b c,B<=g->W.heap[g]? =some (.cells #[a,b,c] 242 (0,0))->∃c',W'.heap[g]? =some (.cells #[a,b,c'] 242 (0,0))/\(c'=c\/∃x y z,c'= .slice x y z)):Qi B W' T Ze:=by
 obtain⟨cv,P,rv,hP,ho,hc,hp,hr⟩:=h.obj;obtain⟨c',ho',hc'⟩:=h3 T _ _ _ h.ge ho;refine⟨h.ge,⟨cv,P,c',hP,ho',ZkN hc h2,?_,?_⟩,h.le,h.pos⟩
 ·obtain⟨es,ck,hm⟩:=hp.obj;exact V7 hp ((h1 P es ck hP hm).trans hm.symm)
 ·rcases hc' with rfl|hc'
  ·exact hr
  ·exact hc'
theorem E8.typed{B M:Nat}{W W':World}{names:List Za}{tl:List (Za×List (Za×Int))}(h:E8 B W M names tl)(h0:W'.heap[M]? =W.heap[M]?)(h1:∀g es ck,B<=g->W.heap[g]? =some (.map es ck)->W'.heap[g]? =some (.map es ck))(h2:∀g cu fr,B<=g->W.heap[g]? =some (.cells cu 248 fr)->W'.heap[g]? =some (.cells cu 248 fr))
  (h3:∀g a b c,B<=g->W.heap[g]? =some (.cells #[a,b,c] 242 (0,0))->∃c',W'.heap[g]? =some (.cells #[a,b,c'] 242 (0,0))/\(c'=c\/∃x y z,c'= .slice x y z)):E8 B W' M names tl:=by
 obtain⟨hn,Ts,hl,hv,ht⟩:=h;exact⟨hn,Ts,hl,V7 hv h0,fun p hp=>(ht p hp).typed h1 h2 h3⟩
theorem E8.keep{B M:Nat}{W W':World}{names:List Za}{tl:List (Za×List (Za×Int))}(h:E8 B W M names tl)(h0:W'.heap[M]? =W.heap[M]?)(hb:∀b,b<W.heap.size->B<=b->W'.heap[b]? =W.heap[b]?):E8 B W' M names tl:=
 have hx:∀g o,B<=g->W.heap[g]? =some o->W'.heap[g]? =some o:=fun g o hg e=>(hb g (ZWU.1 e).1 hg).trans e;h.typed h0 (fun g _ _ hg e=>hx g _ hg e) (fun g _ _ hg e=>hx g _ hg e) (fun g _ _ c hg e=>⟨c,hx g _ hg e,.inl rfl⟩)
structure RInv (B R M Kb:Nat) (Zg:List Za) (line:Int) (st:St) (W:World):Prop where
 hR:R<B
 hM:M<B
 hK:Kb<B
 hRM:R≠M
 hMK:M≠Kb
 hRK:R≠Kb
 hB:B<=W.heap.size
 nd:st.names.Nodup
 names:Xv W M st.names.length st.names
 keys:Xv W Kb 100 Zg
 tabs:E8 B W M st.names st.tabs
 last:∃v,W.heap[R]? =some (.cells #[.int .i64 line,.map (some M),v,.map (some Kb)] 138 (0,0))/\ZwS B W v st.last
theorem ZJQ(B R M Kb:Nat)(Zg:List Za)(line:Int)(st:St)(fv:Value)(l:List Za)(W:World)(hI:RInv B R M Kb Zg line st W)(hn:st.last=none)(hv:QS W fv l):
  Calls prog 84 #[.pointer (some ⟨R,0,none⟩),fv] W fun e W'=>bad B line W e W':=by
 obtain⟨v,hR,hv0⟩:=hI.last;rw[hn]at hv0;obtain rfl:v= .pointer none:=hv0;have c0:W.cell? ⟨R,0,none⟩=some (.int .i64 line):=ZPH
 have c2:W.cell? ⟨R,2,none⟩=some (.pointer none):=ZPH
 obtain⟨a,cap,rfl,_⟩:=hv;go_enter func84,ntmps84;go_wp2_with fail;refine(Vr R line _ c0).mono ?_;rintro e w3 ⟨b,rfl,hb0,hb1,hB3⟩;go_wp2;exact⟨rfl,b,rfl,hb0,hb1,hB3.mono hI.hB⟩
theorem cells3{w:World}{T:Nat}{cv pv rv:Value}{ty:TypeId}(h:w.heap[T]? =some (.cells #[cv,pv,rv] ty (0,0))):
  w.cell? ⟨T,0,none⟩=some cv/\w.cell? ⟨T,1,none⟩=some pv/\w.cell? ⟨T,2,none⟩=some rv/\(∀k,w.frozen? ⟨T,k,none⟩=false):=
 ⟨ZPy,ZPy,ZPy,fun k=>ZQG⟩
theorem Zvt{W:World}{B e sz n:Nat}{v:Value}{xs:List Value}(h:W.ownsRow B e sz v (n+1) xs):∃g cap,v= .slice (some ⟨g,0,none⟩) (n+1) cap:=by
 rcases h.2 with⟨_,h0⟩|⟨g,cap,cur,rfl,_⟩
 ·cases h0
 ·exact⟨g,cap,rfl⟩
theorem Ed{W:World}{B e sz n:Nat}{v:Value}{xs:List Value}(h:W.ownsRow B e sz v n xs):∃a cap,v= .slice a n cap:=by
 rcases h.2 with⟨rfl,rfl⟩|⟨g,cap,cur,rfl,_⟩
 ·exact⟨none,0,rfl⟩
 ·exact⟨_,cap,rfl⟩
theorem ZJO(B R M Kb:Nat)(Zg:List Za)(line:Int)(st:St)(t:Tab)(fv:Value)(l:List Za)(W:World)(hl:l.length<=90000)(hI:RInv B R M Kb Zg line st W)(hn:st.last=some t)(hv:QS W fv l)
  (hbad:l.length≠t.Ze.length\/t.rows=12):
  Calls prog 84 #[.pointer (some ⟨R,0,none⟩),fv] W fun e W'=>bad B line W e W':=by
 obtain⟨v,hR,hv0⟩:=hI.last;rw[hn]at hv0;obtain⟨T,cv,pv,rv,rs,rfl,hT,VS,hcv,K6,hcl,hrl,hc1⟩:=hv0;have c0:W.cell? ⟨R,0,none⟩=some (.int .i64 line):=ZPH
 have c2:W.cell? ⟨R,2,none⟩=some (.pointer (some ⟨T,0,none⟩)):=ZPH
 have t0:W.cell? ⟨T,0,none⟩=some cv:=ZQX
 have t2:W.cell? ⟨T,2,none⟩=some rv:=ZQX
 obtain⟨a,cap,rfl,_⟩:=hv;obtain⟨a1,JD,rfl⟩:=Ed hcv;obtain⟨a2,cap2,rfl⟩:=Ed K6;have hBW:=hI.hB;clear hI hR VS hcv K6;by_cases h1:l.length=t.Ze.length
 ·have h12:t.rows=12:=by omega
  have hb1:((l.length:Int)==(t.Ze.length:Int))=true:=by simp[h1]
  have HH:Hid (t.rows=12):=h12;have hrr:12<=t.rows:=U
  have hdec:decide ((t.rows:Int)<12)=false:=by simp;omega
  clear h1 h12 hbad;exact ZUm
 ·have hb1:((l.length:Int)==(t.Ze.length:Int))=false:=by simp;omega
  clear h1 hbad;exact ZUm
theorem ZrQ:∀(cs:List (Za×Int)) (k:Nat) (h:k<cs.length),(Ja cs)[2*k+1]? =some (.int .i64 cs[k].2)
 |c::cs,0,_=>by simp[Ja]
 |c::cs,k+1,h=>by
  have ih:=ZrQ cs k ZPv;have e:Ja (c::cs)=Zp c.1:: .int .i64 c.2::Ja cs:=rfl;rw[e,show 2*(k+1)+1=(2*k+1)+2 from U];simpa using ih
theorem X8{w:World}{b k:Nat}{u:Value}{cur:Array Value}{e:TypeId}{fr:Nat×Nat}(h:w.heap[b]? =some (.cells cur e fr)):(w.setCell ⟨b,k,none⟩ u).heap[b]? =some (.cells (cur.setIfInBounds k u) e fr):=by
 simp[World.setCell,Array.getElem?_modify,h]
theorem UF{w:World}{B e sz n:Nat}{v:Value}{xs:List Value}(h:w.ownsRow B e sz v n xs){b k:Nat}{u:Value}{cur:Array Value}{e':TypeId}{fr:Nat×Nat}(hb:w.heap[b]? =some (.cells cur e' fr))(hne:e≠e'):
  (w.setCell ⟨b,k,none⟩ u).ownsRow B e sz v n xs:=by
 refine⟨h.1,?_⟩;rcases h.2 with h0|⟨g,cap,cu,rfl,hg,hh,r⟩
 ·exact ZS4
 ·have hgb:g≠b:=by
   intro e1;subst e1;rw[hb]at hh;exact hne ZRk
  exact ZTd
theorem ZdI{w w':World}{B e sz n:Nat}{v:Value}{xs:List Value}(h:w.ownsRow B e sz v n xs){row:Option Nat}(hg:w.grownBy w' row)(hne:∀g,v.ownBlock=some g->some g≠row):w'.ownsRow B e sz v n xs:=by
 refine⟨h.1,?_⟩;rcases h.2 with h0|⟨g,cap,cu,rfl,hb,hh,r⟩
 ·exact ZS4
 ·exact ZTc
theorem ZeO{w:World}{B B' e e' sz sz' n n':Nat}{v v':Value}{xs xs':List Value}(h:w.ownsRow B e sz v n xs)(h':w.ownsRow B' e' sz' v' n' xs')(hne:e≠e'):∀g,v.ownBlock=some g->some g≠v'.ownBlock:=by
 intro g hg e1;rcases h.2 with⟨rfl,_⟩|⟨g1,cap,cu,rfl,hb,hh,r⟩
 ·cases hg
 ·cases hg;rcases h'.2 with⟨rfl,_⟩|⟨g2,cap2,cu2,rfl,hb2,hh2,r2⟩
  ·cases e1
  ·cases e1;rw[hh]at hh2;exact hne (by injection hh2 with h1;injection h1)
theorem JV{w w':World}{b n:Nat}{ks:List Za}(h:Xv w b n ks)(hB:w'.heap[b]? =w.heap[b]?):Xv w' b n ks:=by
 exact ZVL
def rowOk(l:List Za)(cs:List (Za×Int)):Bool:=(l.zip cs).all fun x=>Jj x.1 x.2.2
theorem Zo6:∀{l:List Za} {cs:List (Za×Int)} (k:Nat) (h:k<l.length) (h':k<cs.length),Jj l[k] cs[k].2=false->rowOk l cs=false
 |x::l,c::cs,0,_,_,hv=>by
  simp only[List.getElem_cons_zero]at hv;simp[rowOk,hv]
 |x::l,c::cs,k+1,h,h',hv=>by
  have ih:=Zo6 k ZPv (by simpa using h') hv;unfold rowOk at ih ⊢;rw[List.zip_cons_cons,List.all_cons,ih,ZYx]
theorem Zwi:∀{l:List Za} {cs:List (Za×Int)},(∀j,(h:j<l.length)->(h':j<cs.length)->Jj l[j] cs[j].2=true)->rowOk l cs=true
 | [],_,_=>rfl
 |_::_, [],_=>rfl
 |x::l,c::cs,hv=>by
  have h0:=hv 0 ZPm ZPm;simp only[List.getElem_cons_zero]at h0;have ih:=Zwi (l:=l) (cs:=cs) (fun j h h'=>by have:=hv (j+1) ZPv (by simpa using h');simpa using this);unfold rowOk at ih ⊢;rw[List.zip_cons_cons,List.all_cons,ih,Bool.and_true];exact h0
theorem Tryz.ZEQ:(prog.info? 98).map (fun i=>(i.zero,i.size,i.bytes))=some (some .nilIface,1,16):=by kernel_rfl
theorem Tryz.ZEK:(prog.info? 96).map (fun i=>(i.zero,i.size,i.bytes))=some (some (.slice none 0 0),1,24):=by kernel_rfl
theorem ZJP(B R M Kb:Nat)(Zg:List Za)(line:Int)(st:St)(t:Tab)(fv:Value)(l:List Za)(W:World)(hl:∀x∈l,x.length<=90000/\x≠ [])(hI:RInv B R M Kb Zg line st W)(hn:st.last=some t)(hv:QS W fv l)(Uv:Vx W)(hG:13<=B)
  (h1:l.length=t.Ze.length)(h2:t.rows<12):
  Calls prog 84 #[.pointer (some ⟨R,0,none⟩),fv] W fun e W'=>
   (rowOk l t.Ze=true/\e= .returned (.tuple #[])/\RInv B R M Kb Zg line {st with last:=some {t with rows:=t.rows+1}} W'/\Below B W W')\/(rowOk l t.Ze=false/\bad B line W e W'):=by
 obtain⟨v,hR,hv0⟩:=hI.last;rw[hn]at hv0;obtain⟨T,cv,pv,rv,rs,rfl,hT,VS,hcv,K6,hcl,hrl,hc1⟩:=hv0;have c0:W.cell? ⟨R,0,none⟩=some (.int .i64 line):=ZPH
 have c2:W.cell? ⟨R,2,none⟩=some (.pointer (some ⟨T,0,none⟩)):=ZPH
 have t0:W.cell? ⟨T,0,none⟩=some cv:=ZQX
 have t2:W.cell? ⟨T,2,none⟩=some rv:=ZQX
 obtain⟨a,cap,rfl,JR⟩:=hv;obtain⟨g0,o0,rfl,hx0⟩:=JR 0 U;clear hx0;obtain⟨gc,JD,ecv,ZDK,hgc⟩:∃gc JD,cv= .slice (some ⟨gc,0,none⟩) t.Ze.length JD/\gc<W.heap.size/\∀j u,(Ja t.Ze)[j]? =some u->W.cell? ⟨gc,j,none⟩=some u:=by
  rcases hcv.2 with⟨_,h0⟩|⟨gc,JD,cur,rfl,_,hh,_⟩
  ·omega
  ·exact⟨gc,JD,rfl,(ZWU.1 hh).1,fun j u hj=>by have:=hcv.cells (g:=gc) rfl j u hj;rw[ZXE]at this;simpa using this⟩
 obtain⟨a2,cap2,erv⟩:=Ed K6;rw[ecv,<-h1]at t0;rw[erv]at t2;have hBW:=hI.hB;have HH1:Hid (l.length=t.Ze.length):=h1;have hdec:decide ((t.rows:Int)<12)=true:=by simp;omega
 have hll:l.length<=6:=U
 clear h1;have hmk:=fun w:World=>run_make_row' (P:=prog) 96 98 .nilIface 16 underlying96 Tryz.ZEQ rfl .i64 .i64 l.length U U w;go_enter func84,ntmps84;go_wp2_with fail;refine(ZbP _ _).mono ?_;rintro e w3 ⟨rfl,rfl⟩;go_wp2_with fail;go_loopw [6,7,39] (fun _ _ i wr=>∃k:Nat,k<=l.length/\i= .int .i64 k/\Below W.heap.size W wr/\(∃cur:Array Value,cur.size=l.length/\wr.heap[W.heap.size]? =some (.cells cur 98 (0,0)))/\Hid (∀j,j<k->(h:j<l.length)->(h':j<t.Ze.length)->Jj l[j] t.Ze[j].2=true))
  (fun _ _ i _=>l.length-(intOf i).toNat)
 case atStart=>exact⟨0,U,rfl,(ZWT _ W).alloc (ZWS _) _,⟨_,by simp[madeCells],ZWV W _⟩,ZPZ⟩
 case round=>
  obtain⟨k,hk,rfl,hB,⟨cur,hcs,hcw⟩,hok⟩:=hrel;by_cases hlt:k<l.length
  ·obtain⟨g1,o1,e1,hcf⟩:=JR k hlt;cases e1;have hkc:k<t.Ze.length:=by have:=HH1.out;omega
   have ZDE:g0<W.heap.size:=ZWW W _ hcf;have Vk:T<W.heap.size:=(ZWU.1 VS).1;have hRl:R<W.heap.size:=(ZWU.1 hR).1;have tw0:wr.cell? ⟨T,0,none⟩=some (.slice (some ⟨gc,0,none⟩) l.length JD):=(hB.cell (p:=⟨T,0,none⟩) Vk).trans t0;have cw0:wr.cell? ⟨R,0,none⟩=some (.int .i64 line):=(hB.cell (p:=⟨R,0,none⟩) hRl).trans c0;have cf:wr.cell? ⟨g0,o0+k,none⟩=some (.string ⟨l[k].toArray⟩):=(hB.cell (p:=⟨g0,o0+k,none⟩) ZDE).trans hcf;have ct:wr.cell? ⟨gc,k*2+1,none⟩=some (.int .i64 t.Ze[k].2):=(hB.cell (p:=⟨gc,k*2+1,none⟩) ZDK).trans (hgc _ _ (by rw[Nat.mul_comm k 2];exact ZrQ t.Ze k hkc));have hmem:=hl l[k] (ZWX hlt);go_wp2_with fail;refine(ZJX R line t.Ze[k].2 l[k] _ hmem.1 hmem.2 (Uv.below hB U) cw0).mono ?_;rintro e w1 (⟨hvo,⟨tt,xx,rfl⟩,hB1⟩|⟨hvo,b,rfl,hb0,hb1,hB3⟩)
   ·have HV:Hid (Jj l[k] t.Ze[k].2=true):=hvo;have ZnD:w1.heap[W.heap.size]? =some (.cells cur 98 (0,0)):=(hB1.block W.heap.size (ZWU.1 hcw).1).trans hcw;have hst:w1.cell? ⟨W.heap.size,k,none⟩=some cur[k]:=by simp[World.cell?,ZnD,hcs,hlt]
    have hfr:w1.frozen? ⟨W.heap.size,k,none⟩=false:=by simp[World.frozen?,ZnD]
    clear hvo cf ct tw0 cw0 hmem;go_wp2;refine⟨⟨k+1,U,ZPx,?_,⟨_,?_,X8 ZnD⟩,?_⟩,ZPB⟩
    ·exact(hB.trans (hB1.mono hB.size)).setCell (p:=⟨W.heap.size,k,none⟩) (ZWS _) _
    ·rw[Array.size_setIfInBounds];exact hcs
    ·intro j hj hjl hjc;by_cases hjk:j=k
     ·subst hjk;exact HV.out
     ·exact hok.out j U hjl hjc
   ·have HR:Hid (rowOk l t.Ze=false):=Zo6 k hlt hkc hvo;clear hvo cf ct tw0 cw0 hmem;go_wp2;exact⟨rfl,.inr ⟨HR.out,b,rfl,hb0,hb1,(hB.mono hBW).trans (hB3.mono (by have:=hB.size;omega))⟩⟩
  ·have hkl:k=l.length:=by omega
   have X9:Hid (rowOk l t.Ze=true):=Zwi (fun j h h'=>hok.out j U h h');have Vk:T<W.heap.size:=(ZWU.1 VS).1;have tw2:wr.cell? ⟨T,2,none⟩=some (.slice a2 t.rows cap2):=(hB.cell (p:=⟨T,2,none⟩) Vk).trans t2;have XQ:wr.heap[T]? =some (.cells #[cv,pv,rv] 242 (0,0)):=(hB.block T Vk).trans VS;have hrw:=own_below K6 hB;have Zto:=own_below hcv hB;rw[erv]at hrw;clear hkl;obtain⟨i0,hi,hz0,hz1,hz2⟩:=ZXd Tryz.ZEK;have Ztg:∀o:Obj,(wr.alloc o).heap[T]? =some (.cells #[cv,pv,rv] 242 (0,0)):=fun o=>(ZXa wr o T (ZWU.1 XQ).1).trans XQ;have Ztf:some T≠(Value.slice a2 t.rows cap2).ownBlock:=by
    intro e;rcases hrw.2 with⟨e1,_⟩|⟨g,cp,cu,e1,_,hh,_⟩
    ·rw[e1]at e;cases e
    ·rw[e1]at e;cases e;rw[XQ]at hh;injection hh with h1;injection h1 with _ h2;cases h2
   have HTn:Hid (∀o:Obj,(wr.alloc o).heap[T]? =some (.cells #[cv,pv,rv] 242 (0,0))):=Ztg;have ZyC:Hid (some T≠(Value.slice a2 t.rows cap2).ownBlock):=Ztf;clear Ztg Ztf;go_wp2_with (at_builtin;go_must (refine ZXg _ rfl _ _ 240 rfl B 96 i0 (.slice none 0 0) 1 24 underlying240 hi hz0 hz1 hz2 rfl ZPl _ _ _ rfl (hrw.alloc _) ⟨wr.heap.size,0,none⟩ 1 1 [.slice (some ⟨W.heap.size,0,none⟩) l.length l.length] rfl rfl (ZXm _ _ _) ZPA ZPq U ZPV ?_);intro v' w1 hown' hgrow _;go_must (obtain⟨g',cap',rfl⟩:=Zvt hown');go_must (have hT1:=(hgrow.block T (by simp;have:=hB.size;omega) ZyC.out).trans (HTn.out _));go_must (obtain⟨_,_,q2,f2⟩:=cells3 hT1);go_must (have f22:=f2 2));go_end0;have hBW1:=XM (hB.mono hBW) (by have:=hB.size;omega) hrw hgrow;have hBF:=hBW1.setCell (p:=⟨T,2,none⟩) hT (.slice (some ⟨g',0,none⟩) (t.rows+1) cap');have Zkg:=UF (k:=2) (u:=.slice (some ⟨g',0,none⟩) (t.rows+1) cap') (ZdI (Zto.alloc _) hgrow (ZeO Zto hrw ZPl)) hT1 ZPl;have ZEj:=UF (k:=2) (u:=.slice (some ⟨g',0,none⟩) (t.rows+1) cap') hown' hT1 ZPl;have hsz:B<=(w1.setCell ⟨T,2,none⟩ (.slice (some ⟨g',0,none⟩) (t.rows+1) cap')).heap.size:=ZW0 hBW hBF.size;have hown2:∀g,some g=(Value.slice a2 t.rows cap2).ownBlock->∃cu fr,wr.heap[g]? =some (.cells cu 96 fr):=fun g e=>by
    rcases hrw.2 with⟨e1,_⟩|⟨g1,cp,cu,e1,_,hh,_⟩
    ·rw[e1]at e;cases e
    ·rw[e1]at e;cases e;exact⟨cu,_,hh⟩
   have hmv:∀(g:Nat) (ob:Obj),W.heap[g]? =some ob->(∀cu fr,ob≠.cells cu 96 fr)->w1.heap[g]? =some ob:=fun g ob h hne=>by
    have hl:=(ZWU.1 h).1;have hw:wr.heap[g]? =some ob:=(hB.block g hl).trans h;have hl2:=(ZWU.1 hw).1;refine(hgrow.block g ZPo (fun e=>?_)).trans ((ZXa wr _ g hl2).trans hw);obtain⟨cu,fr,e2⟩:=hown2 g e;rw[hw]at e2;exact hne cu fr (ZXc e2)
   have ZEr:E8 B (w1.setCell ⟨T,2,none⟩ (.slice (some ⟨g',0,none⟩) (t.rows+1) cap')) M st.names st.tabs:=by
    refine hI.tabs.typed (hBF.block M hI.hM) (fun g es ck hg e=>?_) (fun g cu fr hg e=>?_) (fun g a b c hg e=>?_)
    ·have hne:g≠T:=fun h=>by rw[h,VS]at e;cases e
     exact ZTw
    ·have hne:g≠T:=fun h=>by rw[h,VS]at e;cases e
     exact ZTw
    ·by_cases hne:g=T
     ·subst hne;rw[VS]at e;cases e;exact⟨_,X8 hT1,.inr ⟨_,_,_,rfl⟩⟩
     ·exact⟨c,(ZXf w1 ⟨T,2,none⟩ _ g hne).trans (hmv g _ e (fun _ _ h=>ZPs)),.inl rfl⟩
   refine .inl ⟨X9.out,rfl,⟨hI.hR,hI.hM,hI.hK,hI.hRM,hI.hMK,hI.hRK,hsz,hI.nd,JV hI.names (hBF.block M hI.hM),JV hI.keys (hBF.block Kb hI.hK),ZEr,_,(hBF.block R hI.hR).trans hR,T,cv,pv,_,_,rfl,hT,X8 hT1,Zkg,ZEj,hcl,by show t.rows+1<=12;omega,hc1⟩,hBF⟩
theorem zip_fst:∀{a b:List Za},a.length=b.length->((a.zip b).map fun x=>Zp x.1)=a.map Zp
 | [], [],_=>rfl
 |x::a,y::b,h=>by simp only[List.zip_cons_cons,ZWZ];rw[zip_fst ZPv]
theorem Zxs:∀{a b:List Za},a.length=b.length->((a.zip b).map fun x=>Zp x.2)=b.map Zp
 | [], [],_=>rfl
 |x::a,y::b,h=>by simp only[List.zip_cons_cons,ZWZ];rw[Zxs ZPv]
theorem Ztp{W wq w1:World}{ob:Obj}{v v2:Value}{n n2 m:Nat}{xs xs2 ys:List Value}{cur c0:Array Value}{g' cap' k:Nat}
  (hgrow:(wq.alloc ob).grownBy w1 v.ownBlock)(hB:Below W.heap.size W wq)(hv:wq.ownsRow W.heap.size 9 1 v n xs)(hv2:wq.ownsRow W.heap.size 9 1 v2 n2 xs2)
  (hne:∀g,v2.ownBlock=some g->v.ownBlock≠some g)(hS:W.heap.size<wq.heap.size)(h0:wq.heap[W.heap.size]? =some (.cells c0 52 (0,0)))
  (hown':w1.ownsRow W.heap.size 9 1 (.slice (some ⟨g',0,none⟩) m cap') m ys)
  (hlies:v.ownBlock=some g'\/g'=(wq.alloc ob).heap.size)(hT1:w1.heap[W.heap.size+1]? =some (.cells cur 52 (0,0))):
  (w1.setCell ⟨W.heap.size+1,k,none⟩ (.slice (some ⟨g',0,none⟩) m cap')).heap[W.heap.size]? =some (.cells c0 52 (0,0))/\
  (w1.setCell ⟨W.heap.size+1,k,none⟩ (.slice (some ⟨g',0,none⟩) m cap')).heap[W.heap.size+1]? =some (.cells (cur.setIfInBounds k (.slice (some ⟨g',0,none⟩) m cap')) 52 (0,0))/\
  (w1.setCell ⟨W.heap.size+1,k,none⟩ (.slice (some ⟨g',0,none⟩) m cap')).ownsRow W.heap.size 9 1 (.slice (some ⟨g',0,none⟩) m cap') m ys/\
  (w1.setCell ⟨W.heap.size+1,k,none⟩ (.slice (some ⟨g',0,none⟩) m cap')).ownsRow W.heap.size 9 1 v2 n2 xs2/\
  (∀g,v2.ownBlock=some g->(Value.slice (some ⟨g',0,none⟩) m cap').ownBlock≠some g)/\Below W.heap.size W (w1.setCell ⟨W.heap.size+1,k,none⟩ (.slice (some ⟨g',0,none⟩) m cap')):=by
 have hb0:w1.heap[W.heap.size]? =some (.cells c0 52 (0,0)):=(hgrow.block W.heap.size ZPo (own_ne hv h0 ZPl)).trans ((ZXa _ _ _ hS).trans h0);refine⟨(ZXf _ _ _ _ ZPm).trans hb0,X8 hT1,UF hown' hT1 ZPl,UF (ZdI (hv2.alloc _) hgrow (fun g h e=>hne g h e.symm)) hT1 ZPl,?_,?_⟩
 ·intro g hg e;have e1:g'=g:=by simpa[Value.ownBlock]using e
  subst e1;rcases hlies with h|h
  ·exact hne g' hg h
  ·have:=(hv2.lt g' hg).2;simp at h;omega
 ·exact(XM hB U hv hgrow).setCell (p:=⟨W.heap.size+1,k,none⟩) ZPm _
theorem ZIb{a b c:Bool}{y:Za}(h:¬a=true):Value.bool false= .bool (a&&b&& !c&&(y==Xr||y==VZ)):=by simp[h]
theorem ZIc{a b c:Bool}{y:Za}(h:¬b=true):Value.bool false= .bool (a&&b&& !c&&(y==Xr||y==VZ)):=by simp[h]
theorem ZId{a b c:Bool}{y:Za}(h:c=true):Value.bool false= .bool (a&&b&& !c&&(y==Xr||y==VZ)):=by simp[h]
theorem ZIe{a b c:Bool}{y:Za}(h1:a=true)(h2:b=true)(h:¬c=true)(h3:y= [105,110,116]):Value.bool true= .bool (a&&b&& !c&&(y==Xr||y==VZ)):=by simp[h1,h2,h,h3,Xr]
theorem ZIf{a b c:Bool}{y:Za}(h1:a=true)(h2:b=true)(h:¬c=true):Value.bool (y== [105,110,116]||y== [116,101,120,116])= .bool (a&&b&& !c&&(y==Xr||y==VZ)):=by simp[h1,h2,h,Xr,VZ]
theorem ZKp(v:Value)(l:List Za)(W:World)(hl:∀x∈l,x.length<=90000)(hll:l.length<=90000)(hv:QS W v l)(hh:Zdw l.length=true):
  Calls prog 15 #[v] W fun e W'=>∃cv tv:Value,e= .returned (.tuple #[.agg #[Zp (l.getD 1 []),cv,tv,.slice none 0 0],.bool (KS (l.getD 1 [])&&Zai [] (Zo (l.drop 2)))])/\
   W'.ownsRow W.heap.size 9 1 cv (Zo (l.drop 2)).length ((Zo (l.drop 2)).map fun x=>Zp x.1)/\W'.ownsRow W.heap.size 9 1 tv (Zo (l.drop 2)).length ((Zo (l.drop 2)).map fun x=>Zp x.2)/\Below W.heap.size W W':=by
 have hh2:4<=l.length/\l.length%2=0/\l.length<=14:=ZXL hh;obtain⟨YH,hn2,ZOp⟩:=hh2;obtain⟨a,cap,rfl,hc⟩:=hv;obtain⟨g,o,rfl,hc1⟩:=hc 1 U;have d1:decide ((l.length:Int)<4)=false:=by simp;omega
 have d2:((l.length:Int).tmod 2 != 0)=false:=by
  rw[Int.tmod_eq_emod_of_nonneg U];simp;omega
 have d3:decide ((14:Int)<(l.length:Int))=false:=by simp;omega
 have c1:W.cell? ⟨g,o+1,none⟩=some (.string ⟨(l[1]' U).toArray⟩):=hc1;have hgl:g<W.heap.size:=ZWW W _ c1;have c1a:∀o1,(W.alloc o1).cell? ⟨g,o+1,none⟩=some (.string ⟨(l[1]' U).toArray⟩):=fun o1=>(ZW6 _ _ ⟨g,o+1,none⟩ hgl).trans c1;have c1b:∀o1 o2,((W.alloc o1).alloc o2).cell? ⟨g,o+1,none⟩=some (.string ⟨(l[1]' U).toArray⟩):=fun o1 o2=>(ZW6 _ _ ⟨g,o+1,none⟩ ZPo).trans (c1a o1);clear hc1 hh c1;have hx1:(l[1]' U).length<=90000:=hl _ (ZWX _);obtain⟨i0,hi,hz0,hz1,hz2⟩:=ZXd Tryz.ZeE;go_enter func15,ntmps15;go_wp2_with fail;refine(Zwc (l[1]' U) _ hx1).mono ?_;rintro e w1 ⟨rfl,rfl⟩;generalize hnm:KS (l[1]' U)=nm;have UU:Hid (KS (l[1]' U)=nm):=hnm;clear hnm;go_wp2;go_loopg [5,7,8,9] (l.length-(2*0+2)+1) (fun gk b i _ _ wr=>∃(k:Nat) (okk:Bool) (ns ts:List Za) (cv tv:Value),2*k+2<=l.length/\gk=l.length-(2*k+2)+1/\i= .int .i64 (2*k+2:Nat)/\b= .bool okk/\ns.length=k/\ts.length=k/\
   wr.heap[W.heap.size]? =some (.cells #[.string ⟨#[]⟩,.slice none 0 0,.slice none 0 0,.slice none 0 0] 52 (0,0))/\
   wr.heap[W.heap.size+1]? =some (.cells #[.string ⟨(l[1]' U).toArray⟩,cv,tv,.slice none 0 0] 52 (0,0))/\
   wr.ownsRow W.heap.size 9 1 cv ns.length (ns.map Zp)/\wr.ownsRow W.heap.size 9 1 tv ts.length (ts.map Zp)/\
   Hid (∀g,cv.ownBlock=some g->tv.ownBlock≠some g)/\Below W.heap.size W wr/\
   Hid (Zo (l.drop 2)=ns.zip ts++Zo (l.drop (2*k+2)))/\
   Hid ((nm&&Zai [] (Zo (l.drop 2)))=(okk&&Zai ns (Zo (l.drop (2*k+2))))))
 case atStart=>
  have hA:=ZWV (W.alloc (.cells #[.string ⟨#[]⟩,.slice none 0 0,.slice none 0 0,.slice none 0 0] 52)) (.cells #[.string ⟨(l[1]' U).toArray⟩,.slice none 0 0,.slice none 0 0,.slice none 0 0] 52);rw[World.size_alloc]at hA;refine⟨0,nm, [], [],_,_,U,rfl,rfl,rfl,rfl,rfl,(ZXa _ _ _ ZPm).trans (ZWV W _),hA,ZXp _ _ _ _,ZXp _ _ _ _,(by intro g hg;cases hg),((ZWT _ W).alloc (ZWS _) _).alloc ZPm _,rfl,rfl⟩
 case round=>
  obtain⟨k,okk,ns,ts,cv,tv,hk,rfl,rfl,rfl,hns,hts,hr0,ht0,hcv,Kc,hne,hB,hpz,hq⟩:=hrel;have Q8:Hid (ns.length=k):=hns;have KI:Hid (ts.length=k):=hts;have ZOq:ns.length<=7:=U
  have ZOF:ts.length<=7:=U
  clear hns hts;by_cases hlt:2*k+2<l.length
  ·obtain⟨g1,o1,e1,JR⟩:=hc (2*k+2) hlt;cases e1;obtain⟨g2,o2,e2,hcb⟩:=hc (2*k+2+1) U;cases e2;have ca:wr.cell? ⟨g,o+(2*k+2),none⟩=some (.string ⟨(l[2*k+2]'hlt).toArray⟩):=(hB.cell (p:=⟨g,o+(2*k+2),none⟩) hgl).trans JR;have cb:wr.cell? ⟨g,o+(2*k+2+1),none⟩=some (.string ⟨(l[2*k+2+1]' U).toArray⟩):=(hB.cell (p:=⟨g,o+(2*k+2+1),none⟩) hgl).trans hcb;clear JR hcb;have hxa:(l[2*k+2]'hlt).length<=90000:=hl _ (ZWX _);obtain⟨q0,q1,q2,q3,qf⟩:=ZaD ht0;have hvw:QS wr cv ns:=Zox hcv;have ZD5:ns.length<=90000:=by omega
   have hSl:W.heap.size<wr.heap.size:=(ZWU.1 hr0).1;have hb0:(0:Int)<=2*(k:Int)+2:=U
   have hb1:2*(k:Int)+2<(l.length:Int):=U
   have hb2:2*(k:Int)+2+1<(l.length:Int):=U
   have hb3:(2*(k:Int)+2).toNat=2*k+2:=U
   have hb4:(2*(k:Int)+2+1).toNat=2*k+2+1:=U
   have hb5:(0:Int)<=2*(k:Int)+2+1:=U
   have hb6:IntKind.i64.wrap (2*(k:Int)+2+1)=2*(k:Int)+2+1:=by rw[IntKind.wrap_i64];omega
   go_wp2_with fail;refine(Zwc (l[2*k+2]'hlt) _ hxa).mono ?_;rintro e w1 ⟨rfl,rfl⟩;generalize hnk:KS (l[2*k+2]'hlt)=nmk;have HNK:Hid (KS (l[2*k+2]'hlt)=nmk):=hnk;clear hnk;go_wp2_with fail;go_quiet ((go_at_call 36;exact Calls.quiet_of (ZoU cv ns (l[2*k+2]'hlt) _ ZD5 (hvw.drew _))));generalize htw:ns.contains (l[2*k+2]'hlt)=tw;have HTW:Hid (ns.contains (l[2*k+2]'hlt)=tw):=htw;clear htw;generalize hnx:l[2*k+2+1]' U=y at cb;have Yq:Hid (l[2*k+2+1]' U=y):=hnx;clear hnx;generalize hnx:l[2*k+2]'hlt=x at ca HNK HTW hxa ⊢;have Zyc:Hid (l[2*k+2]'hlt=x):=hnx;clear hnx;have HDR:Hid (l.drop (2*k+2)=x::y::l.drop (2*(k+1)+2)):=by
    show _=_;rw[show 2*(k+1)+2=2*k+2+1+1 from U,ZXl hlt,ZXl (show 2*k+2+1<l.length by omega),<-Yq.out,<-Zyc.out]
   have HT1:Hid (some (W.heap.size+1)≠cv.ownBlock):=own_ne hcv ht0 ZPl;have Vk:W.heap.size+1<wr.heap.size:=(ZWU.1 ht0).1;have hgw:g<wr.heap.size:=ZXi hgl hB.size;have HG1:Hid (some g≠cv.ownBlock):=fun e=>by have:=(hcv.lt g e.symm).1;omega
   have qa:∀n ob,((wr.drewN n).alloc ob).cell? ⟨W.heap.size+1,1,none⟩=some cv:=fun n ob=>(ZW6 (wr.drewN n) ob ⟨W.heap.size+1,1,none⟩ Vk).trans q1;go_upto_region 11 with fail
   go_cut [5,8,9] (fun b _ _ wx=>b= .bool (okk&&nmk&& !tw&&(y==Xr||y==VZ))/\wx=wr.drewN nq);case first=>
    go_wp2;all_goals go_meet
    all_goals refine⟨?_,rfl⟩
    ·exact ZId ZPu
    ·exact ZIe ZPu ZPu ZPu ZPu
    ·exact ZIf ZPu ZPu ZPu
    ·exact ZIc ZPu
    ·exact ZIb ZPu
   case rest=>
    obtain⟨rfl,rfl⟩:=hcut;have X9:Hid ((okk&&nmk&& !tw&&(y==Xr||y==VZ))=(okk&&(nmk&& !tw&&(y==Xr||y==VZ)))):=by show _=_;cases okk<;>simp
    generalize (okk&&nmk&& !tw&&(y==Xr||y==VZ))=ok2 at X9 ⊢;go_upto_region 12 with fail
    go_cut [8,9] (fun _ _ wx=>∃cv':Value,wx.heap[W.heap.size]? =some (.cells #[.string ⟨#[]⟩,.slice none 0 0,.slice none 0 0,.slice none 0 0] 52 (0,0))/\
     wx.heap[W.heap.size+1]? =some (.cells #[.string ⟨(l[1]' U).toArray⟩,cv',tv,.slice none 0 0] 52 (0,0))/\
     wx.ownsRow W.heap.size 9 1 cv' (ns.length+1) ((ns++ [x]).map Zp)/\wx.ownsRow W.heap.size 9 1 tv ts.length (ts.map Zp)/\
     Hid (∀g,cv'.ownBlock=some g->tv.ownBlock≠some g)/\Below W.heap.size W wx)
    case first=>
     go_region_law (refine ZX9 _ rfl _ _ 22 rfl W.heap.size 9 i0 (.string ⟨#[]⟩) 1 16 underlying22 hi hz0 hz1 hz2 rfl ZPl cv ns.length (ns.map Zp) rfl (by exact hcv.alloc _) ⟨wr.heap.size,0,none⟩ 1 1 [Zp x] rfl rfl ZRp ZPJ U ZPq U ZPV _ rfl ?_;intro g' cap' w1 hown' hgrow hlies Zdz;have hT1:=(hgrow.block (W.heap.size+1) ZPo HT1.out).trans ((ZXa _ _ _ (by exact Vk)).trans (by exact ht0));obtain⟨z0,z1,z2,z3,zf⟩:=ZaD hT1;have zf1:=zf 1);all_goals
      go_wp2_with fail;go_meet;have hh:=Ztp (k:=1) hgrow (hB.trans ⟨rfl,rfl,rfl,ZWS _,fun _ _=>rfl⟩) (by exact hcv) (by exact Kc) (fun g h1 h2=>hne.out g h2 h1) (by exact hSl) (by exact hr0) hown' hlies hT1;exact⟨_,hh.1,hh.2.1,by simpa using hh.2.2.1,hh.2.2.2.1,fun g h1 h2=>hh.2.2.2.2.1 g h2 h1,hh.2.2.2.2.2⟩
    case rest=>
     obtain⟨cv',hr1,ht1,Zkg,Zkr,hne1,hB1⟩:=hcut;clear hr0 ht0 hcv Kc hne q0 q1 q2 q3 qf qa hvw HT1 HG1;have HT2:Hid (some (W.heap.size+1)≠tv.ownBlock):=own_ne Zkr ht1 ZPl;have Zns:W.heap.size+1<wc.heap.size:=(ZWU.1 ht1).1;have ZDk:W.heap.size<wc.heap.size:=(ZWU.1 hr1).1;obtain⟨q0,q1,q2,q3,qf⟩:=ZaD ht1;have cb1:wc.cell? ⟨g,o+(2*k+2+1),none⟩=some (.string ⟨y.toArray⟩):=(hB1.cell (p:=⟨g,o+(2*k+2+1),none⟩) hgl).trans ((hB.cell (p:=⟨g,o+(2*k+2+1),none⟩) hgl).symm.trans cb);have qa:∀n ob,((wc.drewN n).alloc ob).cell? ⟨W.heap.size+1,2,none⟩=some tv:=fun n ob=>(ZW6 (wc.drewN n) ob ⟨W.heap.size+1,2,none⟩ Zns).trans q2;have qb:∀ob,(wc.alloc ob).cell? ⟨W.heap.size+1,2,none⟩=some tv:=fun ob=>(ZW6 wc ob ⟨W.heap.size+1,2,none⟩ Zns).trans q2;go_wp2_with fail;go_region_law (refine ZX9 _ rfl _ _ 22 rfl W.heap.size 9 i0 (.string ⟨#[]⟩) 1 16 underlying22 hi hz0 hz1 hz2 rfl ZPl tv ts.length (ts.map Zp) rfl (by exact Zkr.alloc _) ⟨wc.heap.size,0,none⟩ 1 1 [Zp y] rfl rfl ZRp ZPJ U ZPq U (by have:=hB1.size;simp;omega) _ rfl ?_;intro g' cap' w1 hown' hgrow hlies Zdz;have hT1:=(hgrow.block (W.heap.size+1) ZPo HT2.out).trans ((ZXa _ _ _ (by exact Zns)).trans (by exact ht1));obtain⟨z0,z1,z2,z3,zf⟩:=ZaD hT1;have zf1:=zf 2);all_goals
      have hh:=Ztp (k:=2) (wq:=wc.drew) (ob:=.cells #[.string ⟨y.toArray⟩] 9) (by exact hgrow) (hB1.trans ⟨rfl,rfl,rfl,ZWS _,fun _ _=>rfl⟩) (by exact Zkr) (by exact Zkg) (fun g h1 h2=>hne1.out g h1 h2) (by exact ZDk) (by exact hr1) hown' hlies hT1;clear hr1 ht1 Zkg Zkr hne1 q0 q1 q2 q3 qf qa qb cb1 HT2 z0 z1 z2 z3 zf zf1 hT1 hown' hgrow hlies Zdz;go_wp2_with fail;go_roundg (l.length-(2*(k+1)+2)+1);case measure=>omega
      case rel=>
       refine⟨k+1,ok2,ns++ [x],ts++ [y],cv',_,U,rfl,ZPp,rfl,by simp[Q8.out],by simp[KI.out],hh.1,hh.2.1,by simpa using hh.2.2.2.1,by simpa using hh.2.2.1,fun g h1 h2=>hh.2.2.2.2.1 g h1 h2,hh.2.2.2.2.2,?_,?_⟩
       ·show Zo (l.drop 2)=(ns++ [x]).zip (ts++ [y])++Zo (l.drop (2*(k+1)+2));rw[hpz.out,HDR.out,ZYy ZQY];simp[Zo]
       ·show(nm&&Zai [] (Zo (l.drop 2)))=(ok2&&Zai (ns++ [x]) (Zo (l.drop (2*(k+1)+2))));rw[hq.out,HDR.out,X9.out,<-HNK.out,<-HTW.out];simp only[Zo,Zai,Bool.and_assoc]
  ·obtain⟨q0,q1,q2,q3,qf⟩:=ZaD ht0;obtain⟨p0,p1,p2,p3,pf⟩:=ZaD hr0;have pf0:=pf 0;have pf1:=pf 1;have pf2:=pf 2;have pf3:=pf 3;obtain⟨a1,JD,rfl⟩:=Ed hcv;obtain⟨a2,cap2,rfl⟩:=Ed Kc;go_wp2;have hF:=X8 (k:=3) (u:=.slice none 0 0) (X8 (k:=2) (u:=.slice a2 ts.length cap2) (X8 (k:=1) (u:=.slice a1 ns.length JD) (X8 (k:=0) (u:=.string ⟨(l[1]' U).toArray⟩) hr0)));obtain⟨f0,f1,f2,f3,_⟩:=ZaD hF;have hnd:l.drop (2*k+2)= []:=ZXH U;have hz:=hpz.out;rw[hnd]at hz;have hq2:=hq.out;rw[hnd]at hq2;have e1:l.getD 1 []=l[1]' U:=by simp[List.getD,ZW1 (show 1<l.length by omega)]
   have hl1:(Zo (l.drop 2)).length=ns.length:=by rw[hz];simp[Zo,Q8.out,KI.out]
   have hl2:ns.length=ts.length:=ZQY
   have hm1:((Zo (l.drop 2)).map fun x=>Zp x.1)=ns.map Zp:=by
    rw[hz,show(Zo [])= [] from rfl,ZYb];exact zip_fst ZQY
   have hm2:((Zo (l.drop 2)).map fun x=>Zp x.2)=ts.map Zp:=by
    rw[hz,show(Zo [])= [] from rfl,ZYb];exact Zxs ZQY
   refine ZW4 (v:=.tuple #[.agg #[.string ⟨(l[1]' U).toArray⟩,.slice a1 ns.length JD,.slice a2 ts.length cap2,.slice none 0 0],.bool okk]) (by simp[results,Tryz.results15,go_sem,f0,f1,f2,f3]) rfl ⟨.slice a1 ns.length JD,.slice a2 ts.length cap2,?_,?_,?_,?_⟩
   ·rw[e1,UU.out,hq2];simp[Zai,Zp,Zo]
   ·rw[hl1,hm1];exact UF (UF (UF (UF hcv hr0 ZPl) (X8 hr0) ZPl) (X8 (X8 hr0)) ZPl) (X8 (X8 (X8 hr0))) ZPl
   ·rw[hl1,hl2,hm2];exact UF (UF (UF (UF Kc hr0 ZPl) (X8 hr0) ZPl) (X8 (X8 hr0)) ZPl) (X8 (X8 (X8 hr0))) ZPl
   ·exact(((hB.setCell (p:=⟨W.heap.size,0,none⟩) (ZWS _) _).setCell (p:=⟨W.heap.size,1,none⟩) (ZWS _) _).setCell (p:=⟨W.heap.size,2,none⟩) (ZWS _) _).setCell (p:=⟨W.heap.size,3,none⟩) (ZWS _) _
theorem ZKr(v:Value)(l:List Za)(W:World)(hll:l.length<=90000)(hv:QS W v l)(hh:Zdw l.length=false):
  Calls prog 15 #[v] W fun e W'=>e= .returned (.tuple #[.agg #[.string ⟨#[]⟩,.slice none 0 0,.slice none 0 0,.slice none 0 0],.bool false])/\Below W.heap.size W W':=by
 have hh2:¬(4<=l.length/\l.length%2=0/\l.length<=14):=of_decide_eq_false hh;obtain⟨a,cap,rfl,hc⟩:=hv;clear hh hc;by_cases h1:l.length<4
 ·have d1:decide ((l.length:Int)<4)=true:=by simp;omega
  clear hh2 h1;go_enter func15,ntmps15;go_wp2;refine ZW4 (v:=.tuple #[.agg #[.string ⟨#[]⟩,.slice none 0 0,.slice none 0 0,.slice none 0 0],.bool false]) ZRq rfl ⟨rfl,?_⟩;exact(ZWT _ W).alloc (ZWS _) _
 ·have d1:decide ((l.length:Int)<4)=false:=by simp;omega
  by_cases h2:l.length%2=0
  ·have d2:((l.length:Int).tmod 2 != 0)=false:=by rw[Int.tmod_eq_emod_of_nonneg U];simp;omega
   have e2:(l.length:Int)%2=0:=U
   have e3:14<l.length:=U
   have d3:decide ((14:Int)<(l.length:Int))=true:=by simp;omega
   exact ZSV
  ·have d2:((l.length:Int).tmod 2 != 0)=true:=by rw[Int.tmod_eq_emod_of_nonneg U];simp;omega
   have e2:(l.length:Int)%2=1:=U
   exact ZSV
end Go.Proofs.YthmlacabmlghbaaGreatDoor
