import Derived.Test.YthmlacabmlghbaaGreatDoorBgAns
import Derived.Test.YthmlacabmlghbaaGreatDoorBgJa18
set_option maxRecDepth 100000
set_option maxHeartbeats 8000000
set_option linter.unusedSimpArgs false
set_option linter.unusedVariables false
namespace Go.Proofs.YthmlacabmlghbaaGreatDoor
open Go.Proofs.Tryz
theorem ZRx{p:Prop}(h:p:=by simp[results,Tryz.results65,go_sem,r0,r1,r2]):p:=h
theorem ZWB{p:Prop}(h:p:=by rw[<-he]at q;clear he;go_wp2_with fail;go_ret;exact⟨⟨k,rfl,U,U,⟨fun _=>HM.out,fun _=>U⟩⟩,rfl⟩):p:=h
theorem ZUQ{p:Prop}(h:p:=by go_wp2_with fail;go_ret;exact⟨⟨-1,rfl,U,U,⟨fun h=>U,fun h=>absurd h HM.out⟩⟩,rfl⟩):p:=h
theorem ZSJ{p:Prop}(h:p:=by clear h3;go_wp2_with fail;go_ret;exact⟨Xw HC.out.symm,rfl⟩):p:=h
theorem ZWO{p:Prop}(h:p:=by subst hk;go_enter func143,ntmps143;go_wp2_with fail;refine(Zvz S cap ss sp _ (h0 _) hl).mono ?_;rintro e w' ⟨rfl,rfl⟩;go_wp2_with fail;go_ret;exact⟨Xw (by unfold QD;simp),ZO _⟩):p:=h
theorem ZUe{p:Prop}(h:p:=by go_enter func143,ntmps143;go_wp2_with fail;go_ret;exact⟨Xw HF.out.symm,ZO _⟩):p:=h
theorem ZV9{p:Prop}(h:p:=by rintro e w2 ⟨rfl,hB2⟩;go_wp2_with fail;go_ret;exact⟨rfl,hB1.trans (hB2.mono hB1.size)⟩):p:=h
theorem ZR7{p:Prop}(h:p:=by simp[results,Tryz.results188,go_sem,r0,r1,r2,hRl]):p:=h
open Go.RowKit
def Zdc(Pb:Nat)(W:World)(wa:Option Addr)(ws:List RW):Prop:=∀i (h:i<ws.length),∃g,wa=some ⟨g,0,none⟩/\g≠Pb/\W.cell? ⟨g,i*3,none⟩=some (.int .i64 (YQ ws[i]))/\W.cell? ⟨g,i*3+1,none⟩=some (.string ⟨(Y1 ws[i]).toArray⟩)/\W.cell? ⟨g,i*3+2,none⟩=some (QI ws[i])
structure PS (Pb:Nat) (ws:List RW) (k:Nat) (W:World):Prop where
 len:ws.length<=400
 ok:∀w∈ws,Yi w
 le:k<=ws.length
 obj:∃wa cap,W.heap[Pb]? =some (.cells #[.slice wa ws.length cap,.int .i64 k] 169 (0,0))/\Zdc Pb W wa ws
 Zdj:∀wa cap,W.heap[Pb]? =some (.cells #[.slice wa ws.length cap,.int .i64 k] 169 (0,0))->ws.length<=cap
theorem PS.keep{Pb:Nat}{ws:List RW}{k:Nat}{W W':World}(h:PS Pb ws k W)(hB:Below W.heap.size W W'):PS Pb ws k W':=by
 obtain⟨wa,cap,h1,h2⟩:=h.obj;have hb:=hB.block _ (ZWU.1 h1).1;refine⟨h.len,h.ok,h.le,⟨wa,cap,hb.trans h1,fun i hi=>?_⟩,fun wa' cap' e=>h.Zdj wa' cap' (hb.symm.trans e)⟩;obtain⟨g,e,hg,c1,c2,c3⟩:=h2 i hi;have hl:g<W.heap.size:=ZWW _ _ c1;exact⟨g,e,hg,(hB.cell (p:=⟨g,_,none⟩) hl).trans c1,(hB.cell (p:=⟨g,_,none⟩) hl).trans c2,(hB.cell (p:=⟨g,_,none⟩) hl).trans c3⟩
theorem PS.set{Pb:Nat}{ws:List RW}{k:Nat}{W:World}(h:PS Pb ws k W)(k':Nat)(hk:k'<=ws.length):PS Pb ws k' (W.setCell ⟨Pb,1,none⟩ (.int .i64 k')):=by
 obtain⟨wa,cap,h1,h2⟩:=h.obj;have hs:=Xn (k:=1) (u:=.int .i64 k') h1;refine⟨h.len,h.ok,hk,⟨wa,cap,hs,fun i hi=>?_⟩,fun wa' cap' e=>?_⟩
 ·obtain⟨g,e,hg,c1,c2,c3⟩:=h2 i hi;have hf:∀o,(W.setCell ⟨Pb,1,none⟩ (.int .i64 k')).cell? ⟨g,o,none⟩=W.cell? ⟨g,o,none⟩:=fun o=>World.cell?_setCell_far W ⟨Pb,1,none⟩ ⟨g,o,none⟩ _ (fun e=>hg e.symm);exact ZTR
 ·rw[hs]at e;have:=h.Zdj wa cap h1;simp at e;omega
theorem PS.cells{Pb:Nat}{ws:List RW}{k:Nat}{W:World}(h:PS Pb ws k W):∃wa cap,W.cell? ⟨Pb,0,none⟩=some (.slice wa ws.length cap)/\W.cell? ⟨Pb,1,none⟩=some (.int .i64 k)/\(∀o,W.frozen? ⟨Pb,o,none⟩=false)/\Zdc Pb W wa ws:=by
 obtain⟨wa,cap,h1,h2⟩:=h.obj;exact⟨wa,cap,ZQ1,ZQ1,fun o=>by simp[World.frozen?,h1],h2⟩
def XA(ws:List RW)(k:Nat):Int:=match ws[k]? with|some w=>YQ w|none=>0
def Qq(ws:List RW)(k:Nat):Za:=match ws[k]? with|some w=>Y1 w|none=> []
def Ju(ws:List RW)(k:Nat):Value:=match ws[k]? with|some w=>QI w|none=>.nilIface
theorem ZeK{ws:List RW}{k:Nat}(h:k<ws.length):XA ws k=YQ ws[k]/\Qq ws k=Y1 ws[k]/\Ju ws k=QI ws[k]:=by
 unfold XA Qq Ju;rw[ZW1 h];exact⟨rfl,rfl,rfl⟩
theorem ZeL{ws:List RW}{k:Nat}(h:¬k<ws.length):XA ws k=0/\Qq ws k= []/\Ju ws k= .nilIface:=by
 unfold XA Qq Ju;rw[ZYz U];exact⟨rfl,rfl,rfl⟩
theorem ZcO(ws:List RW)(k:Nat):Ju ws k= .nilIface\/∃t x,Ju ws k= .iface t x:=by
 unfold Ju;split
 ·exact Ziu _
 ·exact ZS5
def Ko(ws:List RW)(k:Nat):Value:=.agg #[.int .i64 (XA ws k),.string ⟨(Qq ws k).toArray⟩,Ju ws k]
theorem ZoX(W:World)(n:Nat):((W.alloc (.cells #[.int .i64 0,.string ⟨#[]⟩,.nilIface] 173)).drewN n).cell? ⟨W.heap.size,0,none⟩=some (.int .i64 0)/\((W.alloc (.cells #[.int .i64 0,.string ⟨#[]⟩,.nilIface] 173)).drewN n).cell? ⟨W.heap.size,1,none⟩=some (.string ⟨#[]⟩)/\((W.alloc (.cells #[.int .i64 0,.string ⟨#[]⟩,.nilIface] 173)).drewN n).cell? ⟨W.heap.size,2,none⟩=some .nilIface/\
  (∀o,((W.alloc (.cells #[.int .i64 0,.string ⟨#[]⟩,.nilIface] 173)).drewN n).frozen? ⟨W.heap.size,o,none⟩=false)/\Below W.heap.size W ((W.alloc (.cells #[.int .i64 0,.string ⟨#[]⟩,.nilIface] 173)).drewN n):=by
 have hh:((W.alloc (.cells #[.int .i64 0,.string ⟨#[]⟩,.nilIface] 173)).drewN n).heap[W.heap.size]? =some (.cells #[.int .i64 0,.string ⟨#[]⟩,.nilIface] 173 (0,0)):=by rw[heap_drewN];exact ZWV W _
 obtain⟨a,b,c,d⟩:=YW hh;exact⟨a,b,c,d,ZW (ZO _) n⟩
theorem Ziv(Pb:Nat)(ws:List RW)(k:Nat)(W:World)(h:PS Pb ws k W):
  Calls prog 65 #[.pointer (some ⟨Pb,0,none⟩)] W fun e w'=>e= .returned (Ko ws k)/\Below W.heap.size W w':=by
 have hlen:=h.len;have hle:=h.le;obtain⟨wa,cap,c0,c1,cf,cw⟩:=h.cells;have hlt:Pb<W.heap.size:=ZWW _ _ c0;by_cases hk:k<ws.length
 ·obtain⟨g,rfl,hg,q1,q2,q3⟩:=cw k hk;have hgl:g<W.heap.size:=ZWW _ _ q1;obtain⟨e1,e2,e3⟩:=ZeK hk;have HV:Hid (Ko ws k= .agg #[.int .i64 (YQ ws[k]),.string ⟨(Y1 ws[k]).toArray⟩,QI ws[k]]):=by show _=_;unfold Ko;rw[e1,e2,e3]
  have hpv:=Ziu ws[k];clear cw e1 e2 e3;generalize QI ws[k]=pv at HV hpv q3;generalize YQ ws[k]=pk at HV q1;generalize Y1 ws[k]=ps at HV q2;rcases hpv with rfl|⟨t,y,rfl⟩
  ·skip;go_enter func65,ntmps65;go_wp2_with fail;go_quiet (fail);go_wp2_with fail;obtain⟨r0,r1,r2,rf,hB1⟩:=ZoX W nq;have d0:=(hB1.cell (p:=⟨Pb,0,none⟩) hlt).trans c0;have d1:=(hB1.cell (p:=⟨Pb,1,none⟩) hlt).trans c1;have p1:=(hB1.cell (p:=⟨g,k*3,none⟩) hgl).trans q1;have p2:=(hB1.cell (p:=⟨g,k*3+1,none⟩) hgl).trans q2;have p3:=(hB1.cell (p:=⟨g,k*3+2,none⟩) hgl).trans q3;have rf0:=rf 0;have rf1:=rf 1;have rf2:=rf 2;clear c0 c1 q1 q2 q3 cf;generalize (W.alloc (.cells #[.int .i64 0,.string ⟨#[]⟩,.nilIface] 173)).drewN nq=w1 at r0 r1 r2 rf0 rf1 rf2 hB1 d0 d1 p1 p2 p3 ⊢;go_region;go_wp2_with fail;refine ZW4 (v:=.agg #[.int .i64 pk,.string ⟨ps.toArray⟩,.nilIface]) ZRx rfl ⟨ZQv,?_⟩;exact ZTu
  ·skip;go_enter func65,ntmps65;go_wp2_with fail;go_quiet (fail);go_wp2_with fail;obtain⟨r0,r1,r2,rf,hB1⟩:=ZoX W nq;have d0:=(hB1.cell (p:=⟨Pb,0,none⟩) hlt).trans c0;have d1:=(hB1.cell (p:=⟨Pb,1,none⟩) hlt).trans c1;have p1:=(hB1.cell (p:=⟨g,k*3,none⟩) hgl).trans q1;have p2:=(hB1.cell (p:=⟨g,k*3+1,none⟩) hgl).trans q2;have p3:=(hB1.cell (p:=⟨g,k*3+2,none⟩) hgl).trans q3;have rf0:=rf 0;have rf1:=rf 1;have rf2:=rf 2;clear c0 c1 q1 q2 q3 cf;generalize (W.alloc (.cells #[.int .i64 0,.string ⟨#[]⟩,.nilIface] 173)).drewN nq=w1 at r0 r1 r2 rf0 rf1 rf2 hB1 d0 d1 p1 p2 p3 ⊢;go_region;go_wp2_with fail;refine ZW4 (v:=.agg #[.int .i64 pk,.string ⟨ps.toArray⟩,.iface t y]) ZRx rfl ⟨ZQv,?_⟩;exact ZTu
 ·obtain⟨e1,e2,e3⟩:=ZeL hk;have HV:Hid (Ko ws k= .agg #[.int .i64 0,.string ⟨#[]⟩,.nilIface]):=by show _=_;unfold Ko;rw[e1,e2,e3]
  clear cw e1 e2 e3;go_enter func65,ntmps65;go_wp2_with fail;go_quiet (fail);go_wp2_with fail;obtain⟨r0,r1,r2,rf,hB1⟩:=ZoX W nq;generalize (W.alloc (.cells #[.int .i64 0,.string ⟨#[]⟩,.nilIface] 173)).drewN nq=w1 at r0 r1 r2 hB1 ⊢;refine ZW4 (v:=.agg #[.int .i64 0,.string ⟨#[]⟩,.nilIface]) ZRx rfl ⟨ZQv,?_⟩;exact((hB1.setCell (p:=⟨W.heap.size,0,none⟩) (ZWS _) _).setCell (p:=⟨W.heap.size,1,none⟩) (ZWS _) _).setCell (p:=⟨W.heap.size,2,none⟩) (ZWS _) _
def VA(W:World)(S:Nat)(ss:List Za):Prop:=∀k (h:k<ss.length),W.cell? ⟨S,k,none⟩=some (.string ⟨ss[k].toArray⟩)
theorem VA.below{W W':World}{S:Nat}{ss:List Za}(h:VA W S ss)(hB:Below W.heap.size W W'):VA W' S ss:=fun k hk=>
 (hB.cell (p:=⟨S,k,none⟩) (ZWW _ _ (h k hk))).trans (h k hk)
theorem ZIQ(S cap:Nat)(ss:List Za)(v:Za)(W:World)(h:VA W S ss)(hl:ss.length<=400):
  Calls prog 236 #[.slice (some ⟨S,0,none⟩) ss.length cap,.string ⟨v.toArray⟩] W fun e w'=>(∃n:Int,e= .returned (.int .i64 n)/\ -1<=n/\n<=400/\(0<=n↔v∈ss))/\W=w':=by
 have HT:Hid (VA W S ss):=h;clear h;go_enter func236,ntmps236;go_wp2_with fail;go_loopg [8] (ss.length+1) (fun gk iv wr=>∃k:Nat,k<=ss.length/\gk=ss.length-k+1/\iv= .int .i64 k/\W=wr/\Hid (∀j (hj:j<ss.length),j<k->v≠ss[j]));case atStart=>exact⟨0,U,U,rfl,rfl,fun j _ h=>U⟩
 case round=>
  obtain⟨k,hk,rfl,rfl,rfl,hno⟩:=hrel;by_cases hlt:k<ss.length
  ·have q:=HT.out k hlt;by_cases he:v=ss[k]
   ·have HM:Hid (v∈ss):=by show v∈ss;rw[he];exact ZWX hlt
    exact ZWB
   ·have he':(v==ss[k])=false:=by simpa using he
    have HN:Hid (∀j (hj:j<ss.length),j<k+1->v≠ss[j]):=fun j hj h=>by
     by_cases e:j=k
     ·subst e;exact he
     ·exact hno.out j hj U
    clear he;go_wp2_with fail;go_roundg (ss.length-(k+1)+1);case measure=>omega
    case rel=>exact⟨k+1,U,rfl,ZPp,rfl,HN⟩
  ·have HM:Hid (v∉ss):=fun hm=>by
    exact ZVQ
   exact ZUQ
theorem Zvz(S cap:Nat)(ss:List Za)(v:Za)(W:World)(h:VA W S ss)(hl:ss.length<=400):
  Calls prog 189 #[.slice (some ⟨S,0,none⟩) ss.length cap,.string ⟨v.toArray⟩] W fun e w'=>e= .returned (.bool (ss.contains v))/\W=w':=by
 go_enter func189,ntmps189;go_wp2_with fail;refine(ZIQ S cap ss v _ h hl).mono ?_;rintro e w' ⟨⟨n,rfl,h1,h2,h3⟩,rfl⟩;have HC:Hid (ss.contains v=decide (0<=n)):=by
  show _=_;rw[ZXG,ZXw,h3];simp
 exact ZSJ
def QD(kd:Int)(sp:Za)(ss:List Za):Bool:=kd==1&&ss.contains sp
def Uq(ws:List RW)(k:Nat)(ss:List Za):Bool:=QD (XA ws k) (Qq ws k) ss
theorem ZfT(kd:Int)(sp:Za)(x:Value)(hx:x= .nilIface\/∃t y,x= .iface t y)(S cap:Nat)(ss:List Za)(W:World)(h:VA W S ss)(hl:ss.length<=400):
  Calls prog 143 #[.agg #[.int .i64 kd,.string ⟨sp.toArray⟩,x],.slice (some ⟨S,0,none⟩) ss.length cap] W fun e w'=>e= .returned (.bool (QD kd sp ss))/\Below W.heap.size W w':=by
 rcases hx with rfl|⟨t,y,rfl⟩
 ·have h0:=fun o=>h.below (ZO (w:=W) o);by_cases hk:kd=1
  ·exact ZWO
  ·have hk':(kd==1)=false:=by simpa using hk
   have HF:Hid (QD kd sp ss=false):=by show _=_;unfold QD;rw[hk'];rfl
   exact ZUe
 ·have h0:=fun o=>h.below (ZO (w:=W) o);by_cases hk:kd=1
  ·exact ZWO
  ·have hk':(kd==1)=false:=by simpa using hk
   have HF:Hid (QD kd sp ss=false):=by show _=_;unfold QD;rw[hk'];rfl
   exact ZUe
theorem ZkO(Pb:Nat)(ws:List RW)(k:Nat)(S cap:Nat)(ss:List Za)(W:World)(hP:PS Pb ws k W)(h:VA W S ss)(hl:ss.length<=400):
  Calls prog 138 #[.pointer (some ⟨Pb,0,none⟩),.slice (some ⟨S,0,none⟩) ss.length cap] W fun e w'=>e= .returned (.bool (Uq ws k ss))/\Below W.heap.size W w':=by
 go_enter func138,ntmps138;go_wp2_with fail;refine(Ziv Pb ws k _ hP).mono ?_;rintro e w1 ⟨rfl,hB1⟩;unfold Ko;go_wp2_with fail;refine(ZfT _ _ _ (ZcO ws k) S cap ss _ (h.below hB1) hl).mono ?_;exact ZV9
theorem Zb.ER{M:Nat}{W w:World}(h:Zb M W w){b:Nat}(hb:W.heap.size<=b)(o:Nat)(v:Value):Zb M W (w.setCell ⟨b,o,none⟩ v):=
 ⟨h.os,h.tape,h.output,by have:=h.size;simp[World.setCell];exact this,fun g hg hl=>(ZXf _ _ _ _ (by show g≠b;omega)).trans (h.block g hg hl)⟩
theorem PS.move{Pb:Nat}{ws:List RW}{k k':Nat}{W W':World}(h:PS Pb ws k W)(hK:Zb Pb W W')(hk:k'<=ws.length)
  (hp:∀wa cap,W.heap[Pb]? =some (.cells #[.slice wa ws.length cap,.int .i64 k] 169 (0,0))->W'.heap[Pb]? =some (.cells #[.slice wa ws.length cap,.int .i64 k'] 169 (0,0))):PS Pb ws k' W':=by
 obtain⟨wa,cap,h1,h2⟩:=h.obj;refine⟨h.len,h.ok,hk,⟨wa,cap,hp wa cap h1,fun i hi=>?_⟩,fun wa' cap' e=>?_⟩
 ·obtain⟨g,e,hg,c1,c2,c3⟩:=h2 i hi;exact⟨g,e,hg,hK.cell hg c1,hK.cell hg c2,hK.cell hg c3⟩
 ·rw[hp wa cap h1]at e;have:=h.Zdj wa cap h1;simp at e;omega
theorem Zb.of(M:Nat){w w':World}(h:Below w.heap.size w w'):Zb M w w':=Zb.of_below h
theorem ZkR(Pb:Nat)(ws:List RW)(k:Nat)(W:World)(hP:PS Pb ws k W)(hk:k<ws.length):
  Calls prog 188 #[.pointer (some ⟨Pb,0,none⟩)] W fun e w'=>e= .returned (Ko ws k)/\PS Pb ws (k+1) w'/\Zb Pb W w':=by
 have hlen:=hP.len;go_enter func188,ntmps188;go_wp2_with fail;refine(Ziv Pb ws k _ (hP.keep (ZO _))).mono ?_;rintro e w1 ⟨rfl,hB1⟩;have hP1:=(hP.keep (ZO _)).keep hB1;have hBW:Below W.heap.size W w1:=(ZO _).trans (hB1.mono ZPm);obtain⟨r0,r1,r2,rf⟩:=YW ((hB1.block W.heap.size ZPm).trans (ZWV W _));have hRl:W.heap.size<w1.heap.size:=ZXi ZPm hB1.size;have rf0:=rf 0;have rf1:=rf 1;have rf2:=rf 2;clear rf;obtain⟨wa,cap,d0,d1,df,_⟩:=hP1.cells;have df1:=df 1;have hPl:Pb<w1.heap.size:=ZWW _ _ d0;have hPW:Pb<W.heap.size:=by
  obtain⟨_,_,h1,_⟩:=hP.obj;exact(ZWU.1 h1).1
 have HV0:Ko ws k= .agg #[.int .i64 (XA ws k),.string ⟨(Qq ws k).toArray⟩,Ju ws k]:=rfl;have HV1:=(show Hid _ from HV0);clear HV0;rw[HV1.out];have hx:=ZcO ws k;generalize Ju ws k=x at hx HV1 ⊢;generalize XA ws k=kd at HV1 ⊢;generalize Qq ws k=sp at HV1 ⊢;have HV:=HV1;clear HV1;rcases hx with rfl|⟨t,y,rfl⟩
 ·go_wp2_with fail;refine ZW4 (v:=.agg #[.int .i64 kd,.string ⟨sp.toArray⟩,.nilIface]) ZR7 rfl ⟨ZQv,?_,?_⟩
  ·exact ZVX
  ·exact ZTt
 ·go_wp2_with fail;refine ZW4 (v:=.agg #[.int .i64 kd,.string ⟨sp.toArray⟩,.iface t y]) ZR7 rfl ⟨ZQv,?_,?_⟩
  ·exact ZVX
  ·exact ZTt
theorem ZCz{ws:List RW}{k:Nat}{ss:List Za}(h:Uq ws k ss=true):k<ws.length:=by
 by_cases hk:k<ws.length
 ·exact hk
 ·unfold Uq QD at h;rw[(ZeL hk).1]at h;simp at h
theorem ZHZ{ws:List RW}{k:Nat}(h:XA ws k=2):k<ws.length:=by
 by_cases hk:k<ws.length
 ·exact hk
 ·rw[(ZeL hk).1]at h;cases h
def Zje(Pb:Nat)(ws:List RW)(k:Nat)(W:World)(c:Bool)(yes no:Value)(e:Ending)(w':World):Prop:=
 Zb Pb W w'/\((c=true/\k<ws.length/\e= .returned yes/\PS Pb ws (k+1) w')\/(c=false/\e= .returned no/\PS Pb ws k w'))
def QM(Pb:Nat)(W:World)(e:Ending)(w':World):Prop:=
 ∃b,e= .panicked (thrown b)/\w'.cell? ⟨b,0,none⟩=some (.int .i64 3)/\w'.cell? ⟨b,1,none⟩=some (.int .i64 0)/\Zb Pb W w'
theorem QM.of{Pb:Nat}{W w:World}(hK:Zb Pb W w){e:Ending}{w':World}(h:QM Pb w e w'):QM Pb W e w':=by
 obtain⟨b,h1,h2,h3,h4⟩:=h;exact⟨b,h1,h2,h3,hK.trans h4⟩
theorem ZmS(a:Int)(b:ByteArray)(x:Value)(hx:x= .nilIface\/∃t y,x= .iface t y)(w:World):(Instr.field 173 (.agg #[.int .i64 a,.string b,x]) 0).run prog w= .ok (.int .i64 a) w:=by
 rcases hx with rfl|⟨t,y,rfl⟩<;>kernel_rfl
theorem ZmT(a:Int)(b:ByteArray)(x:Value)(hx:x= .nilIface\/∃t y,x= .iface t y)(w:World):(Instr.field 173 (.agg #[.int .i64 a,.string b,x]) 1).run prog w= .ok (.string b) w:=by
 rcases hx with rfl|⟨t,y,rfl⟩<;>kernel_rfl
theorem Zoy(Pb:Nat)(W:World):Calls prog 66 #[] W (QM Pb W):=by
 go_enter func66,ntmps66;go_wp2_with fail;refine(ZdS 3 0 _).mono ?_;rintro e w' ⟨rfl,rfl⟩;go_wp2;exact⟨rfl,W.heap.size,rfl,ZPm,ZPm,Zb.alloc Pb _ _⟩
theorem ZkS(Pb:Nat)(ws:List RW)(k:Nat)(S cap:Nat)(ss:List Za)(W:World)(hP:PS Pb ws k W)(h:VA W S ss)(hl:ss.length<=400):
  Calls prog 141 #[.pointer (some ⟨Pb,0,none⟩),.slice (some ⟨S,0,none⟩) ss.length cap] W (Zje Pb ws k W (Uq ws k ss) (.string ⟨(Qq ws k).toArray⟩) (.string ⟨#[]⟩)):=by
 go_enter func141,ntmps141;go_wp2_with fail;refine(ZkO Pb ws k S cap ss _ hP h hl).mono ?_;rintro e w1 ⟨rfl,hB1⟩;have hP1:=hP.keep hB1;cases hf:Uq ws k ss with
 |false=>
  go_wp2_with fail;go_ret;exact⟨Zb.of Pb hB1,.inr ⟨hf,rfl,hP1⟩⟩
 |true=>
  have hk:=ZCz hf;go_wp2_with fail;refine(ZkR Pb ws k _ hP1 hk).mono ?_;rintro e w2 ⟨rfl,hP2,hK2⟩;unfold Ko;have f1:=fun w=>ZmT (XA ws k) ⟨(Qq ws k).toArray⟩ (Ju ws k) (ZcO ws k) w;go_wp2_with fail;go_ret;exact⟨(Zb.of Pb hB1).trans hK2,.inl ⟨hf,hk,rfl,hP2⟩⟩
theorem Zlk(W:World)(s:Za):VA (W.alloc (.cells #[.string ⟨s.toArray⟩] 9)) W.heap.size [s]:=fun k hk=>by
 obtain rfl:k=0:=by simp only[List.length_cons,List.length_nil]at hk;omega
 have h3:=ZWV W (.cells #[.string ⟨s.toArray⟩] 9);simp only[World.cell?,h3];rfl
theorem ZCB{ws:List RW}{k:Nat}{s:Za}(h:Uq ws k [s]=true):Qq ws k=s:=by
 unfold Uq QD at h;simp at h;exact h.2
theorem Zoz(Pb:Nat)(ws:List RW)(k:Nat)(s:Za)(W:World)(hP:PS Pb ws k W)(hs:s≠ []):
  Calls prog 142 #[.pointer (some ⟨Pb,0,none⟩),.string ⟨s.toArray⟩] W (Zje Pb ws k W (Uq ws k [s]) (.bool true) (.bool false)):=by
 go_enter func142,ntmps142;go_wp2_with fail;refine(ZkS Pb ws k W.heap.size 1 [s] _ (hP.keep (ZO _)) (Zlk W s) ZPm).mono ?_;rintro e w1 ⟨hK1,⟨hf,hk,rfl,hP1⟩|⟨hf,rfl,hP1⟩⟩
 ·have hne:(Qq ws k== [])=false:=by rw[ZCB hf];simpa using hs
  go_wp2_with fail;go_ret;exact⟨(Zb.of Pb (ZO _)).trans hK1,.inl ⟨hf,hk,rfl,hP1⟩⟩
 ·go_wp2_with fail;go_ret;exact⟨(Zb.of Pb (ZO _)).trans hK1,.inr ⟨hf,rfl,hP1⟩⟩
theorem ZeP(Pb:Nat)(ws:List RW)(k:Nat)(s:Za)(W:World)(hP:PS Pb ws k W)(hs:s≠ []):
  Calls prog 180 #[.pointer (some ⟨Pb,0,none⟩),.string ⟨s.toArray⟩] W fun e w'=>(Uq ws k [s]=true/\k<ws.length/\e= .returned (.tuple #[])/\PS Pb ws (k+1) w'/\Zb Pb W w')\/(Uq ws k [s]=false/\QM Pb W e w'):=by
 go_enter func180,ntmps180;go_wp2_with fail;refine(Zoz Pb ws k s _ hP hs).mono ?_;rintro e w1 ⟨hK1,⟨hf,hk,rfl,hP1⟩|⟨hf,rfl,hP1⟩⟩
 ·go_wp2_with fail;go_end0;exact .inl ⟨hf,hk,rfl,hP1,hK1⟩
 ·go_wp2_with fail;refine(Zoy Pb _).mono ?_;rintro e w2 hb;have hb':=QM.of hK1 hb;obtain⟨b,rfl,h1,h2,h3⟩:=hb';go_wp2;exact⟨rfl,.inr ⟨hf,b,rfl,h1,h2,h3⟩⟩
theorem ZIV(Pb:Nat)(ws:List RW)(k:Nat)(W:World)(hP:PS Pb ws k W):
  Calls prog 231 #[.pointer (some ⟨Pb,0,none⟩)] W fun e w'=>(XA ws k=2/\k<ws.length/\e= .returned (.string ⟨(Qq ws k).toArray⟩)/\PS Pb ws (k+1) w'/\Zb Pb W w')\/(XA ws k≠2/\QM Pb W e w'):=by
 go_enter func231,ntmps231;go_wp2_with fail;refine(Ziv Pb ws k _ hP).mono ?_;rintro e w1 ⟨rfl,hB1⟩;have hP1:=hP.keep hB1;unfold Ko;have f0:=fun w=>ZmS (XA ws k) ⟨(Qq ws k).toArray⟩ (Ju ws k) (ZcO ws k) w;by_cases hn:XA ws k=2
 ·have hk:=ZHZ hn;have hn':(XA ws k==2)=true:=by simpa using hn
  have HN:Hid (XA ws k=2):=hn;clear hn;go_wp2_with fail;refine(ZkR Pb ws k _ hP1 hk).mono ?_;rintro e w2 ⟨rfl,hP2,hK2⟩;unfold Ko;have f1:=fun w=>ZmT (XA ws k) ⟨(Qq ws k).toArray⟩ (Ju ws k) (ZcO ws k) w;go_wp2_with fail;go_ret;exact .inl ⟨HN.out,hk,rfl,hP2,(Zb.of Pb hB1).trans hK2⟩
 ·have hn':(XA ws k==2)=false:=by simpa using hn
  have HN:Hid (XA ws k≠2):=hn;clear hn;go_wp2_with fail;refine(Zoy Pb _).mono ?_;rintro e w2 hb;have hb':=QM.of (Zb.of Pb hB1) hb;obtain⟨b,rfl,h1,h2,h3⟩:=hb';go_wp2;exact⟨rfl,.inr ⟨HN.out,b,rfl,h1,h2,h3⟩⟩
end Go.Proofs.YthmlacabmlghbaaGreatDoor
