import Derived.Test.YthmlacabmlghbaaGreatDoorBgJa23
set_option maxRecDepth 100000
set_option maxHeartbeats 8000000
set_option linter.unusedSimpArgs false
set_option linter.unusedVariables false
namespace Go.Proofs.YthmlacabmlghbaaGreatDoor
open Go.Proofs.Tryz
theorem ZUw{p:Prop}(h:p:=by go_wp2;exact⟨rfl,Zbt hlo ⟨b',rfl,h0,h1,hB3⟩⟩):p:=h
theorem ZUZ{p:Prop}(h:p:=by have HI1:=(show Hid _ from hI1);have HF:=(show Hid _ from hF);clear hI1 hF;go_wp2_with fail;go_ret;exact .inr ⟨hlo,f1,f2,f3,rfl,(Fr.of_below ZE).trans HF.out,HI1.out.wide U⟩):p:=h
open Go.RowKit
theorem Tryz.ZEP:(prog.info? 246).map (fun i=>(i.zero,i.size,i.bytes))=some (some (.int .i64 0),1,8):=by kernel_rfl
theorem Y3.setOther{W0:World}{C M:Nat}{clash:Bool}{W:World}(h:Y3 W0 C M clash W){b o:Nat}{v:Value}(hb:b≠C)(hl:W0.heap.size<=W.heap.size)(hb0:W0.heap.size<=b:=by assumption):Y3 W0 C M clash (W.setCell ⟨b,o,none⟩ v):=
 ⟨h.low.setCell (p:=⟨b,o,none⟩) hb0 _,h.hC,(ZXf W ⟨b,o,none⟩ v C (fun e=>hb e.symm)).trans h.obj⟩
theorem cellAt{w:World}{b k:Nat}{cur:Array Value}{ty:TypeId}(h:w.heap[b]? =some (.cells cur ty (0,0)))(hk:k<cur.size):w.cell? ⟨b,k,none⟩=some cur[k]/\w.frozen? ⟨b,k,none⟩=false:=by
 refine⟨?_,ZQG⟩;simp only[World.cell?,h];exact Array.getElem?_eq_getElem hk
theorem ZGO{J b o:Nat}{W w:World}{v:Value}(h:Zb J W w)(hb:W.heap.size<=b):Zb J W (w.setCell ⟨b,o,none⟩ v):=by
 exact ZU9
def Q0(L R:List Int):Bool:=decide (L.length≠R.length)||(List.zipWith QC L R).any id
def UG(L R:List Int):List Int:=if L.length=R.length then List.zipWith Kr L R else L
theorem ZuK(W0:World)(C M:Nat)(cl:Bool)(lv rv:Value)(L R:List Int)(W:World)(hC:Y3 W0 C M cl W)(hL:Qj W lv L)(hR:Qj W rv R)(hl:L.length<=100000)(hr:R.length<=100000):
  Calls prog 88 #[.pointer (some ⟨C,0,none⟩),lv,rv] W fun e W'=>∃tv,e= .returned tv/\Zb C W W'/\Y3 W0 C M (cl||Q0 L R) W'/\Qj W' tv (UG L R):=by
 obtain⟨la,lc,rfl⟩:∃a c,lv= .slice a L.length c:=by obtain⟨a,c,e,_⟩:=hL;exact⟨a,c,e⟩
 obtain⟨ra,rc,rfl⟩:∃a c,rv= .slice a R.length c:=by obtain⟨a,c,e,_⟩:=hR;exact⟨a,c,e⟩
 obtain⟨z0,z1,zf⟩:=hC.cells;by_cases hlen:L.length=R.length
 ·have HP:Hid (UG L R=List.zipWith Kr L R):=by show _=_;rw[UG,ZWR hlen]
  have HQ:Hid (Q0 L R=(List.zipWith QC L R).any id):=by show _=_;simp[Q0,hlen]
  have HLN:Hid (L.length=R.length):=hlen;have UQ:Hid (∀w',Zb C W w'->∀i (h:i<L.length),(∃g,la=some ⟨g,0,none⟩/\w'.cell? ⟨g,i,none⟩=some (.int .i64 L[i]))/\(∃g,ra=some ⟨g,0,none⟩/\w'.cell? ⟨g,i,none⟩=some (.int .i64 (R.getD i 0)))):=fun w' hK i hi=>by
   have hx:∀(g:Nat) (cu:Array Value),W.heap[g]? =some (.cells cu 246 (0,0))->w'.heap[g]? =some (.cells cu 246 (0,0)):=fun g cu e=>hK.obj (fun eg=>by rw[eg,hC.obj]at e;cases e) e;obtain⟨a,c,e1,h1⟩:=Qj.same hL hx;obtain⟨a',c',e2,h2⟩:=Qj.same hR hx;cases e1;cases e2;obtain⟨g,_,e3,_,h3⟩:=h1 i hi;obtain⟨g',_,e4,_,h4⟩:=h2 i U;refine⟨⟨g,e3,h3⟩,⟨g',e4,?_⟩⟩;rw[ZX6,ZW1 (show i<R.length by omega)];exact h4
  rw[<-hlen];have HC:=(show Hid _ from hC);clear hlen hL hR hC hr;have ZNY:W0.heap.size<=W.heap.size:=HC.out.low.size;have hmk:=fun w:World=>run_make_row' (P:=prog) 162 246 (.int .i64 0) 8 underlying162 Tryz.ZEP rfl .i64 .i64 L.length U U w;go_enter func88,ntmps88;go_wp2_with fail;go_loopg [23] (L.length+1) (fun gk iv wr=>∃k:Nat,k<=L.length/\gk=L.length-k+1/\iv= .int .i64 k/\Zb C W wr/\W.heap.size<wr.heap.size/\(∃cur:Array Value,cur.size=L.length/\wr.heap[W.heap.size]? =some (.cells cur 246 (0,0))/\Hid (∀j,j<k->cur[j]? =some (.int .i64 (Kr (L.getD j 0) (R.getD j 0)))))/\Hid (Y3 W0 C M (cl||((List.zipWith QC L R).take k).any id) wr));case atStart=>exact⟨0,U,U,rfl,Zb.alloc _ _ _,ZPm,⟨_,by simp[madeCells],ZWV W _,fun j hj=>U⟩,by simpa[Hid]using HC.out.below ((ZWT _ W).alloc (ZWS _) _)⟩
  case round=>
   obtain⟨k,hk,rfl,rfl,hK,hsz,⟨cur,hcs,hcw,hcj⟩,hck⟩:=hrel;by_cases hlt:k<L.length
   ·obtain⟨⟨gl,rfl,cl1⟩,⟨gr,rfl,cr1⟩⟩:=UQ.out wr hK k hlt;have HZ:Hid ((List.zipWith QC L R).take (k+1)=(List.zipWith QC L R).take k++ [QC L[k] (R.getD k 0)]):=by
     show _=_;have hkr:k<R.length:=by have:=HLN.out;omega
     rw[ZXA ZPo,List.getElem_zipWith,ZX6,ZW1 hkr];rfl
    have HLD:Hid (L.getD k 0=L[k]):=by show _=_;rw[ZX6,ZW1 hlt];rfl
    have hki:(k:Int)<(L.length:Int):=U
    generalize L[k]=a at *;generalize hrd:R.getD k 0=b at *;have HRD:=(show Hid _ from hrd);clear hrd;have hCW:C≠W.heap.size:=by have:=(ZWU.1 HC.out.obj).1;omega
    have hkc:k<cur.size:=U
    have HCK:Hid (Y3 W0 C M (cl||((List.zipWith QC L R).take k).any id) wr.drew):=hck.out.below (ZW (ZWT _ wr) 1);have HTG:Hid (Calls prog 120 #[.pointer (some ⟨C,0,none⟩),.int .i64 a,.int .i64 b] wr.drew fun e W'=>e= .returned (.int .i64 (Kr a b))/\Zb C wr.drew W'/\Y3 W0 C M ((cl||((List.zipWith QC L R).take k).any id)||QC a b) W'):=ZkC W0 C M _ a b wr.drew HCK.out;go_wp2_with fail;go_region_with (go_at_call 120;refine HTG.out.mono ?_;intro e w2 hh;obtain⟨he,hK2,hc2⟩:=hh;subst he;(have hcw2:w2.heap[W.heap.size]? =some (.cells cur 246 (0,0)):=hK2.obj (fun e=>hCW e.symm) hcw);obtain⟨hst,hfr⟩:=cellAt hcw2 hkc);all_goals
     go_wp2_with fail;go_roundg (L.length-(k+1)+1);case measure=>omega
     case rel=>
      have hK2':Zb C wr w2:=(Zb.drew C wr 1).trans hK2;refine⟨k+1,U,rfl,ZPp,ZGO (hK.trans hK2') (ZWS _),?_,⟨_,?_,Xn hcw2,?_⟩,?_⟩
      ·have:=hK2'.size;simp;omega
      ·rw[Array.size_setIfInBounds];exact hcs
      ·intro j hj;by_cases hjk:j=k
       ·subst hjk;rw[Array.getElem?_setIfInBounds_self_of_lt hkc,HLD.out,HRD.out]
       ·rw[Array.getElem?_setIfInBounds_ne U];exact hcj.out j U
      ·rw[HZ.out,List.any_append];have h2:=hc2.setOther (b:=W.heap.size) (o:=k) (v:=.int .i64 (Kr a b)) (fun e=>hCW e.symm) hc2.low.size;show Y3 W0 C M _ _;simpa[ZXx]using h2
   ·obtain rfl:k=L.length:=by omega
    have UR:Hid (Qj wr (.slice (some ⟨W.heap.size,0,none⟩) L.length L.length) (List.zipWith Kr L R)/\Y3 W0 C M (cl||(List.zipWith QC L R).any id) wr):=by
     have hz:(List.zipWith Kr L R).length=L.length:=by have:=HLN.out;simp;omega
     refine⟨⟨some ⟨W.heap.size,0,none⟩,L.length,by rw[hz],fun i hi=>⟨W.heap.size,cur,rfl,hcw,?_⟩⟩,?_⟩
     ·have h1:=hcj.out i U;have hil:i<L.length:=by omega
      have hir:i<R.length:=by have:=HLN.out;omega
      rw[ZX6,ZX6,ZW1 hil,ZW1 hir]at h1;simp only[World.cell?,hcw,h1,List.getElem_zipWith];rfl
     ·have:=hck.out;rwa [ZXB ZPo]at this
    clear hck hcj;go_wp2_with fail;go_ret;exact⟨_,rfl,hK,by rw[HQ.out];exact UR.out.2,by rw[HP.out];exact UR.out.1⟩
 ·have hb:((L.length:Int) != (R.length:Int))=true:=by simp;omega
  have hb':((L.length:Int)==(R.length:Int))=false:=by simp;omega
  have HC:=(show Hid _ from hC);have HLs:=(show Hid _ from hL);have HP:Hid (UG L R=L):=by show _=_;rw[UG,ZWQ hlen]
  have HQ:Hid (Q0 L R=true):=by show _=_;simp[Q0,hlen]
  clear hlen hC hL hR;go_enter func88,ntmps88;go_wp2_with fail;go_ret;have hK:=Zb.set C W 1 (.bool true);refine⟨_,rfl,hK,by rw[HQ.out,Bool.or_true];exact HC.out.set true,by rw[HP.out];exact Qj.same HLs.out fun g cu e=>(hK.obj (fun eg=>by rw[eg,HC.out.obj]at e;cases e) e)⟩
def Vw(W0:World)(x:Value)(t:Tr):Prop:=∀(W:World) (C M:Nat) (db:List Tb) (cl:Bool) (m:Nat) (ss:List Sc) (nb n b:Nat),J4 W0 M db->Z7 W0 W C M cl m ss nb n b->ss.length+sz t<=1000000->m+sz t<=1000000->
 Calls prog 122 #[.pointer (some ⟨C,0,none⟩),x,.pointer (some ⟨b,0,none⟩)] W (En W0 W C M cl m ss nb b (jc db t ss) (sz t))
theorem Zbt{W0 W W':World}{C M:Nat}{cl:Bool}{m:Nat}{ss:List Sc}{nb b:Nat}{r:Jr}{k:Nat}{e:Ending}(hl:r.lost=true)(hb:XD W0.heap.size 5 0 W0 e W'):En W0 W C M cl m ss nb b r k e W':=.inl ⟨hl,hb⟩
theorem ZBl(W0 W:World)(C M:Nat)(cl:Bool)(m:Nat)(ss:List Sc)(nb n b:Nat)(hI:Z7 W0 W C M cl m ss nb n b):
  Calls prog 122 #[.pointer (some ⟨C,0,none⟩),.nilIface,.pointer (some ⟨b,0,none⟩)] W (En W0 W C M cl m ss nb b {} 0):=by
 have HI:=(show Hid _ from hI);clear hI;go_enter func122,ntmps122;go_wp2_with fail;refine(ZGc _).mono ?_;rintro e w1 ⟨g1,g2,g3,rfl,hB⟩;go_wp2_with fail;go_ret;exact .inr ⟨rfl,g1,g2,g3,rfl,Fr.of_below hB,ZSd⟩
theorem ZBm{W0:World}(l:Value)(x:Tr)(hl:Vw W0 l x)(hil:∃n y,l= .iface n y):Vw W0 (.iface 315 (.agg #[l])) (nd {kind:= [110,111,116]} (l1 x)):=by
 intro W C M db cl m ss nb n b hD hI hs hm;have hj:jc db (nd {kind:= [110,111,116]} (l1 x)) ss=jc db x ss:=by
  rw[nd,jc,ZWR (.inr (.inr rfl)),l1,jcs,jcs,Jr.or_none]
 obtain⟨ln,ly,rfl⟩:=hil;have ta:=ZL4 (.agg #[.iface ln ly]);have tb:=ZL5 (.agg #[.iface ln ly]);have hsz:sz (nd {kind:= [110,111,116]} (l1 x))=1+sz x:=ZQ4
 have Qz:Hid (∀w',Below W.heap.size W w'->Calls prog 122 #[.pointer (some ⟨C,0,none⟩),.iface ln ly,.pointer (some ⟨b,0,none⟩)] w' (En W0 w' C M cl m ss nb b (jc db x ss) (sz x))):=fun w' hB=>hl w' C M db cl m ss nb n b hD (hI.below hB) U U;rw[hj,hsz];clear hj hsz hl hI hs hm hD;generalize jc db x ss=R at *;go_enter func122,ntmps122;go_wp2_with fail;have ZE:Below W.heap.size W (W.alloc (.cells #[.iface ln ly] 315)):=(ZWT _ W).alloc (ZWS _) _;refine(Qz.out _ ZE).mono ?_;rintro e w1 (⟨hlo,b',rfl,h0,h1,hB3⟩|⟨hlo,f1,f2,f3,rfl,hF,hI1⟩)
 ·exact ZUw
 ·have HI1:=(show Hid _ from hI1);have HF:=(show Hid _ from hF);clear hI1 hF;go_wp2_with fail;refine(ZuI _ _ _ _).mono ?_;rintro e w2 ⟨g1,g2,g3,rfl,hB2⟩;go_wp2_with fail;go_ret;exact .inr ⟨hlo,g1,g2,g3,rfl,(Fr.of_below ZE).trans (HF.out.trans (Fr.of_below hB2)),(HI1.out.below hB2).wide U⟩
theorem ZBg{W0:World}(l r:Value)(x y:Tr)(s:Za)(hl:XK l x)(hr:XK r y)(htx:Er x)(hty:Er y)(hil:∃n y,l= .iface n y)(hir:∃n y,r= .iface n y):Vw W0 (.iface 322 (.agg #[l,Zv s,r])) (nd {kind:= [99,111,109,112,97,114,101],sign:=s} (l2 x y)):=by
 intro W C M db cl m ss nb n b hD hI hs hm;have hj:jc db (nd {kind:= [99,111,109,112,97,114,101],sign:=s} (l2 x y)) ss=((jx x ss).2.or (jx y ss).2).or {ZG:= !Xx (jx x ss).1 (jx y ss).1}:=by
  rw[nd,jc,ZWQ (by show ¬(([99,111,109,112,97,114,101]:Za)= [97,110,100]\/([99,111,109,112,97,114,101]:Za)= [111,114]\/([99,111,109,112,97,114,101]:Za)= [110,111,116]);decide),
   ZWQ (by show ¬([99,111,109,112,97,114,101]:Za)= [101,120,105,115,116,115];decide),ZWQ (by show ¬([99,111,109,112,97,114,101]:Za)= [105,115,110,117,108,108];decide),ZWR (by show([99,111,109,112,97,114,101]:Za)= [99,111,109,112,97,114,101];rfl),l2,Qo,jx2]
 have hsz:sz (nd {kind:= [99,111,109,112,97,114,101],sign:=s} (l2 x y))=1+(sz x+sz y):=ZQx
 have Qz:Hid (∀w',Below W.heap.size W w'->Calls prog 166 #[.pointer (some ⟨C,0,none⟩),.agg #[l,Zv s,r],.pointer (some ⟨b,0,none⟩)] w' (En W0 w' C M cl m ss nb b (((jx x ss).2.or (jx y ss).2).or {ZG:= !Xx (jx x ss).1 (jx y ss).1}) (sz x+sz y))):=fun w' hB=>ZGe l r x y s hl hr htx hty hil hir W0 w' C M cl m ss nb n b (hI.below hB) U;obtain⟨ln,ly,rfl⟩:=hil;obtain⟨rn,ry,rfl⟩:=hir;rw[hj,hsz];unfold Zv at *;have ta:=ZLH (.agg #[.iface ln ly,.string ⟨s.toArray⟩,.iface rn ry]);have tb:=ZLI (.agg #[.iface ln ly,.string ⟨s.toArray⟩,.iface rn ry]);have tc:=ZLJ (.agg #[.iface ln ly,.string ⟨s.toArray⟩,.iface rn ry]);clear hj hsz hl hr hI hs hm hD htx hty;generalize ((jx x ss).2.or (jx y ss).2).or {ZG:= !Xx (jx x ss).1 (jx y ss).1}=R at *;go_enter func122,ntmps122;go_wp2_with fail;have ZE:Below W.heap.size W (W.alloc (.cells #[.iface ln ly,.string ⟨s.toArray⟩,.iface rn ry] 322)):=(ZWT _ W).alloc (ZWS _) _;refine(Qz.out _ ZE).mono ?_;rintro e w1 (⟨hlo,b',rfl,h0,h1,hB3⟩|⟨hlo,f1,f2,f3,rfl,hF,hI1⟩)
 ·exact ZUw
 ·exact ZUZ
def Zbj(t:Tr):Prop:=∀(W0:World) (M:Nat) (db:List Tb) (ss:List Sc),J4 W0 M db->(∀s∈ss,∃xs,Xk s xs)->∀ty∈(jq db t ss).1,J6 ty
theorem ZBa(a:Za)(l:List Za)(ha:J6 a)(hl:∀t∈l,J6 t):Q0 [ZI a] (l.map ZI)=J3 a l:=by
 match l with
 | []=>rfl
 | [b]=>
  have:=Zhf ha (hl b ZPm);simp[Q0,J3,this]
 |_::_::_=>simp[Q0,J3]
theorem ZuL{W0:World}(l q:Value)(x y:Tr)(s hw:Za)(hh:hw∈ZcE)(hl:XK l x)(hq:KL W0 q y)(htx:Er x)(hqt:Zbj y)(hil:∃n y,l= .iface n y)(hiq:∃n y,q= .iface n y)(W:World)(C M:Nat)(db:List Tb)(cl:Bool)(m:Nat)(ss:List Sc)(nb n b:Nat)(hD:J4 W0 M db)(hI:Z7 W0 W C M cl m ss nb n b)(hs:ss.length+sz y<=1000000)(hm:m+sz x+sz y<=1000000):
  Calls prog 171 #[.pointer (some ⟨C,0,none⟩),l,.string ⟨s.toArray⟩,.string ⟨hw.toArray⟩,q,.pointer (some ⟨b,0,none⟩)] W (En W0 W C M cl m ss nb b (((jx x ss).2.or (jq db y ss).2).or {ZG:=J3 (jx x ss).1 (jq db y ss).1}) (sz x+sz y)):=by
 obtain⟨ln,ly,rfl⟩:=hil;obtain⟨qn,qy,rfl⟩:=hiq;have hcl:=ZBa _ _ (htx ss hI.pl.ZdN) (hqt W0 M db ss hD hI.pl.ZdN);have hcall:=hl W0 W C M cl m ss nb n b hI U;have XX:Hid (∀w' cl' n',Z7 W0 w' C M cl' (m+sz x) ss nb n' b->Calls prog 62 #[.pointer (some ⟨C,0,none⟩),.iface qn qy,.pointer (some ⟨b,0,none⟩)] w' (Jn W0 w' C M cl' (jq db y ss))):=fun w' cl' n' hI'=>hq w' C M db cl' (m+sz x) ss nb n' _ hD hI'.ck hI'.pl hI'.nb hI'.n hI'.gl hs U;have UQ:=(show Hid _ from hcl);unfold QT at hcall;unfold Jn at XX;clear hcl hl hq htx hqt hI hm hD hs;generalize jx x ss=RX at *;generalize jq db y ss=RY at *;obtain⟨tx,rx,ux⟩:=RX;obtain⟨Zq,ry',uy⟩:=RY;go_enter func171,ntmps171;go_wp2_with fail;refine hcall.mono ?_;rintro e w1 (⟨hlo1,b',rfl,h0,h1,hB3⟩|⟨hlo1,f1,f2,f3,rfl,hF1,hI1⟩)
 ·go_wp2;exact⟨rfl,Zbt (by(have h:rx=true:=hlo1);simp[Jr.or,h]) ⟨b',rfl,h0,h1,hB3⟩⟩
 ·have HI1:=(show Hid _ from hI1);have HF1:=(show Hid _ from hF1);clear hI1 hF1 hcall;obtain rfl:rx=false:=hlo1;go_wp2_with fail;refine(XX.out _ _ _ HI1.out).mono ?_;rintro e w2 (⟨hlo2,b',rfl,h0,h1,hB3⟩|⟨hlo2,rn,rv,tv,rfl,hK2,hC2,ti,hti,hil,hie⟩)
  ·go_wp2;exact⟨rfl,Zbt (by(have h:ry'=true:=hlo2);simp[Jr.or,h]) ⟨b',rfl,h0,h1,hB3⟩⟩
  ·obtain rfl:ry'=false:=hlo2;have HI2:=(show Hid _ from HI1.out.keep hK2 hC2);have HK2:=(show Hid _ from hK2);have HC2:=(show Hid _ from hC2);have HIE:=(show Hid _ from hie);have HTI:=(show Hid _ from hti);obtain⟨ta,tc,rfl⟩:∃a c,tv= .slice a ti.length c:=by obtain⟨a,c,e,_⟩:=hti;exact⟨a,c,e⟩
   clear hK2 hC2 hie hti;go_wp2_with fail;have hBq:Below w2.heap.size w2 (w2.alloc (.cells #[.int .i64 (ZI tx)] 246)):=(ZWT _ w2).alloc (ZWS _) _;have hone:Qj (w2.alloc (.cells #[.int .i64 (ZI tx)] 246)) (.slice (some ⟨w2.heap.size,0,none⟩) 1 1) [ZI tx]:=by
    refine⟨some ⟨w2.heap.size,0,none⟩,1,rfl,fun i hi=>⟨w2.heap.size,_,rfl,ZWV w2 _,?_⟩⟩;have hi0:i=0:=by simp at hi;omega
    subst hi0;have h:=ZWV w2 (.cells #[.int .i64 (ZI tx)] 246);generalize w2.alloc (.cells #[.int .i64 (ZI tx)] 246)=wq at h;simp[World.cell?,h]
   have Zt6:=ZuK W0 C M _ _ _ [ZI tx] ti _ (HC2.out.below hBq) hone (Qj.same HTI.out fun g cu e=>(hBq.block g (ZWU.1 e).1).trans e) ZPm hil;refine Zt6.mono ?_;rintro e w3 ⟨tv,rfl,hK3,ZA,_⟩;have HK3:=(show Hid _ from hK3);have HC3:=(show Hid _ from ZA);clear hK3 ZA Zt6 hone;go_wp2_with fail;refine(ZGM _ _ _ _ s hw _ _ hh).mono ?_;rintro e w4 ⟨k1,k2,k3,rfl,hB4⟩;go_wp2_with fail;go_ret;have hI3:=((HI2.out.below hBq).keep HK3.out HC3.out).below hB4;refine .inr ⟨rfl,k1,k2,k3,rfl,HF1.out.trans ((Fr.X6 HK2.out HI1.out.ck.is).trans ((Fr.of_below hBq).trans ((Fr.X6 HK3.out (HI2.out.below hBq).ck.is).trans (Fr.of_below hB4)))),?_⟩;have Js:=hI3.wide (m':=m+(sz x+sz y)) U;have ZDv:(((cl||ux)||uy)||Q0 [ZI tx] ti)=(cl||((ux||uy)||J3 tx Zq)):=by
    cases hcc:((cl||ux)||uy)with
    |true=>
     have:(cl||((ux||uy)||J3 tx Zq))=true:=by
      simp only[ZYu]at hcc ⊢;rcases hcc with(h|h)|h
      ·exact ZS3
      ·exact .inr (.inl (.inl h))
      ·exact .inr (.inl (.inr h))
     rw[this];rfl
    |false=>
     have e1:=HIE.out hcc;have e2:Q0 [ZI tx] ti=J3 tx Zq:=by rw[e1];exact UQ.out
     simp only[Bool.or_eq_false_iff]at hcc;rw[e2,hcc.1.1,hcc.1.2,hcc.2];simp
   have hg:(cl||(((Jr.mk false ux).or (Jr.mk false uy)).or {ZG:=J3 tx Zq}).ZG)=(((cl||ux)||uy)||Q0 [ZI tx] ti):=by rw[ZDv];rfl
   show Z7 W0 w4 C M (cl||(((Jr.mk false ux).or (Jr.mk false uy)).or {ZG:=J3 tx Zq}).ZG) _ ss nb _ b;rw[hg];exact Js
theorem ZBh{W0:World}(q:Value)(y:Tr)(hq:KL W0 q y)(hiq:∃n y,q= .iface n y):Vw W0 (.iface 335 (.agg #[q])) (nd {kind:= [101,120,105,115,116,115]} (l1 y)):=by
 intro W C M db cl m ss nb n b hD hI hs hm;have hj:jc db (nd {kind:= [101,120,105,115,116,115]} (l1 y)) ss=(jq db y ss).2:=by
  rw[nd,jc,ZWQ ZPl,ZWR rfl,l1,K8]
 obtain⟨qn,qy,rfl⟩:=hiq;have hsz:sz (nd {kind:= [101,120,105,115,116,115]} (l1 y))=1+sz y:=ZQ4
 have ta:=ZLK (.agg #[.iface qn qy]);have tb:=ZLL (.agg #[.iface qn qy]);have tc:=ZLM (.agg #[.iface qn qy]);have td:=ZLN (.agg #[.iface qn qy]);have te:=ZLO (.agg #[.iface qn qy]);have Qz:Hid (∀w',Below W.heap.size W w'->Calls prog 62 #[.pointer (some ⟨C,0,none⟩),.iface qn qy,.pointer (some ⟨b,0,none⟩)] w' (Jn W0 w' C M cl (jq db y ss))):=fun w' hB=>by
  have hI':=hI.below hB;exact hq w' C M db cl m ss nb n _ hD hI'.ck hI'.pl hI'.nb hI'.n hI'.gl U U
 have HI:=(show Hid _ from hI);rw[hj,hsz];clear hj hsz hq hI hs hm hD;unfold Jn at Qz;generalize jq db y ss=R at *;obtain⟨Zq,r⟩:=R;go_enter func122,ntmps122;go_wp2_with fail;have ZE:Below W.heap.size W (W.alloc (.cells #[.iface qn qy] 335)):=(ZWT _ W).alloc (ZWS _) _;refine(Qz.out _ ZE).mono ?_;rintro e w1 (⟨hlo,b',rfl,h0,h1,hB3⟩|⟨hlo,rn,rv,tv,rfl,hK,Zf,_⟩)
 ·exact ZUw
 ·have HK:=(show Hid _ from hK);have HC:=(show Hid _ from Zf);clear hK Zf;go_wp2_with fail;refine(ZGl _ _ _).mono ?_;rintro e w2 ⟨g1,g2,g3,rfl,hB2⟩;go_wp2_with fail;go_ret;exact .inr ⟨hlo,g1,g2,g3,rfl,(Fr.of_below ZE).trans ((Fr.X6 HK.out (HI.out.below ZE).ck.is).trans (Fr.of_below hB2)),(((HI.out.below ZE).keep HK.out HC.out).below hB2).wide U⟩
theorem ZBn{W0:World}(l q:Value)(x y:Tr)(s hw:Za)(hh:hw∈ZcE)(hl:XK l x)(hq:KL W0 q y)(htx:Er x)(hqt:Zbj y)(hil:∃n y,l= .iface n y)(hiq:∃n y,q= .iface n y):Vw W0 (.iface 341 (.agg #[q,l,Zv s,Zv hw])) (nd {kind:=hw,sign:=s} (l2 x y)):=by
 intro W C M db cl m ss nb n b hD hI hs hm;have hj:jc db (nd {kind:=hw,sign:=s} (l2 x y)) ss=((jx x ss).2.or (jq db y ss).2).or {ZG:=J3 (jx x ss).1 (jq db y ss).1}:=by
  have hh':hw= [97,110,121]\/hw= [97,108,108]:=by simpa[ZcE]using hh
  have n1:¬(hw= [97,110,100]\/hw= [111,114]\/hw= [110,111,116]):=by rcases hh' with rfl|rfl<;>decide
  have n2:¬hw= [101,120,105,115,116,115]:=by rcases hh' with rfl|rfl<;>decide
  have n3:¬hw= [105,115,110,117,108,108]:=by rcases hh' with rfl|rfl<;>decide
  have n4:¬hw= [99,111,109,112,97,114,101]:=by rcases hh' with rfl|rfl<;>decide
  have n5:hw= [105,110]\/hw= [97,110,121]\/hw= [97,108,108]:=.inr hh';rw[nd,jc,ZWQ (by exact n1),ZWQ (by exact n2),ZWQ (by exact n3),ZWQ (by exact n4),ZWR (by exact n5),l2,Qo,jq2,K8]
 have hsz:sz (nd {kind:=hw,sign:=s} (l2 x y))=1+(sz x+sz y):=ZQx
 have Qz:Hid (∀w',Below W.heap.size W w'->Calls prog 171 #[.pointer (some ⟨C,0,none⟩),l,.string ⟨s.toArray⟩,.string ⟨hw.toArray⟩,q,.pointer (some ⟨b,0,none⟩)] w' (En W0 w' C M cl m ss nb b (((jx x ss).2.or (jq db y ss).2).or {ZG:=J3 (jx x ss).1 (jq db y ss).1}) (sz x+sz y))):=fun w' hB=>ZuL l q x y s hw hh hl hq htx hqt hil hiq w' C M db cl m ss nb n b hD (hI.below hB) U U;obtain⟨ln,ly,rfl⟩:=hil;obtain⟨qn,qy,rfl⟩:=hiq;rw[hj,hsz];unfold Zv at *;have ta:=ZL8 (.agg #[.iface qn qy,.iface ln ly,.string ⟨s.toArray⟩,.string ⟨hw.toArray⟩]);have tb:=ZL9 (.agg #[.iface qn qy,.iface ln ly,.string ⟨s.toArray⟩,.string ⟨hw.toArray⟩]);have tc:=ZMa (.agg #[.iface qn qy,.iface ln ly,.string ⟨s.toArray⟩,.string ⟨hw.toArray⟩]);have td:=ZMb (.agg #[.iface qn qy,.iface ln ly,.string ⟨s.toArray⟩,.string ⟨hw.toArray⟩]);have te:=ZMc (.agg #[.iface qn qy,.iface ln ly,.string ⟨s.toArray⟩,.string ⟨hw.toArray⟩]);have tf:=ZMd (.agg #[.iface qn qy,.iface ln ly,.string ⟨s.toArray⟩,.string ⟨hw.toArray⟩]);have tg:=ZMe (.agg #[.iface qn qy,.iface ln ly,.string ⟨s.toArray⟩,.string ⟨hw.toArray⟩]);clear hj hsz hl hq hI hs hm hD htx hqt hh;generalize ((jx x ss).2.or (jq db y ss).2).or {ZG:=J3 (jx x ss).1 (jq db y ss).1}=R at *;go_enter func122,ntmps122;go_wp2_with fail;have ZE:Below W.heap.size W (W.alloc (.cells #[.iface qn qy,.iface ln ly,.string ⟨s.toArray⟩,.string ⟨hw.toArray⟩] 341)):=(ZWT _ W).alloc (ZWS _) _;refine(Qz.out _ ZE).mono ?_;rintro e w1 (⟨hlo,b',rfl,h0,h1,hB3⟩|⟨hlo,f1,f2,f3,rfl,hF,hI1⟩)
 ·exact ZUw
 ·exact ZUZ
theorem ZBb(x y:Int)(L R:List Int):Q0 (x::L) (y::R)=(QC x y||Q0 L R):=by
 unfold Q0;simp only[List.length_cons,List.zipWith_cons_cons,List.any_cons,id];have:decide (L.length+1≠R.length+1)=decide (L.length≠R.length):=ZPm
 rw[this];cases QC x y<;>cases decide (L.length≠R.length)<;>simp
theorem ZBc{L R:List Int}(h:Q0 L R=false):L.length=R.length:=by
 unfold Q0 at h;simp at h;exact h.1
theorem ZrA:∀(a b:List Za),(∀t∈a,J6 t)->(∀t∈b,J6 t)->(!(X3 a b).2)=Q0 (a.map ZI) (b.map ZI)/\((X3 a b).2=true->(X3 a b).1.map ZI=UG (a.map ZI) (b.map ZI))
 | [], [],_,_=>⟨rfl,fun _=>rfl⟩
 | [],b::q,_,_=>⟨by simp[X3,Q0],fun h=>by simp[X3]at h⟩
 |a::r, [],_,_=>⟨by simp[X3,Q0],fun h=>by simp[X3]at h⟩
 |a::r,b::q,ha,hb=>by
  obtain⟨h1,h2⟩:=ZrA r q (fun t h=>ha t (ZXe _ h)) (fun t h=>hb t (ZXe _ h));have f:=Zhf (ha a ZXn) (hb b ZXn);have p:=ZJf (b:=b) (ha a ZXn);refine⟨?_,fun h=>?_⟩
  ·rw[X3,ZWZ,ZWZ,ZBb,<-h1,<-f];simp only[Bool.not_and]
  ·rw[X3]at h ⊢;simp only[ZXN]at h;have hl:Q0 (r.map ZI) (q.map ZI)=false:=by rw[<-h1,h.2];rfl
   have hlen:=ZBc hl;have h3:=h2 h.2;have h4:UG (r.map ZI) (q.map ZI)=List.zipWith Kr (r.map ZI) (q.map ZI):=by unfold UG;rw[ZWR hlen]
   rw[h4]at h3;show ZI (JI a b)::(X3 r q).1.map ZI=UG (ZI a::r.map ZI) (ZI b::q.map ZI);rw[p,h3];unfold UG;rw[ZWR (by rw[List.length_cons,List.length_cons,hlen])];rfl
theorem ZJe(L R:List Int):(UG L R).length<=L.length:=by
 unfold UG;split
 ·rw[List.length_zipWith];omega
 ·exact ZTg
theorem Zuw{s:Za}(hs:s≠QE)(b:Bool)(x y:Tr)(db:List Tb)(ss:List Sc):jq db (nd {kind:=s,all:=b} (l2 x y)) ss=((X3 (jq db x ss).1 (jq db y ss).1).1,((jq db x ss).2.or (jq db y ss).2).or {ZG:= !(X3 (jq db x ss).1 (jq db y ss).1).2}):=by
 rw[nd,jq,ZWQ (by exact hs),l2,K8,jq2,K8]
theorem Zrz{P:Za->Prop}:∀(a b:List Za),(∀t∈a,P t)->(∀t∈b,P t)->∀t∈(X3 a b).1,P t
 | [], [],_,_,t,h=>ZPs
 | [],_::_,_,_,t,h=>ZPs
 |_::_, [],_,_,t,h=>ZPs
 |a::r,b::q,ha,hb,t,h=>by
  rw[X3]at h;rcases ZW3.1 h with rfl|h
  ·split
   ·exact hb b ZXn
   ·exact ha a ZXn
  ·exact Zrz r q (fun t h=>ha t (ZXe _ h)) (fun t h=>hb t (ZXe _ h)) t h
theorem ZJr{s:Za}(hs:s≠QE)(b:Bool)(x y:Tr)(hx:Zbj x)(hy:Zbj y):Zbj (nd {kind:=s,all:=b} (l2 x y)):=fun W0 M db ss hD hsc ty hty=>by
 rw[Zuw hs]at hty;exact Zrz _ _ (hx W0 M db ss hD hsc) (hy W0 M db ss hD hsc) ty hty
theorem Yv.Zoh{W0 W W':World}{C M:Nat}{cl:Bool}{m nb n:Nat}{ss:List Sc}{v:Value}(h:Yv W0 W m ss nb n v)(hC:Y3 W0 C M cl W)(hK:Zb C W W'):Yv W0 W' m ss nb n v:=h.keep hK hC.is
theorem ZJt{W0:World}(l r:Value)(x y:Tr)(s g:Za)(b:Bool)(hs:s≠QE)(hl:KL W0 l x)(hr:KL W0 r y)(hqx:Zbj x)(hqy:Zbj y)(hil:∃n y,l= .iface n y)(hir:∃n y,r= .iface n y):KL W0 (.iface 205 (.agg #[l,Zv g,r])) (nd {kind:=s,all:=b} (l2 x y)):=by
 intro W C M db cl m ss nb n v hD hC hP hnb hn hgl hlen hm;have hsz:sz (nd {kind:=s,all:=b} (l2 x y))=1+(sz x+sz y):=ZQx
 have hsc:∀s∈ss,∃xs,Xk s xs:=hP.ZdN;have HB:=(show Hid _ from ZrA _ _ (hqx W0 M db ss hD hsc) (hqy W0 M db ss hD hsc));rw[Zuw hs];obtain⟨ln,ly,rfl⟩:=hil;obtain⟨rn,ry,rfl⟩:=hir;obtain⟨va,rfl⟩:∃o,v= .pointer o:=by
  cases ss with
  |nil=>exact⟨_,hP⟩
  |cons s2 up2=>exact ZVK
 have ta:=ZLZ (.agg #[.iface ln ly,.string ⟨g.toArray⟩,.iface rn ry]);have Qz:Hid (∀w',Below W.heap.size W w'->Calls prog 62 #[.pointer (some ⟨C,0,none⟩),.iface ln ly,.pointer va] w' (Jn W0 w' C M cl (jq db x ss))):=fun w' hB=>hl w' C M db cl m ss nb n _ hD (hC.below hB) (Yv.below (W:=W) hP hB) hnb (ZW0 hn hB.size) hgl U U;have XX:Hid (∀w' cl',Zb C W w'->Y3 W0 C M cl' w'->Calls prog 62 #[.pointer (some ⟨C,0,none⟩),.iface rn ry,.pointer va] w' (Jn W0 w' C M cl' (jq db y ss))):=fun w' cl' hK hC'=>hr w' C M db cl' m ss nb n _ hD hC' (Yv.Zoh hP hC hK) hnb (ZW0 hn hK.size) hgl U U;have HC:=(show Hid _ from hC);clear hsz hl hr hqx hqy hC hP hD hsc hgl hlen hm hs;unfold Jn at Qz XX;generalize jq db x ss=RX at *;generalize jq db y ss=RY at *;obtain⟨tx,rx,ux⟩:=RX;obtain⟨ty,ry',uy⟩:=RY;unfold Zv;go_enter func62,ntmps62;go_wp2_with fail;generalize Yb:W.alloc (.cells #[.iface ln ly,.string ⟨g.toArray⟩,.iface rn ry] 205)=Wp;have ZE:Below W.heap.size W Wp:=by rw[<-Yb];exact(ZWT _ W).alloc (ZWS _) _
 have Zn:Wp.heap[W.heap.size]? =some (.cells #[.iface ln ly,.string ⟨g.toArray⟩,.iface rn ry] 205 (0,0)):=by rw[<-Yb];exact ZWV W _
 have Zm5:W.heap.size≠C:=by have:=(ZWU.1 HC.out.obj).1;omega
 clear Yb;refine(Qz.out _ ZE).mono ?_;rintro e w1 (⟨hlo1,b',rfl,h0,h1,hB3⟩|⟨hlo1,qn,qy,tv1,rfl,hK1,Zf,tl,hT1,hl1,he1⟩)
 ·exact ZUo
 ·obtain rfl:rx=false:=hlo1;have ho1:=hK1.obj Zm5 Zn;have ZsY:Zb C W w1:=(Zb.of_below ZE).trans hK1;obtain⟨c0,c1,c2,_⟩:=YW ho1;obtain⟨ta1,tc1,rfl⟩:∃a c,tv1= .slice a tl.length c:=by obtain⟨a,c,e,_⟩:=hT1;exact⟨a,c,e⟩
  have HT1:Hid (Qj w1 (.slice ta1 tl.length tc1) tl):=hT1;have HE1:=(show Hid _ from he1);have HC1:=(show Hid _ from Zf);have HK1:Hid (Zb C W w1):=ZsY;clear hT1 he1 Zf hK1 ZsY Zn;go_wp2_with fail;refine(XX.out w1 _ HK1.out HC1.out).mono ?_;rintro e w2 (⟨hlo2,b',rfl,h0,h1,hB3⟩|⟨hlo2,pn,py,tv2,rfl,hK2,hC2,tr,Yo,hl2,he2⟩)
  ·exact ZUp
  ·obtain rfl:ry'=false:=hlo2;have ho2:=hK2.obj Zm5 ho1;obtain⟨d0,d1,d2,_⟩:=YW ho2;obtain⟨ta2,tc2,rfl⟩:∃a c,tv2= .slice a tr.length c:=by obtain⟨a,c,e,_⟩:=Yo;exact⟨a,c,e⟩
   have HT2:Hid (Qj w2 (.slice ta2 tr.length tc2) tr):=Yo;have Zyv:Hid (Qj w2 (.slice ta1 tl.length tc1) tl):=HT1.out.same (fun g cu e=>hK2.obj (fun eg=>by rw[eg,HC1.out.obj]at e;cases e) e);have HE2:=(show Hid _ from he2);have HC2:=(show Hid _ from hC2);have HK2:Hid (Zb C W w2):=HK1.out.trans hK2;have Zyr:Hid (∀w',Below w2.heap.size w2 w'->Calls prog 88 #[.pointer (some ⟨C,0,none⟩),.slice ta1 tl.length tc1,.slice ta2 tr.length tc2] w' fun e W'=>∃tv,e= .returned tv/\Zb C w' W'/\Y3 W0 C M (((cl||ux)||uy)||Q0 tl tr) W'/\Qj W' tv (UG tl tr)):=fun w' hB=>ZuK W0 C M _ _ _ tl tr w' (HC2.out.below hB) (Zyv.out.same (fun g cu e=>(hB.block g (ZWU.1 e).1).trans e)) (HT2.out.same (fun g cu e=>(hB.block g (ZWU.1 e).1).trans e)) hl1 hl2;have Zgs:Hid (∀(w' w3:World) (tv:Value) (n:TypeId) (y:Value),Zb C W w'->Zb C w' w3->Y3 W0 C M (((cl||ux)||uy)||Q0 tl tr) w3->Qj w3 tv (UG tl tr)->Jn W0 W C M cl ((X3 tx ty).1,((Jr.mk false ux).or (Jr.mk false uy)).or {ZG:= !(X3 tx ty).2}) (.returned (.tuple #[.iface n y,tv])) w3):=fun w' w3 tv n y hK hK3 ZA hT3=>by
    have hu:(cl||(((Jr.mk false ux).or (Jr.mk false uy)).or {ZG:= !(X3 tx ty).2}).ZG)=(((cl||ux)||uy)||Q0 tl tr):=by
     cases hcc:((cl||ux)||uy)with
     |true=>
      have:(cl||((ux||uy)|| !(X3 tx ty).2))=((((cl||ux)||uy))|| !(X3 tx ty).2):=by simp[ZXx]
      show(cl||((ux||uy)|| !(X3 tx ty).2))=_;rw[this,hcc];rfl
     |false=>
      simp only[Bool.or_eq_false_iff]at hcc;have e1:=HE1.out (by simp[hcc.1.1,hcc.1.2]);have e2:=HE2.out (by simp[hcc.1.1,hcc.1.2,hcc.2]);rw[e1,e2,<-HB.out.1];simp[Jr.or,hcc.1.1,hcc.1.2,hcc.2]
    refine .inr ⟨rfl,n,y,tv,rfl,hK.trans hK3,by rw[hu];exact ZA,UG tl tr,hT3,ZW0 (ZJe _ _) hl1,fun hn=>?_⟩;rw[hu]at hn;simp only[Bool.or_eq_false_iff]at hn;have e1:=HE1.out (by simp[hn.1.1.1,hn.1.1.2]);have e2:=HE2.out (by simp[hn.1.1.1,hn.1.1.2,hn.1.2]);have h2:=hn.2;rw[e1,e2]at h2 ⊢;rw[<-HB.out.1]at h2;exact(HB.out.2 ZQe).symm
   clear Yo he2 hC2 hK2 c0 c1 c2 ho1;go_wp2_with fail;go_region_with (go_at_call 88;refine(Zyr.out _ (by first|exact ZW (ZWT _ w2) 1|exact(ZW (ZWT _ w2) 1).alloc (ZWS _) _|exact ZW ((ZWT _ w2).alloc (ZWS _) _) 1)).mono ?_;rintro e w3 ⟨tv,rfl,hK3,ZA,hT3⟩;have ho3:w3.heap[W.heap.size]? =some (.cells #[.iface ln ly,.string ⟨g.toArray⟩,.iface rn ry] 205 (0,0)):=hK3.obj Zm5 (by first|exact ho2|exact(ZXa _ _ _ (ZWU.1 ho2).1).trans ho2);obtain⟨d0',d1',d2',_⟩:=YW ho3;obtain⟨ta3,tc3,Kc⟩:∃a c,tv= .slice a (UG tl tr).length c:=(by obtain⟨a,c,e,_⟩:=hT3;exact⟨a,c,e⟩);subst Kc);all_goals
    clear d0 d1 d2 d0' d1' d2';go_wp2_with fail;go_ret2;first
     |exact Zgs.out _ _ _ _ _ (HK2.out.trans (Zb.of_below (ZW ((ZWT _ w2).alloc (ZWS _) _) 1))) hK3 ZA hT3
     |exact Zgs.out _ _ _ _ _ (HK2.out.trans (Zb.of_below (ZW (ZWT _ w2) 1))) (hK3.trans (Zb.of_below ((ZWT _ w3).alloc (ZWS _) _))) (ZA.below ((ZWT _ w3).alloc (ZWS _) _)) (hT3.same (fun g cu e=>(ZXa w3 _ g (ZWU.1 e).1).trans e))
theorem ZvV{M N N':Nat}{W:World}(hN:W.heap.size<=N')(t:Tr):(∀v,Zr M N W t v->Zr M N' W t v)/\(∀a o,YM M N W t a o->YM M N' W t a o):=by
 induction t with
 |nil=>exact ZTQ
 |cons x t ih1 ih2=>
  refine⟨fun v hv=>by simp[Zr]at hv,fun a o hr=>?_⟩;rw[YM]at hr ⊢;obtain⟨⟨g,v,h1,h2,h3,h4,h5⟩,h6⟩:=hr;have hl:g<W.heap.size:=ZWW _ _ h4;exact⟨⟨g,v,h1,h2,U,h4,ih1.1 v h5⟩,ih2.2 a _ h6⟩
 |node f k i fr g w hh ik ii ifr ig iw ih=>
  refine⟨fun v hv=>?_,fun a o hr=>by simp[YM]at hr⟩;rw[X7]at hv ⊢;obtain⟨b,vk,vi,vf,vg,vw,vh,e,h1,h2,h3,⟨a1,c1,e1,r1⟩,⟨a2,c2,e2,r2⟩,⟨a3,c3,e3,r3⟩,⟨a4,c4,e4,r4⟩,p1,p2⟩:=hv;have hl:=(ZWU.1 h3).1;exact⟨b,vk,vi,vf,vg,vw,vh,e,h1,U,h3,⟨a1,c1,e1,ik.2 _ _ r1⟩,⟨a2,c2,e2,ii.2 _ _ r2⟩,⟨a3,c3,e3,ifr.2 _ _ r3⟩,⟨a4,c4,e4,ig.2 _ _ r4⟩,iw.1 _ p1,ih.1 _ p2⟩
theorem Zr.fresh{M N N':Nat}{W:World}{t:Tr}{v:Value}(h:Zr M N W t v)(hN:W.heap.size<=N'):Zr M N' W t v:=(ZvV hN t).1 v h
theorem Z8.fresh{M N N':Nat}{W:World}{t:Tr}{v:Value}(h:Z8 M N W t v)(hN:W.heap.size<=N'):Z8 M N' W t v:=by
 obtain⟨a,c,e,r⟩:=h;exact⟨a,c,e,(ZvV hN t).2 _ _ r⟩
structure Zff (J b:Nat) (s:Sc) (up:List Sc) (W:World) (nv tv uv:Value):Prop where
 bJ:b≠J
 names:XF (b:: [J]) W nv s.names
 tabs:Vz (b:: [J]) W tv s.tabs
 up:YJ up (b:: [J]) W uv
theorem Zff.same{J b:Nat}{s:Sc}{up:List Sc}{W W':World}{nv tv uv:Value}(h:Zff J b s up W nv tv uv)(hs:Same [b,J] W W'):Zff J b s up W' nv tv uv:=
 ⟨h.bJ,h.names.same hs (fun _ h=>h),h.tabs.same hs (fun _ h=>h),YJ.same hs _ _ _ (fun _ h=>h) h.up⟩
theorem Zff.sc{J b:Nat}{s:Sc}{up:List Sc}{W:World}{nv tv uv gv:Value}(h:Zff J b s up W nv tv uv)(ph:Za)(gs:List Za)(ho:W.heap[b]? =some (.cells #[nv,tv,uv,.string ⟨ph.toArray⟩,gv] 129 (0,0)))(hg:XF (b:: [J]) W gv gs):
  YJ ({s with phase:=ph,groups:=gs}::up) [J] W (.pointer (some ⟨b,0,none⟩)):=
 ⟨b,nv,tv,uv,gv,rfl,by simpa using h.bJ,ho,h.names,h.tabs,hg,h.up⟩
theorem SIn.base{J:Nat}{o:Option Addr}{s:Sc}{W W1:World}{nv tv:Value}{ts:List (Tb×Value×Value×Value)}{up:List Sc}(h:SIn J W.heap.size o s W W1 nv tv ts)(hJ:J<W.heap.size)(hB:Below W.heap.size W W1)(hu:YJ up [J] W (.pointer o)):Zff J W.heap.size s up W1 nv tv (.pointer o):=by
 have hwide:∀g,g∈W.heap.size:: [J]->g∈ [J]\/W.heap.size<=g:=fun g hg=>by
  rcases ZW3.1 hg with rfl|hg
  ·exact .inr (ZWS _)
  ·exact .inl hg
 have hS:Same [] W W1:=Same.of_below hB;refine⟨U,?_,?_,YJ.same hS _ _ _ ZPm (YJ.wide up [J] _ _ hwide hu)⟩
 ·have hc:=fun g=>h.ZaV.cells (g:=g);have hne:=own_ne h.ZaV h.obj ZPl;rcases h.ZaV.2 with⟨rfl,h0⟩|⟨g,cap,cur,rfl,hb,_⟩
  ·exact ZWn
  ·refine⟨some ⟨g,0,none⟩,cap,rfl,fun i hi=>⟨g,rfl,fun hx=>?_,?_⟩⟩
   ·rcases ZW3.1 hx with e|hx
    ·exact hne ZPP
    ·have:=ZXh.1 hx;omega
   ·have:=hc g rfl i (Zp s.names[i]) ZRj;exact ZWc
 ·have hc:=fun g=>h.UE.cells (g:=g);have hne:=own_ne h.UE h.obj ZPl;have hts:ts.length=s.tabs.length:=by rw[<-h.tabs,ZW5]
  rcases h.UE.2 with⟨rfl,h0⟩|⟨g,cap,cur,rfl,hb,_⟩
  ·exact ZWn
  ·have hgX:g∉W.heap.size:: [J]:=fun hx=>by
    rcases ZW3.1 hx with e|hx
    ·exact hne ZPP
    ·have:=ZXh.1 hx;omega
   refine⟨some ⟨g,0,none⟩,cap,rfl,fun i hi=>?_⟩;have hi':i<ts.length:=U
   have hti:ts[i].1=s.tabs[i]:=by
    have:=congrArg (·[i]?) h.tabs;simp[ZW1 hi,ZW1 hi']at this;exact this
   obtain⟨q1,q2,_⟩:=h.strs ts[i] (ZWX hi');have hcell:∀j,j<4->∀u, [.string ⟨ts[i].1.name.toArray⟩,ts[i].2.1,ts[i].2.2.1,ts[i].2.2.2][j]? =some u->W1.cell? ⟨g,i*4+j,none⟩=some u:=fun j hj u hu=>by
    have:=hc g rfl (i*4+j) u (by rw[ZwR ts i hi' j hj];exact hu);exact ZWc
   refine⟨g,ts[i].2.1,ts[i].2.2.1,rfl,hgX,?_,hcell 1 U _ rfl,hcell 2 U _ rfl,?_,?_,?_⟩
   ·rw[<-hti];exact hcell 0 U _ rfl
   ·obtain⟨a,n,c,e⟩:=h.rows ts[i] (ZWX hi');exact⟨a,n,c,ZSe⟩
   ·rw[<-hti];exact(q1.wide hwide).same hS ZPm
   ·rw[<-hti];exact(q2.wide hwide).same hS ZPm
theorem SIn.ok{J:Nat}{o:Option Addr}{s:Sc}{b:Nat}{W W1:World}{nv tv:Value}{ts:List (Tb×Value×Value×Value)}(h:SIn J b o s W W1 nv tv ts)(hl:s.names.length<=400):Ep s:=by
 refine⟨h.len,hl,by rw[h.YB];simp,fun t ht=>?_⟩;rw[<-h.tabs]at ht;obtain⟨r,hr,rfl⟩:=ZXj.1 ht;exact(h.strs r hr).2.2
end Go.Proofs.YthmlacabmlghbaaGreatDoor
