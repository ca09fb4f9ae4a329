import Derived.Test.YtncnkiabjhhclaaGreatDoorBgNv
set_option maxRecDepth 100000
set_option maxHeartbeats 8000000
set_option linter.all false
namespace Go.Proofs.YtncnkiabjhhclaaGreatDoor
open Go.Proofs.Tryz
variable{cu:Array Value}{bb:Bool}{room':Int}{ix:Ix}{yu:List (List (List wG))}{S X al:List Nat}{es:List PX}{xs:List Value}{fs:List xE}{B BO Bx bv m met n0 pb sz:Nat}{fr:Nat×Nat}{ty:TypeId}{av:Value}{A A' W W' W2 W4 w0 w1:World}{bg:xk}
def vH:=@Go.wp_region_held_drew
open Go.RowKit
def yC(rows:List (List wG)):List wG:=rows.flatMap λr=>match r with| [v]=> [v]|_=> []
def ZPD(rows:List (List wG))(k)(h:k<rows.length)(v)(hv:rows[k]= [v]):yC (rows.take (k+1))=yC (rows.take k)++ [v]:=by
 unfold yC;rw[o8 h,rQ,hv];rfl
def ZPC(rows:List (List wG))(k)(h:k<rows.length)(hv:rows[k].length≠1):yC (rows.take (k+1))=yC (rows.take k):=by
 unfold yC;rw[o8 h,rQ];match hr:rows[k]with
 | []=>simp
 | [v]=>rw[hr]at hv;simp at hv
 |u::v::r=>simp
theorem Zgh:∀rows,(yC rows).length<=rows.length
 | []=>nV _
 | []::rows=>Nat.le_succ_of_le (Zgh rows)
 | [v]::rows=>Nat.succ_le_succ (Zgh rows)
 |(u::v::r)::rows=>Nat.le_succ_of_le (Zgh rows)
def ZPQ{e n:Nat}{v:Value}(h:A.ownsRow B e sz v n xs)(hk:∀(g:Nat) ob,(∀r,ob≠Obj.loop r)->(∀d,ob≠Obj.deferred d)->A.heap[g]? =some ob->A'.heap[g]? =some ob):A'.ownsRow B e sz v n xs:=
 ⟨h.1,h.2.imp id λ⟨g,cap,cur,h1,h2,h3,h4⟩=>⟨g,cap,cur,h1,h2,hk _ _ (λ_ e=>nomatch e) (λ_ e=>nomatch e) h3,h4⟩⟩
def Py{w:World}{n e g:Nat}{v:Value}(h:w.ownsRow n e sz v m xs)(he:e≠ty)(ho:w.heap[g]? =some (.cells cu ty fr)):some g≠v.ownBlock:=by
 rcases h.2 with⟨rfl,_⟩|⟨g',cap,cur,rfl,_,h3,_⟩
 ·exact jw
 ·intro e;have:g=g':=by simpa[Value.ownBlock]using e
  subst this;rw[ho]at h3;cases h3;exact he rfl
def ZOk{P:Program}{fn:Func}{tmps:Array Value}{R:Ending->World->Prop}{D:Nat}{w:World}{v:Value}(hD:w.heap[D]? =some (.deferred (some [])))(xz:(results fn tmps).run P (w.putObj D (.deferred none))= .ok v (w.putObj D (.deferred none)))(hR:R (.returned v) (w.putObj D (.deferred none))):
 bodyPostM Fence.wide 0 P fn R .ret {tmps:=tmps,defers:= [{target:=.collected D,args:=#[]}]} w:=Zaq hD xz hR
def ZcV{w:World}{e n:Nat}{v:Value}(h:w.ownsRow B e sz v n xs){g:Nat}(hg:g<B):some g≠v.ownBlock:=by
 rcases h.2 with⟨rfl,_⟩|⟨g',cap,cur,rfl,h2,_⟩
 ·exact jw
 ·intro e;have:g=g':=by simpa[Value.ownBlock]using e
  omega
def Ii{w:World}{b k:Nat}{u:Value}{t:TypeId}(h:w.heap[b]? =some (.cells cu t)):(w.setCell ⟨b,k,none⟩ u).heap[b]? =some (.cells (cu.setIfInBounds k u) t):=by
 have hlt:=lt_of_block h;have h':w.heap[b]= .cells cu t:=by simpa[rz hlt]using h
 show(w.heap.modify b _)[b]? =_;rw[rz (by simpa using hlt),Array.getElem_modify_self,h'];rfl
structure Lb (w0:World) (BO Bx pb:Nat) (bb:Bool) (vs:List wG) (A:World):Prop where
 row:∃v,A.ownsRow w0.heap.size 80 1 v vs.length (vs.map xe)/\A.heap[BO]? =some (.cells #[.bool bb,v] 463)
 c:A.heap[Bx]? =some (.cells #[vU pb] 69)
 low:vV w0 A
def Lb.move{vs}(h:Lb w0 BO Bx pb bb vs A)(hB:Below w0.heap.size A A')(hk:∀(g:Nat) ob,(∀r,ob≠Obj.loop r)->(∀d,ob≠Obj.deferred d)->A.heap[g]? =some ob->A'.heap[g]? =some ob):Lb w0 BO Bx pb bb vs A':=by
 obtain⟨v,h1,h2⟩:=h.row;exact⟨⟨v,ZPQ h1 hk,hk _ _ (λ_ e=>nomatch e) (λ_ e=>nomatch e) h2⟩,hk _ _ (λ_ e=>nomatch e) (λ_ e=>nomatch e) h.c,h.low.trans hB⟩
def Lb.off{l}{vs}{r:Loop}(h:Lb w0 BO Bx pb bb vs A)(hO:FM l A A')(hl:w0.heap.size<=l)(hL:A.heap[l]? =some (.loop r)):Lb w0 BO Bx pb bb vs A':=
 h.move ⟨hO.os,hO.tape,hO.output,qp hO.size.symm,λg hg=>hO.block g Z⟩ (λg ob hn _ he=>(hO.block g (λe=>iA)).trans he)
def Lb.below{vs}(h:Lb w0 BO Bx pb bb vs A)(hB:vV A A'):Lb w0 BO Bx pb bb vs A':=
 h.move (hB.mono h.low.size) (λg ob _ _ he=>xq hB he)
def Lb.more{A2 A3}{w6:World}{vs}{va:Option Addr}{vc g6 c6:Nat}{x}(h:Lb w0 BO Bx pb bb vs A2)(wD:A2.ownsRow w0.heap.size 80 1 (.slice va vs.length vc) vs.length (vs.map xe))(hO:A2.heap[BO]? =some (.cells #[.bool bb,.slice va vs.length vc] 463))(yx:vV A2 A3)(hg:A3.grownBy w6 (Value.slice va vs.length vc).ownBlock)(h6:w6.ownsRow w0.heap.size 80 1 (.slice (some ⟨g6,0,none⟩) (vs.length+1) c6) (vs.length+1) (vs.map xe++ [xe x]))(hBO:w0.heap.size<=BO):
  w6.heap[BO]? =some (.cells #[.bool bb,.slice va vs.length vc] 463)/\Lb w0 BO Bx pb bb (vs++ [x]) (w6.setCell ⟨BO,1,none⟩ (.slice (some ⟨g6,0,none⟩) (vs.length+1) c6))/\(∀(g:Nat) ob,(∀cu ty fr,ob≠.cells cu ty fr)->A2.heap[g]? =some ob->(w6.setCell ⟨BO,1,none⟩ (.slice (some ⟨g6,0,none⟩) (vs.length+1) c6)).heap[g]? =some ob)/\(∀g ob,g<w0.heap.size->A2.heap[g]? =some ob->w6.heap[g]? =some ob):=by
 have hs:=h.low.size;have yI:∀(g:Nat) ob,A2.heap[g]? =some ob->some g≠(Value.slice va vs.length vc).ownBlock->w6.heap[g]? =some ob:=λg ob he wF=>by
  have hl:=(wo he);exact(hg.block g (oU hl yx.size) wF).trans ((yx.block g hl).trans he)
 have e1:=yI _ _ hO (Py wD O hO);have hnc:∀(g:Nat) ob,(∀cu ty fr,ob≠.cells cu ty fr)->A2.heap[g]? =some ob->some g≠(Value.slice va vs.length vc).ownBlock:=λg ob hn he=>by
  rcases wD.2 with⟨e,_⟩|⟨g',cap,cur,e,_,h3,_⟩
  ·rw[e];exact jw
  ·rw[e];intro e';have:g=g':=by simpa[Value.ownBlock]using e'
   subst this;rw[he]at h3;cases h3;exact hn _ _ _ rfl
 have ZLb:=Py h6 O e1;refine⟨e1,⟨⟨.slice (some ⟨g6,0,none⟩) (vs.length+1) c6,?_,?_⟩,?_,?_⟩,?_,?_⟩
 ·simpa using Ia h6 ZLb
 ·exact(Ii e1).trans rfl
 ·have hc6:=yI _ _ h.c (Py wD O h.c);exact(uX _ _ _ _ (λe=>by simp only at e;subst e;rw[hc6]at e1;cases e1)).trans hc6
 ·refine Below.setCell ?_ hBO _;exact h.low.trans ⟨hg.os.trans yx.os,hg.tape.trans yx.tape,hg.output.trans yx.output,om yx.size hg.size,λg xL=>by
   exact(hg.block g (oU (oU xL hs) yx.size) (ZcV wD xL)).trans (yx.block g (oU xL hs))⟩
 ·intro g ob hn he;have e6:=yI g ob he (hnc g ob hn he);exact(uX _ _ _ _ (λe=>by simp only at e;subst e;rw[e6]at e1;cases e1;exact hn _ _ _ rfl)).trans e6
 ·intro g ob xL he;exact yI g ob he (ZcV wD xL)
def Z0c{p:Prop}(h:p:=by
 clear hK K;refine og (rs:= [6]) af ae (nZ rfl (λK hK=>?_) oh);refine wp_append_lies _ _ _ 78 rfl w0.heap.size 80 i0 .nilIface 1 16 underlying78 zB hz0 yo hz2 rfl O (.slice va (yC (bg.rows.take k)).length vc) (yC (bg.rows.take k)).length ((yC (bg.rows.take k)).map xe) rfl HOA.out ⟨A2.heap.size,0,none⟩ 1 1 [.iface ty u] rfl rfl Zru.out au Z aj Z hsA _ rfl ?_;intro g6 c6 w6 DN O7 _ _;obtain⟨z1,z2,z3,z4⟩:=Gt.out g6 c6 w6 DN O7;refine hK.out _ _ z4 (λwL=>?_);clear hK K;simp only[Act.put,pz,List.set_cons_zero,List.set_cons_succ];refine tk 7 ?_;refine og (rs:= [8]) af ae (nZ rfl (λK hK=>?_) oh);go_simp;refine hK.out _ _ z3.1 (λwL=>?_);clear hK K;refine oP af ?_ _;exact z3.2):p:=h
def ZOZ(W)(b)(bg)(h:CV W b bg)(hm:bg.rows.length<=1000)(A9:∀r∈bg.rows,r.length<=1000):
  Calls prog 445 #[vU b] W λe W'=>∃va vc,e= .returned (.agg #[.bool (!decide (bg.rows.length=0)),.slice va (yC bg.rows).length vc])/\xD W' (.slice va (yC bg.rows).length vc) (yC bg.rows)/\vV W W':=by
 obtain⟨i0,zB,hz0,yo,hz2⟩:=oM Tryz.U6;have Z5:∀(x:Bool) (w:World),(Op.unary .not (.bool x)).run prog w= .ok (.bool (!x)) w:=λ_ _=>rfl;have HE:=vR (ZsQ W b bg h);unfold vU at *;refine WE func445 rfl ?_;simp only[ntmps445,qf,List.length_cons,List.length_nil,Nat.reduceAdd,Nat.reduceSub,qg,Array.replicate_zero,qh,qj,List.nil_append,List.cons_append];obtain⟨w0,Bd⟩:∃w0,W.alloc (.cells #[.bool false,.slice none 0 0] 463)=w0:=⟨_,rfl⟩;have x8:vV W w0:=by rw[<-Bd];exact(nW _ _).alloc (nV _) _
 have JK:w0.heap.size=W.heap.size+1:=by rw[<-Bd];simp
 have k0:w0.heap[W.heap.size]? =some (.cells #[.bool false,.slice none 0 0] 463):=by rw[<-Bd];exact xI W _
 have HE0:=vR (ZsQ w0 b bg (h.below x8));unfold vU at HE0;refine Ag (AJ ?_);go_wp2;refine Ag (AJ ?_);go_wp2_with fail;refine HE0.out.mono ?_;rintro e w1 ⟨rfl,wE⟩;go_wp2_with fail;obtain⟨w2,DR⟩:∃w2,w1.alloc (Obj.cells #[Value.bool !decide (bg.rows= []),.slice none 0 0] 463)=w2:=⟨_,rfl⟩;rw[DR];have ZeH:vV w1 w2:=by rw[<-DR];exact(nW _ w1).alloc (nV _) _
 have Ay:w2.heap.size=w1.heap.size+1:=by rw[<-DR];simp
 have NA:w2.heap[w1.heap.size]? =some (.cells #[.bool !decide (bg.rows= []),.slice none 0 0] 463):=by rw[<-DR];exact oK _ _
 clear DR;have HA:=vR (ZhI w2 b);unfold vU at HA;refine Ag (Ag (AJ ?_));go_wp2_with fail;refine HA.out.mono ?_;rintro e w3 ⟨Bx,rfl,wH,NH,Zo6⟩;go_wp2_with fail;refine VM ?_;have En:=wE.size;have C8:=wH.size;have Xt:=wE.trans ((ZeH.trans (wH.mono ZeH.size)).mono En);have hP3:Lb w0 w1.heap.size Bx b (!decide (bg.rows= [])) (yC (bg.rows.take 0)) w3:=⟨⟨.slice none 0 0,⟨rfl,.inl ⟨rfl,rfl⟩⟩,(wH.block _ Z).trans NA⟩,NH,Xt⟩;obtain⟨pxl,rvl,tvl,Jd⟩:=(h.below x8).fix;clear Bd;refine ZkH Bx b pxl rvl tvl bg (λk A=>Lb w0 w1.heap.size Bx b (!decide (bg.rows= [])) (yC (bg.rows.take k)) A) (λ_ _=>False) func445 rfl rfl w0 Jd Z ?_ ?_ ?_ ?_ ?_ (λ_ _ h=>h.elim)
 ·exact lH
 ·intro k A hp;exact⟨eB,hp.low⟩
 ·exact jr
 ·rintro k A rb A2 Ih hk BP hp hv ⟨r0,Gd⟩ xK hL hD;have zQ:w0.heap.size<=w3.heap.size+1:=by omega
  have yY:=hp.off xK zQ Gd;have HP:=vR yY;have LQ:=A9 _ (oC hk);obtain⟨qa,qc,rfl,_⟩:=id hv;have HV:=vR hv;have HL:=vR hL;have HD:=vR hD;clear hv hp yY xK Gd hL hD;refine Ie rfl aA ?_;go_wp2;refine⟨trivial,?_⟩;refine qX ?_;refine qA ?_;refine Ie rfl aA ?_;by_cases hc:bg.rows[k].length=1
  ·have UK:(((bg.rows[k].length:Nat):Int)==1)=true:=by simp[hc]
   have HC:=vR hc;clear hc;go_wp2_with fail;refine wpIn_cond_true rfl ?_;obtain⟨x,hx⟩:=List.length_eq_one_iff.1 HC.out;have HX:=vR hx;have ZKa:∃g o,qa=some ⟨g,o,none⟩/\A2.cell? ⟨g,o,none⟩=some (xe x)/\g<w0.heap.size:=by
    obtain⟨a',c',ee,_,_,hq⟩:=HV.out;cases ee;obtain⟨g,o,cu,e1,hg,e2⟩:=hq 0 (by have:=HC.out;omega);have xL:=(wo hg);refine⟨g,o,e1,?_,xL⟩;have e3:=wT HP.out.low xL e2;simpa[hx]using e3
   obtain⟨g,o,rfl,hgc,ZKC⟩:=ZKa;obtain⟨v,wD,hO⟩:=HP.out.row;obtain⟨va,vc,rfl⟩:=yN wD;have Le:=vR wD;have q1:=zS hO;have Em:=HC.out;rw[Em];obtain⟨ty,u,hxv⟩:∃ty u,xe x= .iface ty u:=by cases x<;>exact⟨_,_,rfl⟩
   have HXV:=vR hxv;rw[hxv]at hgc;clear hxv hx;have yx:vV A2 ((A2.alloc (.cells #[.iface ty u] 80)).drew):=by
    have h6:=(nW A2.heap.size A2).alloc (nV _) (.cells #[.iface ty u] 80);exact jP
   have MF:((A2.alloc (.cells #[.iface ty u] 80)).drew).heap[A2.heap.size]? =some (.cells #[.iface ty u] 80):=xI A2 _;have Zoa:=Ga hgc yx;have q13:=Ga q1 yx;have HOA:=vR (show((A2.alloc (.cells #[.iface ty u] 80)).drew).ownsRow w0.heap.size 80 1 (.slice va (yC (bg.rows.take k)).length vc) (yC (bg.rows.take k)).length ((yC (bg.rows.take k)).map xe) from zC wD yx);have Zru:=vR (show ∀j v, [Value.iface ty u][j]? =some v->((A2.alloc (.cells #[.iface ty u] 80)).drew).cell? ((⟨A2.heap.size,0,none⟩:Addr).add j)=some v from ZcT A2 (.iface ty u) 80 A2.heap.size rfl);have hsA:=om HP.out.low.size yx.size;have hol:(yC (bg.rows.take k)).length<=1000:=by
    have:=Zgh (bg.rows.take k);have:(bg.rows.take k).length<=bg.rows.length:=by simp;omega
    omega
   have xL:=ZKC;have Gt:=vR (fun(g6 c6:Nat) (w6:World) (DN:w6.ownsRow w0.heap.size 80 1 (.slice (some ⟨g6,0,none⟩) ((yC (bg.rows.take k)).length+1) c6) ((yC (bg.rows.take k)).length+1) ((yC (bg.rows.take k)).map xe++ [.iface ty u])) (O7:((A2.alloc (.cells #[.iface ty u] 80)).drew).grownBy w6 (Value.slice va (yC (bg.rows.take k)).length vc).ownBlock)=>by
    rw[<-HXV.out]at DN;have hm:=HP.out.more (x:=x) wD hO yx O7 DN Z;have Ea:=(O7.cell_far ⟨g,o,none⟩ (oU xL hsA) (ZcV wD xL)).trans Zoa;exact(show w6.cell? ⟨w1.heap.size,1,none⟩=some (.slice va (yC (bg.rows.take k)).length vc)/\w6.frozen? ⟨w1.heap.size,1,none⟩=false/\((w6.setCell ⟨w1.heap.size,1,none⟩ (.slice (some ⟨g6,0,none⟩) ((yC (bg.rows.take k)).length+1) c6)).cell? ⟨g,o,none⟩=some (.iface ty u)/\(w6.setCell ⟨w1.heap.size,1,none⟩ (.slice (some ⟨g6,0,none⟩) ((yC (bg.rows.take k)).length+1) c6)).heap[w3.heap.size+1]? =some (.loop rb)/\(w6.setCell ⟨w1.heap.size,1,none⟩ (.slice (some ⟨g6,0,none⟩) ((yC (bg.rows.take k)).length+1) c6)).heap[w3.heap.size]? =some (.deferred (some []))/\∀A',FM (w3.heap.size+1) (w6.setCell ⟨w1.heap.size,1,none⟩ (.slice (some ⟨g6,0,none⟩) ((yC (bg.rows.take k)).length+1) c6)) A'->Lb w0 w1.heap.size Bx b (!decide (bg.rows= [])) (yC (bg.rows.take (k+1))) A')/\w6.cell? ⟨g,o,none⟩=some (.iface ty u) from by
     have hl7:=hm.2.2.1 _ (.loop rb) (λ_ _ _ e=>nomatch e) HL.out;refine⟨by simp[World.cell?,hm.1],by simp[World.frozen?,hm.1],⟨?_,hl7,hm.2.2.1 _ (.deferred (some [])) (λ_ _ _ e=>nomatch e) HD.out,λA' hO'=>?_⟩,Ea⟩
     ·exact(pK (uX _ _ _ _ (by show g≠w1.heap.size;omega))).trans Ea
     ·rw[ZPD bg.rows k hk x HX.out];exact hm.2.1.off hO' zQ hl7))
   refine XW (S:=λw'=>w'.cell? ⟨g,o,none⟩=some (.iface ty u)) af af aA (by exact hgc) (λwL=>?_);refine tk 0 ?_;refine tk 2 ?_;refine tk 3 ?_;refine tk 4 ?_;refine og (rs:= [1,5]) af ae (nZ rfl (λK hK=>?_) (nZ rfl (λK hK=>?_) oh));rotate_left
   ·go_simp;refine hK.out _ _ (by exact Zoa) (λwL=>?_);clear hK K;refine og (rs:= [1]) af ae (nZ rfl (λK hK=>?_) oh);go_simp;refine hK.out _ _ wL (λwL=>?_);exact Z0c
   ·go_simp;refine hK.out _ _ wL (λwL=>?_);clear hK K;refine og (rs:= [5]) af ae (nZ rfl (λK hK=>?_) oh);go_simp;refine hK.out _ _ (by exact Zoa) (λwL=>?_);exact Z0c
  ·have UK:(((bg.rows[k].length:Nat):Int)==1)=false:=by rw[pQ];omega
   have HC:=vR hc;clear hc;go_wp2_with fail;refine wpIn_cond_false rfl ?_;refine wpIn_skip ?_;refine⟨HL.out,HD.out,λA' hO=>?_⟩;rw[ZPC bg.rows k hk HC.out];exact HP.out.off hO zQ HL.out
 ·rintro A A2 hp ⟨r0,Gd⟩ xK hD;have zQ:w0.heap.size<=w3.heap.size+1:=by omega
  have yY:=hp.off xK zQ Gd;have HP:=vR yY;have HD:=vR hD;obtain⟨v,wD,hO⟩:=yY.row;obtain⟨va,vc,rfl⟩:=yN wD;have Le:=vR wD;have q0:=xH hO;have q1:=zS hO;have Bc:=(yY.low.block _ Z).trans k0;have f0:A2.frozen? ⟨W.heap.size,0,none⟩=false:=by simp[World.frozen?,Bc]
  have f1:A2.frozen? ⟨W.heap.size,1,none⟩=false:=by simp[World.frozen?,Bc]
  have c0:=xH Bc;have c1:=zS Bc;clear hp yY xK Gd hD wD;refine Ag (AJ ?_);go_wp2_with fail;refine AJ ?_;go_wp2;obtain⟨A3,za⟩:∃A3,((A2.setCell ⟨W.heap.size,0,none⟩ (.bool !decide (bg.rows= []))).setCell ⟨W.heap.size,1,none⟩ (.slice va (yC bg.rows).length vc))=A3:=⟨_,rfl⟩;rw[za];have Ew:A3.heap[w3.heap.size]? =some (.deferred (some [])):=by rw[<-za];exact(uX _ _ _ _ iE).trans ((uX _ _ _ _ iE).trans HD.out)
  have NM:A3.heap[W.heap.size]? =some (.cells #[.bool !decide (bg.rows= []),.slice va (yC bg.rows).length vc] 463):=by rw[<-za];exact(Ii (Ii Bc)).trans rfl
  have Kk:(A3.putObj w3.heap.size (.deferred none)).heap[W.heap.size]? =some (.cells #[.bool !decide (bg.rows= []),.slice va (yC bg.rows).length vc] 463):=(pF Z).trans NM;have wD:=Le.out;rw[tH]at wD;have Gi:A3.ownsRow w0.heap.size 80 1 (.slice va (yC bg.rows).length vc) (yC bg.rows).length ((yC bg.rows).map xe):=by
   rw[<-za];exact Ia (Ia wD (ZcV wD Z)) (ZcV (Ia (u:=.bool !decide (bg.rows= [])) (o:=0) wD (ZcV (g:=W.heap.size) wD Z)) Z)
  have QU:(A3.putObj w3.heap.size (.deferred none)).ownsRow w0.heap.size 80 1 (.slice va (yC bg.rows).length vc) (yC bg.rows).length ((yC bg.rows).map xe):=ownsRow_putObj Gi _ Ew rfl;have Xt:vV W A3:=by
   rw[<-za];exact((x8.trans (HP.out.low.mono Z)).setCell (nV _) _).setCell (nV _) _
  have c40:=xH Kk;have c41:=zS Kk;refine ZOk (v:=.agg #[.bool !decide (bg.rows= []),.slice va (yC bg.rows).length vc]) (D:=w3.heap.size) Ew ?_ ?_
  ·simp[results,Tryz.results445];generalize A3.putObj w3.heap.size (.deferred none)=A4 at c40 c41 ⊢;go_simp
  ·exact⟨va,vc,ae,ZpA QU,Xt.os,Xt.tape,Xt.output,by simpa[World.putObj]using Xt.size,λg hg=>(pF Z).trans (Xt.block g hg)⟩
def Zmn(em)(w)(W):(Instr.checkKey em 10000 354 (vU w)).run prog W= .ok () W:=by kernel_rfl
def ZHz(w)(W):(Op.equal 354 (vU w) (vU w)).run prog W= .ok true W:=by
 have hz:(sizeOf 459).run prog W= .ok 2 W:=af
 unfold vU;rw[Op.equal,show Op.maxDepth=9999+1 from rfl,Op.equalIn];simp only[pg,pU underlying354,Result.andThen_ok,hz];simp[sameAddr]
def Tryz.ZVz(w:World):(zeroValue 633).run prog w= .ok (.pointer none) w:=by kernel_rfl
def Z0d{p:Prop}(h:p:=by
 rw[Instr.findKey];simp only[pg,pU underlying354,Result.andThen_ok];rfl):p:=h
def ZUS{k c:Nat}{w}(hb:W.heap[k]? =some (.map #[] c)):(Instr.lookup 200 (.map (some k)) (vU w) true).run prog W= .ok (.tuple #[.pointer none,.bool false]) W:=by
 have Kg:(Instr.findKey 354 (vU w) []).run prog W= .ok none W:=by
  exact Z0d
 have Av:=Zmn true w W;rw[Instr.lookup];simp only[pg,pU underlying200,Result.andThen_ok,rA hb,Sem.run_pure];rw[show(#[]:Array MapEntry).isEmpty=true from rfl,Av];simp only[Result.andThen_ok,Kg,pg,Tryz.ZVz,Sem.run_pure,pX]
def ZBb{k c:Nat}{w}{e:MapEntry}{v:Value}(hb:W.heap[k]? =some (.map #[e] c))(hk:e.key=vU w)(hv:e.val=v):(Instr.lookup 200 (.map (some k)) (vU w) true).run prog W= .ok (.tuple #[v,.bool true]) W:=by
 have Kg:(Instr.findKey 354 (vU w) [e]).run prog W= .ok (some (0,v)) W:=by
  rw[Instr.findKey];simp only[pg,pU underlying354,Result.andThen_ok];have:∀d,Instr.findNow (.pointer d) (vU w) [e] 0=none:=λd=>by rw[Instr.findNow,hk];rfl
  rw[this];simp only[Instr.findAsking,pg,hk,ZHz,Result.andThen_ok,pX,hv,Sem.run_pure]
 have Av:=Zmn false w W;rw[Instr.lookup];simp only[pg,pU underlying200,Result.andThen_ok,rA hb,Sem.run_pure];rw[show(#[e]:Array MapEntry).isEmpty=false from rfl,Av];simp only[Result.andThen_ok,Kg,pg,Sem.run_pure,pX]
def ZUZ{k c:Nat}{w}(hb:W.heap[k]? =some (.map #[] c))(x):∃W',(Instr.mapUpdate 200 (.map (some k)) (vU w) x).run prog W= .ok () W'/\(∃e c',W'.heap[k]? =some (.map #[e] c')/\e.key=vU w/\e.val=x)/\Yh k W W':=by
 have Kg:(Instr.findKey 354 (vU w) []).run prog W= .ok none W:=by
  exact Z0d
 have Av:=Zmn false w W;have zi:=(wo hb);refine⟨XP W k (.map #[{key:=vU w,val:=x,born:=c}] (c+1)),?_,⟨_,_,ZpX zi _,rfl,rfl⟩,ZpY W k _⟩;rw[Instr.mapUpdate];simp only[pg,pU underlying200,Result.andThen_ok,rA hb,Av,Kg,MapKept.run_setObj_map _ hb];rfl
structure Lg (W:World) (r k w m x bv bs:Nat) (q room:Int) (ix:Ix) (al:List Nat) (av:Value) (B:Nat):Prop where
 run:W.heap[r]? =some (.cells (De 0 q (.map (some k)) room) 208)
 map:∃e c,W.heap[k]? =some (.map #[e] c)/\e.key=vU w/\e.val=vU m
 mem:W.heap[m]? =some (.cells #[vU x,av] 637)
 ix:Eu W x bv bs ix
 ne:bv≠bs
 kv:k≠bv
 ks:k≠bs
 vW:W.ownsRow B 628 1 av al.length (al.map vU)
def ZP0{r:Nat}{o:Obj}(h:Ox [r] W W')(h1:W.heap[r]? =some o)(h2:W'.heap[r]? =some o):vV W W':=
 ⟨h.os,h.tape,h.output,h.size,λg hg=>by
  by_cases e:g=r
  ·subst e;rw[h1,h2]
  ·exact h.block g hg bS⟩
def Eu.Zar{x bs}{r:Nat}(h:Eu W x bv bs ix)(hw:∀g ob,W.heap[g]? =some ob->g≠r->w1.heap[g]? =some ob)(h1:x≠r)(h2:bv≠r)(h3:bs≠r):Eu w1 x bv bs ix:=by
 obtain⟨e1,c1,a1,a2⟩:=h.wR;obtain⟨e2,c2,b1,b2⟩:=h.keys;exact⟨hw _ _ h.obj h1,⟨e1,c1,hw _ _ a1 h2,a2⟩,⟨e2,c2,hw _ _ b1 h3,b2⟩⟩
def ZcX{e n r:Nat}{v:Value}(h:W.ownsRow B e sz v n xs)(ho:Ox [r] W w1)(hr:W.heap[r]? =some (.cells cu ty fr))(he:e≠ty):w1.ownsRow B e sz v n xs:=
 ⟨h.1,h.2.imp id λ⟨g,cap,cur,h1,h2,h3,h4⟩=>⟨g,cap,cur,h1,h2,(ho.block g (wo h3) (λhm=>by have e:g=r:=bK;subst e;rw[hr]at h3;cases h3;exact he rfl)).trans h3,h4⟩⟩
def xD.Zge{r:Nat}{v}{vs}(h:xD W v vs)(ho:Ox [r] W w1)(hr:W.heap[r]? =some (.cells cu ty fr))(he:80≠ty):xD w1 v vs:=by
 obtain⟨a,c,h1,h2,h3,h4⟩:=h;refine⟨a,c,h1,h2,h3,λi hi=>?_⟩;obtain⟨g,o,BA,e1,hg,e2⟩:=h4 i hi;have hb:=ho.block g (wo hg) (λhm=>by have e:g=r:=bK;subst e;rw[hr]at hg;cases hg;exact he rfl);exact⟨g,o,BA,e1,hb.trans hg,(pK hb).trans e2⟩
def ZHN(W)(r k w m x bv bs)(q room)(ix)(al)(av)(B)(nv)(vs)(n)(h:Lg W r k w m x bv bs q room ix al av B)(hv:xD W nv vs)(hl:vs.length<=1000)(AA:ix.wR.length<=90000)(hn:ix.at_ vs=some n)(QO:n<al.length):
  Calls prog 443 #[vU r,vU w,nv] W λe W'=>e= .returned (vU al[n])/\vV W W':=by
 have hb:=h.run;have c0:W.cell? ⟨r,0,none⟩=some (.int .i32 0):=dF
 have f0:W.frozen? ⟨r,0,none⟩=false:=bz
 obtain⟨na,nc,rfl,_⟩:=id hv;have H:=vR h;have HV:=vR hv;clear h hv;unfold vU;go_enter_defers func443,ntmps443;go_wp2_with fail;refine(ZgZ ⟨r,0,none⟩ _ c0 f0).mono ?_;rintro e w' ⟨rfl,rfl⟩;have yz:=zD (k:=0) (u:=.int .i32 1) hb;have yG:=JO W r 0 (.int .i32 1);generalize W.setCell ⟨r,0,none⟩ (.int .i32 1)=w1 at *;have hw:=fun(g:Nat) (ob:Obj) (he:W.heap[g]? =some ob) (wF:g≠r)=>(yG.block g (wo he) bC).trans he;obtain⟨e0,ck,Fv,hek,AZ⟩:=H.out.map;have JG:k≠r:=λe=>by subst e;rw[hb]at Fv;cases Fv
 have Km:m≠r:=λe=>by subst e;have:=H.out.mem;rw[hb]at this;cases this
 have Dm:=hw _ _ H.out.mem Km;have GI:=ZBb (hw _ _ Fv JG) hek AZ;have Qr:=H.out.ix.Zar hw (λe=>dG)
  (λe=>dH) (λe=>dI)
 have Qt:=HV.out.Zge yG hb O;have HF:=vR (ZhJ w1 x bv bs ix _ vs Qr Qt hl Z);have CY:=ZcX H.out.vW yG hb O;have Le:=vR CY;obtain⟨va,vc,rfl⟩:=yN CY;have c2:w1.cell? ⟨r,2,none⟩=some (.map (some k)):=fZ
 have m0:w1.cell? ⟨m,0,none⟩=some (.pointer (some ⟨x,0,none⟩)):=gq
 have m1:=zS Dm;have HW:=vR hw;have Zhg:=vR Qr;have Et:=vR Qt;rw[hn]at HF;unfold vU at GI HF;clear hw CY Qr Qt Fv hek AZ Dm;go_wp2_with fail;refine HF.out.mono ?_;rintro e w2 ⟨rfl,wK⟩;have zI:=zC Le.out wK;obtain⟨g,cap,ee,hgB,xL⟩:=zI.form Z;cases ee;have hcn:w2.cell? ⟨g,n,none⟩=some (.pointer (some ⟨al[n],0,none⟩)):=by
  have:=zI.cells (g:=g) rfl n (vU al[n]) (by simp[QO]);have e:(⟨g,0,none⟩:Addr).add n=⟨g,n,none⟩:=by
   simp[Addr.add];intro e;rw[e]
  rw[e]at this;exact this
 have m12:=Ga m1 wK;have Jh:=QO;clear Le zI;go_wp2_with fail;have ZF:=(wo yz);have Af:=(wK.block r ZF).trans yz;refine qO (f:=297) (args:=#[.pointer (some ⟨r,0,none⟩)]) ae aR ?_;refine(Zg0 ⟨r,0,none⟩ .returning _ (by simp[World.cell?,Af,De]) (by simp[World.frozen?,Af])).mono ?_;rintro e u' GU ⟨rfl,rfl,rfl⟩;have z8:=zD (k:=0) (u:=.int .i32 0) Af;refine⟨vU al[n],gu,?_,?_⟩
 ·rfl
 ·exact ZP0 (o:=.cells (De 0 q (.map (some k)) room) 208) (yG.trans ((Ox.vZ wK).trans (JO _ _ _ _))) hb (z8.trans rfl)
def Uh:Array Value:=#[.int .u32 0,.int .i32 0,.int .u32 0,.bool false,.slice none 0 0,.int .i64 0]
def Zzc{w:World}{e n g:Nat}{v:Value}{ob:Obj}(h:w.ownsRow B e sz v n xs)(ho:w.heap[g]? =some ob)(hn:∀cu fr,ob≠.cells cu e fr):some g≠v.ownBlock:=by
 rcases h.2 with⟨rfl,_⟩|⟨g',cap,cur,rfl,_,h3,_⟩
 ·exact jw
 ·intro e;have:g=g':=by simpa[Value.ownBlock]using e
  subst this;rw[ho]at h3;cases h3;exact hn _ _ rfl
def Bb{w:World}{b k g:Nat}{u:Value}{ob:Obj}(h:w.heap[g]? =some ob)(wF:g≠b):(w.setCell ⟨b,k,none⟩ u).heap[g]? =some ob:=(uX w ⟨b,k,none⟩ u g wF).trans h
def zV{w:World}{g g':Nat}{o o':Obj}(h:w.heap[g]? =some o)(h':w.heap[g']? =some o')(hn:o≠o'):g≠g':=λe=>by subst e;rw[h]at h';exact hn (oN h')
def Tryz.ZxW:(prog.info? 628).map (λi=>(i.zero,i.size,i.bytes))=some (some (.pointer none),1,8):=by kernel_rfl
def ZHO(W)(r k w m x bv bs)(q room)(ix)(al)(av)(B)(nv)(vs)(h:Lg W r k w m x bv bs q room ix al av B)(hv:xD W nv vs)(hl:vs.length<=1000)(AA:ix.wR.length<=90000)(hn:ix.at_ vs=none)(LM:0<room)(Em:room<=200000)(Xj:al.length<=1000)(zl:ix.keys.length<=90000)(Ei:B<=W.heap.size):
  Calls prog 443 #[vU r,vU w,nv] W λe W'=>∃a Wt,e= .returned (vU a)/\W.heap.size<=a/\W'.heap[a]? =some (.cells Uh 631)/\Lg W' r k w m x bv bs q (room-(1+vs.length)) (ix.number vs) (al++ [a]) Wt B/\(∀g ob,W.heap[g]? =some ob->g≠r->g≠m->g≠bv->g≠bs->(B<=g->∀cu fr,ob≠.cells cu 628 fr)->W'.heap[g]? =some ob)/\W'.os=W.os/\W'.tape=W.tape/\W'.output=W.output:=by
 have hb:=h.run;have c0:W.cell? ⟨r,0,none⟩=some (.int .i32 0):=dF
 have f0:W.frozen? ⟨r,0,none⟩=false:=bz
 obtain⟨na,nc,rfl,_⟩:=id hv;have H:=vR h;have HV:=vR hv;clear h hv;unfold vU;go_enter_defers func443,ntmps443;go_wp2_with fail;refine(ZgZ ⟨r,0,none⟩ _ c0 f0).mono ?_;rintro e w' ⟨rfl,rfl⟩;have yz:=zD (k:=0) (u:=.int .i32 1) hb;have yG:=JO W r 0 (.int .i32 1);generalize W.setCell ⟨r,0,none⟩ (.int .i32 1)=w1 at *;have hw:=fun(g:Nat) (ob:Obj) (he:W.heap[g]? =some ob) (wF:g≠r)=>(yG.block g (wo he) bC).trans he;obtain⟨e0,ck,Fv,hek,AZ⟩:=H.out.map;have JG:k≠r:=λe=>by subst e;rw[hb]at Fv;cases Fv
 have Km:m≠r:=λe=>by subst e;have:=H.out.mem;rw[hb]at this;cases this
 have Dm:=hw _ _ H.out.mem Km;have GI:=ZBb (hw _ _ Fv JG) hek AZ;have Qr:=H.out.ix.Zar hw (λe=>dG)
  (λe=>dH) (λe=>dI)
 have Qt:=HV.out.Zge yG hb O;have HF:=vR (ZhJ w1 x bv bs ix _ vs Qr Qt hl Z);have CY:=ZcX H.out.vW yG hb O;have Le:=vR CY;obtain⟨va,vc,rfl⟩:=yN CY;have c2:w1.cell? ⟨r,2,none⟩=some (.map (some k)):=fZ
 have m0:w1.cell? ⟨m,0,none⟩=some (.pointer (some ⟨x,0,none⟩)):=gq
 have m1:=zS Dm;have HW:=vR hw;have Zhg:=vR Qr;have Et:=vR Qt;rw[hn]at HF;unfold vU at GI HF;clear hw CY Qr Qt Fv hek AZ Dm;go_wp2_with fail;refine HF.out.mono ?_;rintro e w2 ⟨rfl,wK⟩;have ZF:=(wo yz);have Af:=(wK.block r ZF).trans yz;have NQ:∀(g:Nat) (ob:Obj),W.heap[g]? =some ob->g≠r->w2.heap[g]? =some ob:=λg ob he wF=>by
  have:=HW.out g ob he wF;exact xq wK this
 obtain⟨w3,Da⟩:∃w3,w2.alloc (.cells #[.int .u32 0,.int .i32 0,.int .u32 0,.bool false,.slice none 0 0,.int .i64 0] 631)=w3:=⟨_,rfl⟩;have wH:vV w2 w3:=by rw[<-Da];exact(nW _ _).alloc (nV _) _
 have C8:w3.heap.size=w2.heap.size+1:=by rw[<-Da];simp
 have Ej:w3.heap[w2.heap.size]? =some (.cells Uh 631):=by rw[<-Da];exact xI w2 _
 have z8:=xq wH Af;have r3:w3.cell? ⟨r,3,none⟩=some (.int .i64 room):=by simp[World.cell?,z8,De]
 have z3:w3.frozen? ⟨r,3,none⟩=false:=by simp[World.frozen?,z8]
 obtain⟨w4,EL⟩:∃w4,w3.setCell ⟨r,3,none⟩ (.int .i64 (room-(1+(vs.length:Int))))=w4:=⟨_,rfl⟩;have GD:=zD (k:=3) (u:=.int .i64 (room-(1+(vs.length:Int)))) z8;have Iw:=JO w3 r 3 (.int .i64 (room-(1+(vs.length:Int))));rw[EL]at GD Iw;have Zd:=wK.trans (wH.mono wK.size);have NR:=(wH.block m (wo (NQ _ _ H.out.mem Km))).trans (NQ _ _ H.out.mem Km);have ZZ:=(Iw.block m (wo NR) (by simpa using Km)).trans NR;have m04:w4.cell? ⟨m,0,none⟩=some (.pointer (some ⟨x,0,none⟩)):=by simp[World.cell?,ZZ,vU]
 have hV4:=(Et.out.J7 Zd).Zge Iw z8 O;have Zl:=(Zhg.out.below Zd).Zar (r:=r) (λg ob he wF=>(Iw.block g (wo he) bC).trans he) (λe=>dG)
  (λe=>dH) (λe=>dI)
 have HN:=vR (Zeh w4 x bv bs ix _ vs Zl hV4 hl AA zl H.out.ne);unfold vU at HN;have Zk5:=vR Zl;have Yz:=vR ZZ;have Za8:=vR NQ;clear NQ Zl hV4 ZZ NR;have ZQ:decide (0<room)=true:=by simpa using LM
 go_wp2_with fail;refine HN.out.mono ?_;rintro e w5 ⟨rfl,ZeT,Iy⟩;have NV:=Zk5.out.maps;have MF:B<=(w5.alloc (.cells #[.pointer (some ⟨w2.heap.size,0,none⟩)] 628)).heap.size:=by
  exact lF
 have QM:=(Iy.block _ (wo Yz.out) (λhm=>NV _ hm _ _ _ Yz.out)).trans Yz.out;have m15:=zS QM;have z15:w5.frozen? ⟨m,1,none⟩=false:=by simp[World.frozen?,QM]
 have QU:=ZcX (zC Le.out Zd) Iw z8 O;have BF:=ZcY QU Iy NV;have DN:(w5.alloc (.cells #[.pointer (some ⟨w2.heap.size,0,none⟩)] 628)).ownsRow B 628 1 (.slice va al.length vc) al.length (al.map vU):=zC BF ((nW _ _).alloc (nV _) _);obtain⟨i0,zB,hz0,yo,hz2⟩:=oM Tryz.ZxW;have QN:(w5.alloc (.cells #[.pointer (some ⟨w2.heap.size,0,none⟩)] 628)).heap[m]? =some (.cells #[vU x,.slice va al.length vc] 637):=(((nW _ w5).alloc (nV _) _).block m (wo QM)).trans QM;have HE:=vR (fun(w7:World) (zh:(w5.alloc (.cells #[.pointer (some ⟨w2.heap.size,0,none⟩)] 628)).grownBy w7 (Value.slice va al.length vc).ownBlock)=>by
  have Ht:=(zh.block m (wo QN) (Py DN O QN)).trans QN;exact(show w7.heap[m]? =some (.cells #[vU x,.slice va al.length vc] 637)/\w7.cell? ⟨m,1,none⟩=some (.slice va al.length vc)/\w7.frozen? ⟨m,1,none⟩=false from ⟨Ht,by simp[World.cell?,Ht],by simp[World.frozen?,Ht]⟩))
 have YB:=vR DN;have P8:=vR Iw;have JZ:=vR Iy;have YI:=vR ZeT;clear Da EL QU BF DN QN Iw Iy ZeT QM;go_wp2_with (at_builtin;go_must (refine wpList_append_lies _ rfl _ _ 635 rfl B 628 i0 (.pointer none) 1 8 underlying635 zB hz0 yo hz2 rfl O (.slice va al.length vc) al.length (al.map vU) rfl YB.out ⟨w5.heap.size,0,none⟩ 1 1 [.pointer (some ⟨w2.heap.size,0,none⟩)] rfl rfl (ZcT w5 _ _ _ rfl) au Z aj Z MF _ rfl ?_);intro g7 c7 w7 Dv zh _ _;obtain⟨Ht,m17,z17⟩:=HE.out w7 zh);have Nw:∀(g:Nat) (ob:Obj),w5.heap[g]? =some ob->(B<=g->∀cu fr,ob≠.cells cu 628 fr)->w7.heap[g]? =some ob:=λg ob he hn=>by
  exact kZ
 have h45:=fun(g:Nat) (cu:Array Value) (ty:TypeId) (fr:Nat×Nat) (he:w4.heap[g]? =some (.cells cu ty fr))=>(JZ.out.block _ (wo he) (λhm=>NV _ hm _ _ _ he)).trans he;have ZiW:=(wo Af);have KS:=(P8.out.block _ (wo Ej) ah).trans Ej;have ha7:=Nw _ _ (h45 _ _ _ _ KS) (λ_ _ _ e=>ai);have GG:=Nw _ _ (h45 _ _ _ _ GD) (λ_ _ _ e=>ai);have hma:=zV ha7 Ht (λe=>ai);have Qw:w2.heap.size≠r:=Z
 have ZK7:=Km;obtain⟨w8,CO⟩:∃w8,w7.setCell ⟨m,1,none⟩ (.slice (some ⟨g7,0,none⟩) (al.length+1) c7)=w8:=⟨_,rfl⟩;have k8:∀(g:Nat) (ob:Obj),w7.heap[g]? =some ob->g≠m->w8.heap[g]? =some ob:=λg ob he wF=>by rw[<-CO];exact Bb he wF
 have NF:=k8 _ _ GG (λe=>Km e.symm);have hm8:w8.heap[m]? =some (.cells #[vU x,.slice (some ⟨g7,0,none⟩) (al.length+1) c7] 637):=by rw[<-CO];exact(Ii Ht).trans rfl
 have Ez:w8.ownsRow B 628 1 (.slice (some ⟨g7,0,none⟩) (al.length+1) c7) (al.length+1) (al.map vU++ [.pointer (some ⟨w2.heap.size,0,none⟩)]):=by rw[<-CO];exact Ia Dv (Py Dv O Ht)
 rw[CO];refine qO (f:=297) (args:=#[.pointer (some ⟨r,0,none⟩)]) ae aR ?_;refine(Zg0 ⟨r,0,none⟩ .returning _ (by simp[World.cell?,NF,De]) (by simp[World.frozen?,NF])).mono ?_;rintro e u' GU ⟨rfl,rfl,rfl⟩;have hx7:=Nw _ _ YI.out.obj (λ_ _ _ e=>ai);have hxr:=zV hx7 GG (λe=>ai);have hxm:=zV hx7 Ht (λe=>ai);obtain⟨ev,cv,v1,v2⟩:=YI.out.wR;obtain⟨es,cs,s1,s2⟩:=YI.out.keys;have v7:=Nw _ _ v1 (λ_ _ _ e=>ai);have s7:=Nw _ _ s1 (λ_ _ _ e=>ai);obtain⟨e0',c0',p1,p2,p3⟩:=H.out.map;have Zfu:∀(g:Nat) (ob:Obj),W.heap[g]? =some ob->g≠r->g≠m->g≠bv->g≠bs->(B<=g->∀cu fr,ob≠.cells cu 628 fr)->(w8.setCell ⟨r,0,none⟩ (.int .i32 0)).heap[g]? =some ob:=λg ob he q1 q2 q3 q4 q5=>by
  exact kY
 refine⟨vU w2.heap.size,gu,w2.heap.size,.slice (some ⟨g7,0,none⟩) (al.length+1) c7,rfl,?_,?_,⟨?_,?_,?_,⟨?_,?_,?_⟩,H.out.ne,H.out.kv,H.out.ks,?_⟩,Zfu,?_,?_,?_⟩
 ·have:=yG.size;have:=wK.size;omega
 ·exact Bb (k8 _ _ ha7 hma) Qw
 ·exact(Ii NF).trans rfl
 ·exact jL
 ·exact Bb hm8 Km
 ·exact Bb (k8 _ _ hx7 hxm) hxr
 ·exact jN
 ·exact jM
 ·have:=Ia (o:=0) (u:=.int .i32 0) Ez (Py Ez O NF);simpa[vU]using this
 ·show w8.os=W.os;rw[<-CO];exact zh.os.trans (JZ.out.os.trans (P8.out.os.trans (wH.os.trans (wK.os.trans yG.os))))
 ·show w8.tape=W.tape;rw[<-CO];exact zh.tape.trans (JZ.out.tape.trans (P8.out.tape.trans (wH.tape.trans (wK.tape.trans yG.tape))))
 ·show w8.output=W.output;rw[<-CO];exact zh.output.trans (JZ.out.output.trans (P8.out.output.trans (wH.output.trans (wK.output.trans yG.output))))
def ZEq(vs):({}:Ix).at_ vs=none:=by
 unfold Ix.at_;cases EB ({}:Ix).wR vs<;>rfl
def ZHM(W)(r k w)(q room)(nv)(vs)(hb:W.heap[r]? =some (.cells (De 0 q (.map (some k)) room) 208))(hk:∃c,W.heap[k]? =some (.map #[] c))(hv:xD W nv vs)(hl:vs.length<=1000)(LM:0<room)(Em:room<=200000):
  Calls prog 443 #[vU r,vU w,nv] W λe W'=>∃a Wt m x bv bs,e= .returned (vU a)/\W.heap.size<=a/\(W.heap.size<=m/\W.heap.size<=bv/\W.heap.size<=bs)/\W'.heap[a]? =some (.cells Uh 631)/\Lg W' r k w m x bv bs q (room-(1+vs.length)) (({}:Ix).number vs) [a] Wt W.heap.size/\(∀g ob,W.heap[g]? =some ob->g≠r->g≠k->W'.heap[g]? =some ob)/\W'.os=W.os/\W'.tape=W.tape/\W'.output=W.output:=by
 have c0:W.cell? ⟨r,0,none⟩=some (.int .i32 0):=dF
 have f0:W.frozen? ⟨r,0,none⟩=false:=bz
 obtain⟨na,nc,rfl,_⟩:=id hv;obtain⟨ck,Fv⟩:=hk;have HV:=vR hv;clear hv;have JG:k≠r:=λe=>by subst e;rw[hb]at Fv;cases Fv
 unfold vU;go_enter_defers func443,ntmps443;go_wp2_with fail;refine(ZgZ ⟨r,0,none⟩ _ c0 f0).mono ?_;rintro e w' ⟨rfl,rfl⟩;have AP:=zD (k:=0) (u:=.int .i32 1) hb;have Fw:=JO W r 0 (.int .i32 1);generalize W.setCell ⟨r,0,none⟩ (.int .i32 1)=wA at *;have hmA:=(Fw.block k (wo Fv) (by simpa using JG)).trans Fv;have GI:=ZUS (w:=w) hmA;have c2:wA.cell? ⟨r,2,none⟩=some (.map (some k)):=by simp[World.cell?,AP,De]
 have HN0:=vR (Zl2 wA);unfold vU at GI HN0;have HMA:=vR hmA;clear hmA Fv;go_wp2_with fail;refine HN0.out.mono ?_;rintro e wB ⟨x,bv,bs,rfl,hIB,Ei,hx,hbv,UI,wF⟩;have HIB:=vR hIB;obtain⟨wC,hwC⟩:∃wC,wB.alloc (.cells #[.pointer (some ⟨x,0,none⟩),.slice none 0 0] 637)=wC:=⟨_,rfl⟩;have WW:vV wB wC:=by rw[<-hwC];exact(nW _ _).alloc (nV _) _
 have hmC:wC.heap[wB.heap.size]? =some (.cells #[vU x,.slice none 0 0] 637):=by rw[<-hwC];exact xI wB _
 have ZbP:=Ei.trans (WW.mono Ei.size);have hbC:=xq ZbP AP;have MM:=xq ZbP HMA.out;have c2C:wC.cell? ⟨r,2,none⟩=some (.map (some k)):=by simp[World.cell?,hbC,De]
 obtain⟨w1,ZxE,hkD,Kc⟩:=ZUZ (w:=w) MM (.pointer (some ⟨wB.heap.size,0,none⟩));unfold vU at ZxE;have HKD:=vR hkD;clear hIB MM hkD;have yz:=(Kc.block r (λe=>JG e.symm)).trans hbC;have hxB:=(wo HIB.out.obj);obtain⟨m,hwm⟩:∃m,wB.heap.size=m:=⟨_,rfl⟩;rw[hwm]at hmC HKD ZxE;have ZXm:=(wo HMA.out);have hsB:=Ei.size;have ZK4:m≠k:=Z
 have Zjj:=(Kc.block m ZK4).trans hmC;obtain⟨V,hV⟩:∃V,w1.setCell ⟨r,0,none⟩ (.int .i32 0)=V:=⟨_,rfl⟩;have hbV:V.heap[r]? =some (.cells (De 0 q (.map (some k)) room) 208):=by rw[<-hV];exact(Ii yz).trans rfl
 have QS:Ox [r] w1 V:=by rw[<-hV];exact JO _ _ _ _
 have hsV:V.heap.size=w1.heap.size:=by rw[<-hV];exact Bf _ _ _
 have yG:Ox [r] V w1:=⟨QS.os.symm,QS.tape.symm,QS.output.symm,qp hsV,λg h1 h2=>(QS.block g Z h2).symm⟩;have ZXx:=HIB.out.maps;have hxk:x≠k:=by have:=hx;omega
 have ZvX:bv≠k:=Z
 have ZvW:bs≠k:=Z
 have hrA:=(wo AP);have hIV:=((HIB.out.below WW).Zar (r:=k) (λg ob he wF=>(Kc.block g wF).trans he) hxk ZvX ZvW).Zar (r:=r) (λg ob he wF=>(QS.block g (wo he) bC).trans he) Z Z Z;have hsA:=Fw.size;have hsC:=WW.size;have hW1:∀(g:Nat) (ob:Obj),W.heap[g]? =some ob->g≠r->g≠k->V.heap[g]? =some ob:=λg ob he q1 q2=>by
  have e1:=(Fw.block g (wo he) eO).trans he;have e2:=xq ZbP e1;have e3:=(Kc.block g q2).trans e2;exact(QS.block g (wo e3) eO).trans e3
 have HWV:=vR (show W.heap.size<=V.heap.size/\V.os=W.os/\V.tape=W.tape/\V.output=W.output from ⟨by have:=Kc.size;omega,QS.os.trans (Kc.os.trans (ZbP.os.trans Fw.os)),QS.tape.trans (Kc.tape.trans (ZbP.tape.trans Fw.tape)),QS.output.trans (Kc.output.trans (ZbP.output.trans Fw.output))⟩);have hVV:xD V (.slice na vs.length nc) vs:=by
  obtain⟨a1,c1,h1,h2,h3,h4⟩:=HV.out;refine⟨a1,c1,h1,h2,h3,λi hi=>?_⟩;obtain⟨g,o,BA,e1,hg,e2⟩:=h4 i hi;have ML:=hW1 g _ hg (λe=>by subst e;rw[hb]at hg;cases hg) (λe=>by subst e;have:=HMA.out;have h':=(Fw.block g (wo hg) (by simpa using JG));rw[h',hg]at this;cases this);exact⟨g,o,BA,e1,ML,(pK (ML.trans hg.symm)).trans e2⟩
 have ZB6:=vR (fun(g:Nat) (ob:Obj) (he:W.heap[g]? =some ob) (q1:g≠r) (q2:g≠k)=>hW1 g ob he q1 q2);have HSZ:=vR (show W.heap.size<=m/\W.heap.size<=bv/\W.heap.size<=bs from ⟨Z,Z,Z⟩);obtain⟨ix,zH⟩:∃ix:Ix,ix={}:=⟨_,rfl⟩;obtain⟨al,ZiQ⟩:∃al:List Nat,al= []:=⟨_,rfl⟩;obtain⟨av,D8⟩:∃av:Value,av= .slice none 0 0:=⟨_,rfl⟩;have NS:V.heap[m]? =some (.cells #[vU x,av] 637):=by rw[D8];exact(QS.block m (wo Zjj) ah).trans Zjj
 have H:Hid (Lg V r k w m x bv bs q room ix al av W.heap.size):=by
  obtain⟨e9,c9,k9,k10,k11⟩:=HKD.out;show Lg _ _ _ _ _ _ _ _ _ _ _ _ _ _;exact⟨hbV,⟨e9,c9,(QS.block k (wo k9) (by simpa using JG)).trans k9,k10,k11⟩,NS,by rw[zH];exact hIV,wF,λe=>ZvX e.symm,λe=>ZvW e.symm,by rw[ZiQ,D8];exact⟨rfl,.inl ⟨rfl,rfl⟩⟩⟩
 have hn:ix.at_ vs=none:=by rw[zH];exact ZEq vs
 have AA:ix.wR.length<=90000:=by rw[zH];exact pI _
 have zl:ix.keys.length<=90000:=by rw[zH];exact pI _
 have Xj:al.length<=1000:=by rw[ZiQ];exact pI _
 have Zrj:=vR zH;have Zq0:=vR ZiQ;have HW0:=vR hb;have Gv:=vR hVV;clear zH ZiQ D8 NS hIV hVV hW1 Zjj hmC hbC hb HV Fw hV;have hb:=hbV;have HV:=Gv;have Ei:=HWV.out.1;have hw:=fun(g:Nat) (ob:Obj) (he:V.heap[g]? =some ob) (wF:g≠r)=>(yG.block g (wo he) bC).trans he;have Km:m≠r:=λe=>by subst e;have:=H.out.mem;rw[hb]at this;cases this
 have Dm:=hw _ _ H.out.mem Km;have Qr:=H.out.ix.Zar hw (λe=>dG)
  (λe=>dH) (λe=>dI)
 have Qt:=HV.out.Zge yG hb O;have HF:=vR (ZhJ w1 x bv bs ix _ vs Qr Qt hl Z);have CY:=ZcX H.out.vW yG hb O;have Le:=vR CY;obtain⟨va,vc,rfl⟩:=yN CY;have c2:w1.cell? ⟨r,2,none⟩=some (.map (some k)):=fZ
 have m0:w1.cell? ⟨m,0,none⟩=some (.pointer (some ⟨x,0,none⟩)):=gq
 have m1:=zS Dm;have HW:=vR hw;have Zhg:=vR Qr;have Et:=vR Qt;rw[hn]at HF;unfold vU at HF;clear hw CY Qr Qt Dm;go_wp2_with fail;refine HF.out.mono ?_;rintro e w2 ⟨rfl,wK⟩;have ZF:=(wo yz);have Af:=(wK.block r ZF).trans yz;have NQ:∀(g:Nat) (ob:Obj),V.heap[g]? =some ob->g≠r->w2.heap[g]? =some ob:=λg ob he wF=>by
  have:=HW.out g ob he wF;exact xq wK this
 obtain⟨w3,Da⟩:∃w3,w2.alloc (.cells #[.int .u32 0,.int .i32 0,.int .u32 0,.bool false,.slice none 0 0,.int .i64 0] 631)=w3:=⟨_,rfl⟩;have wH:vV w2 w3:=by rw[<-Da];exact(nW _ _).alloc (nV _) _
 have C8:w3.heap.size=w2.heap.size+1:=by rw[<-Da];simp
 have Ej:w3.heap[w2.heap.size]? =some (.cells Uh 631):=by rw[<-Da];exact xI w2 _
 have z8:=xq wH Af;have r3:w3.cell? ⟨r,3,none⟩=some (.int .i64 room):=by simp[World.cell?,z8,De]
 have z3:w3.frozen? ⟨r,3,none⟩=false:=by simp[World.frozen?,z8]
 obtain⟨w4,EL⟩:∃w4,w3.setCell ⟨r,3,none⟩ (.int .i64 (room-(1+(vs.length:Int))))=w4:=⟨_,rfl⟩;have GD:=zD (k:=3) (u:=.int .i64 (room-(1+(vs.length:Int)))) z8;have Iw:=JO w3 r 3 (.int .i64 (room-(1+(vs.length:Int))));rw[EL]at GD Iw;have Zd:=wK.trans (wH.mono wK.size);have NR:=(wH.block m (wo (NQ _ _ H.out.mem Km))).trans (NQ _ _ H.out.mem Km);have ZZ:=(Iw.block m (wo NR) (by simpa using Km)).trans NR;have m04:w4.cell? ⟨m,0,none⟩=some (.pointer (some ⟨x,0,none⟩)):=by simp[World.cell?,ZZ,vU]
 have hV4:=(Et.out.J7 Zd).Zge Iw z8 O;have Zl:=(Zhg.out.below Zd).Zar (r:=r) (λg ob he wF=>(Iw.block g (wo he) bC).trans he) (λe=>dG)
  (λe=>dH) (λe=>dI)
 have HN:=vR (Zeh w4 x bv bs ix _ vs Zl hV4 hl AA zl H.out.ne);unfold vU at HN;have Zk5:=vR Zl;have Yz:=vR ZZ;have Za8:=vR NQ;clear NQ Zl hV4 ZZ NR;have ZQ:decide (0<room)=true:=by simpa using LM
 go_wp2_with fail;refine HN.out.mono ?_;rintro e w5 ⟨rfl,ZeT,Iy⟩;have NV:=Zk5.out.maps;have MF:W.heap.size<=(w5.alloc (.cells #[.pointer (some ⟨w2.heap.size,0,none⟩)] 628)).heap.size:=by
  exact lF
 have QM:=(Iy.block _ (wo Yz.out) (λhm=>NV _ hm _ _ _ Yz.out)).trans Yz.out;have m15:=zS QM;have z15:w5.frozen? ⟨m,1,none⟩=false:=by simp[World.frozen?,QM]
 have QU:=ZcX (zC Le.out Zd) Iw z8 O;have BF:=ZcY QU Iy NV;have DN:(w5.alloc (.cells #[.pointer (some ⟨w2.heap.size,0,none⟩)] 628)).ownsRow W.heap.size 628 1 (.slice va al.length vc) al.length (al.map vU):=zC BF ((nW _ _).alloc (nV _) _);obtain⟨i0,zB,hz0,yo,hz2⟩:=oM Tryz.ZxW;have QN:(w5.alloc (.cells #[.pointer (some ⟨w2.heap.size,0,none⟩)] 628)).heap[m]? =some (.cells #[vU x,.slice va al.length vc] 637):=(((nW _ w5).alloc (nV _) _).block m (wo QM)).trans QM;have HE:=vR (fun(w7:World) (zh:(w5.alloc (.cells #[.pointer (some ⟨w2.heap.size,0,none⟩)] 628)).grownBy w7 (Value.slice va al.length vc).ownBlock)=>by
  have Ht:=(zh.block m (wo QN) (Py DN O QN)).trans QN;exact(show w7.heap[m]? =some (.cells #[vU x,.slice va al.length vc] 637)/\w7.cell? ⟨m,1,none⟩=some (.slice va al.length vc)/\w7.frozen? ⟨m,1,none⟩=false from ⟨Ht,by simp[World.cell?,Ht],by simp[World.frozen?,Ht]⟩))
 have YB:=vR DN;have P8:=vR Iw;have JZ:=vR Iy;have YI:=vR ZeT;clear Da EL QU BF DN QN Iw Iy ZeT QM;go_wp2_with (at_builtin;go_must (refine wpList_append_lies _ rfl _ _ 635 rfl W.heap.size 628 i0 (.pointer none) 1 8 underlying635 zB hz0 yo hz2 rfl O (.slice va al.length vc) al.length (al.map vU) rfl YB.out ⟨w5.heap.size,0,none⟩ 1 1 [.pointer (some ⟨w2.heap.size,0,none⟩)] rfl rfl (ZcT w5 _ _ _ rfl) au Z aj Z MF _ rfl ?_);intro g7 c7 w7 Dv zh _ _;obtain⟨Ht,m17,z17⟩:=HE.out w7 zh);have Nw:∀(g:Nat) (ob:Obj),w5.heap[g]? =some ob->(W.heap.size<=g->∀cu fr,ob≠.cells cu 628 fr)->w7.heap[g]? =some ob:=λg ob he hn=>by
  exact kZ
 have h45:=fun(g:Nat) (cu:Array Value) (ty:TypeId) (fr:Nat×Nat) (he:w4.heap[g]? =some (.cells cu ty fr))=>(JZ.out.block _ (wo he) (λhm=>NV _ hm _ _ _ he)).trans he;have ZiW:=(wo Af);have KS:=(P8.out.block _ (wo Ej) ah).trans Ej;have ha7:=Nw _ _ (h45 _ _ _ _ KS) (λ_ _ _ e=>ai);have GG:=Nw _ _ (h45 _ _ _ _ GD) (λ_ _ _ e=>ai);have hma:=zV ha7 Ht (λe=>ai);have Qw:w2.heap.size≠r:=Z
 have ZK7:=Km;obtain⟨w8,CO⟩:∃w8,w7.setCell ⟨m,1,none⟩ (.slice (some ⟨g7,0,none⟩) (al.length+1) c7)=w8:=⟨_,rfl⟩;have k8:∀(g:Nat) (ob:Obj),w7.heap[g]? =some ob->g≠m->w8.heap[g]? =some ob:=λg ob he wF=>by rw[<-CO];exact Bb he wF
 have NF:=k8 _ _ GG (λe=>Km e.symm);have hm8:w8.heap[m]? =some (.cells #[vU x,.slice (some ⟨g7,0,none⟩) (al.length+1) c7] 637):=by rw[<-CO];exact(Ii Ht).trans rfl
 have Ez:w8.ownsRow W.heap.size 628 1 (.slice (some ⟨g7,0,none⟩) (al.length+1) c7) (al.length+1) (al.map vU++ [.pointer (some ⟨w2.heap.size,0,none⟩)]):=by rw[<-CO];exact Ia Dv (Py Dv O Ht)
 rw[CO];refine qO (f:=297) (args:=#[.pointer (some ⟨r,0,none⟩)]) ae aR ?_;refine(Zg0 ⟨r,0,none⟩ .returning _ (by simp[World.cell?,NF,De]) (by simp[World.frozen?,NF])).mono ?_;rintro e u' GU ⟨rfl,rfl,rfl⟩;have hx7:=Nw _ _ YI.out.obj (λ_ _ _ e=>ai);have hxr:=zV hx7 GG (λe=>ai);have hxm:=zV hx7 Ht (λe=>ai);obtain⟨ev,cv,v1,v2⟩:=YI.out.wR;obtain⟨es,cs,s1,s2⟩:=YI.out.keys;have v7:=Nw _ _ v1 (λ_ _ _ e=>ai);have s7:=Nw _ _ s1 (λ_ _ _ e=>ai);obtain⟨e0',c0',p1,p2,p3⟩:=H.out.map;have Zfu:∀(g:Nat) (ob:Obj),V.heap[g]? =some ob->g≠r->g≠m->g≠bv->g≠bs->(W.heap.size<=g->∀cu fr,ob≠.cells cu 628 fr)->(w8.setCell ⟨r,0,none⟩ (.int .i32 0)).heap[g]? =some ob:=λg ob he q1 q2 q3 q4 q5=>by
  exact kY
 refine⟨vU w2.heap.size,gu,w2.heap.size,.slice (some ⟨g7,0,none⟩) (al.length+1) c7,m,x,bv,bs,rfl,?_,HSZ.out,?_,⟨?_,?_,?_,⟨?_,?_,?_⟩,H.out.ne,H.out.kv,H.out.ks,?_⟩,?_,?_,?_,?_⟩
 ·have:=yG.size;have:=wK.size;have:=HWV.out.1;omega
 ·exact Bb (k8 _ _ ha7 hma) Qw
 ·exact(Ii NF).trans rfl
 ·exact jL
 ·exact Bb hm8 Km
 ·exact Bb (k8 _ _ hx7 hxm) hxr
 ·rw[<-Zrj.out];exact jN
 ·rw[<-Zrj.out];exact jM
 ·have:=Ia (o:=0) (u:=.int .i32 0) Ez (Py Ez O NF);simp only[Zq0.out]at this;rw[Zq0.out];exact this
 ·intro g ob he q1 q2;have xL:=(wo he);exact Zfu g ob (ZB6.out g ob he q1 q2) q1 (by have:=HSZ.out.1;omega) (by have:=HSZ.out.2.1;omega) (by have:=HSZ.out.2.2;omega) (λh=>Z)
 ·show w8.os=W.os;rw[<-CO];exact zh.os.trans (JZ.out.os.trans (P8.out.os.trans (wH.os.trans (wK.os.trans (yG.os.trans HWV.out.2.1)))))
 ·show w8.tape=W.tape;rw[<-CO];exact zh.tape.trans (JZ.out.tape.trans (P8.out.tape.trans (wH.tape.trans (wK.tape.trans (yG.tape.trans HWV.out.2.2.1)))))
 ·show w8.output=W.output;rw[<-CO];exact zh.output.trans (JZ.out.output.trans (P8.out.output.trans (wH.output.trans (wK.output.trans (yG.output.trans HWV.out.2.2.2)))))
def FP(d l:Int)(b:Bool)(v:Value)(met:Nat):Array Value:=#[.int .u32 d,.int .i32 l,.int .u32 0,.bool b,v,.int .i64 met]
def ZDw(W)(R Wb Fb Ab r w a)(q room)(km fv qv nv)(S)(bg)(met:Nat)(T:Nat->World->Prop)(hR:W.heap[R]? =some (.cells #[vU r] 135))(hW:W.heap[Wb]? =some (.cells #[vU w] 354))(hF:W.heap[Fb]? =some (.cells #[fv] 209))(hA:W.heap[Ab]? =some (.cells #[vU a] 628))(hr:W.heap[r]? =some (.cells (De 0 q km room) 208))(hw:W.heap[w]? =some (.cells #[qv,nv] 459))(ha:W.heap[a]? =some (.cells (FP 0 1 false (.slice none 0 0) 0) 631))(hS:RJ W S)(h1: -900000<=room)(h2:room<=1000000)(hm:bg.rows.length<=1000)(A9:∀r∈bg.rows,r.length<=1000)(hQ:Calls prog 50 #[vU r,qv,fv] W.drew λe W1=>∃bb,e= .returned (.tuple #[vU bb,.int .i64 met])/\CV W1 bb bg/\Ox S W W1/\T bb W1):
  Calls prog 444 #[vU R,vU Wb,vU Fb,vU Ab] W λe W'=>e= .returned (.tuple #[])/\∃va vc bb W1,T bb W1/\Ox S W W1/\Ox [r,a] W1 W'/\W'.heap[a]? =some (.cells (FP 0 1 (!decide (bg.rows.length=0)) (.slice va (yC bg.rows).length vc) met) 631)/\xD W' (.slice va (yC bg.rows).length vc) (yC bg.rows)/\W'.heap[r]? =some (.cells (De 0 q km (room-((yC bg.rows).length:Nat))) 208):=by
 have cR:W.cell? ⟨R,0,none⟩=some (.pointer (some ⟨r,0,none⟩)):=by simp[World.cell?,hR,vU]
 have cW:W.cell? ⟨Wb,0,none⟩=some (.pointer (some ⟨w,0,none⟩)):=by simp[World.cell?,hW,vU]
 have cF:=xH hF;have cq:=xH hw;have HQ:=vR hQ;have HS:=vR hS;clear hQ hS;unfold vU at HQ ⊢;go_enter func444,ntmps444;go_wp2_with fail;refine vH (S:=λw'=>w'.cell? ⟨R,0,none⟩=some (.pointer (some ⟨r,0,none⟩))/\w'.cell? ⟨Wb,0,none⟩=some (.pointer (some ⟨w,0,none⟩))/\w'.cell? ⟨Fb,0,none⟩=some fv/\w'.cell? ⟨w,0,none⟩=some qv) af ⟨by exact cR,by exact cW,by exact cF,by exact cq⟩ (λwL=>?_);refine tk 0 ?_;refine tk 1 ?_;refine tk 2 ?_;refine tk 3 ?_;refine tk 4 ?_;refine tk 5 ?_;refine og (rs:= [6]) af ae (nZ rfl (λK hK=>?_) oh);go_simp;refine HQ.out.mono ?_;rintro e W1 ⟨bb,rfl,Lx,xu,hT⟩;have Z6:=fun(g:Nat) (cu:Array Value) (ty:TypeId) (EK:ty≠259) (he:W.heap[g]? =some (.cells cu ty))=>(xu.block g (wo he) (λhm=>by obtain⟨BA,h',_⟩:=HS.out g hm;rw[he]at h';cases h';exact EK rfl)).trans he;have Xc:=Z6 _ _ _ O hR;have hW1:=Z6 _ _ _ O hW;have yQ:=Z6 _ _ _ O hF;have N9:=Z6 _ _ _ O hw;have Ad:=Z6 _ _ _ O hA;have Em:=Z6 _ _ _ O hr;have Qu:=Z6 _ _ _ O ha;refine hK.out _ _ ⟨by simp[World.cell?,Xc,vU],by simp[World.cell?,hW1,vU],by simp[World.cell?,yQ],by simp[World.cell?,N9]⟩ (λwL=>?_);clear hK K;refine tk 7 ?_;refine tk 8 ?_;refine tk 9 ?_;refine tk 10 ?_;refine tk 11 ?_;refine oP af ?_ _;have HAS:=vR (ZOZ W1.drew bb bg (Lx.below ⟨rfl,rfl,rfl,nV _,λ_ _=>rfl⟩) hm A9);unfold vU at HAS;have cA1:W1.cell? ⟨Ab,0,none⟩=some (.pointer (some ⟨a,0,none⟩)):=by simp[World.cell?,Ad,vU]
 go_wp2_with fail;refine vH (S:=λw'=>w'.cell? ⟨Ab,0,none⟩=some (.pointer (some ⟨a,0,none⟩))) af (by exact cA1) (λwL=>?_);refine tk 0 ?_;refine tk 1 ?_;refine tk 2 ?_;refine tk 4 ?_;refine og (rs:= [3]) af ae (nZ rfl (λK hK=>?_) oh);go_simp;refine HAS.out.mono ?_;rintro e W2 ⟨va,vc,rfl,Ji,wK⟩;have ZbM:vV W1 W2:=⟨wK.os,wK.tape,wK.output,wK.size,wK.block⟩;have cA2:=Ga cA1 ZbM;have Qv:=xq ZbM Qu;have EA:=xq ZbM Em;have Zc:=xq ZbM Ad;have KQ:=xq ZbM Xc;have ZlB:=vR Ji;have hAa:=zV Zc Qv (λe=>ai);have Sy:=zV KQ Qv (λe=>ai);have U1:=zV EA Qv (λe=>ai);have c3:W2.cell? ⟨a,3,none⟩=some (.bool false):=by simp[World.cell?,Qv,FP]
 have c4:W2.cell? ⟨a,4,none⟩=some (.slice none 0 0):=by simp[World.cell?,Qv,FP]
 have z3:W2.frozen? ⟨a,3,none⟩=false:=by simp[World.frozen?,Qv]
 have z4:W2.frozen? ⟨a,4,none⟩=false:=by simp[World.frozen?,Qv]
 clear Ji;refine hK.out _ _ (by exact cA2) (λwL=>?_);clear hK K;refine tk 5 ?_;refine tk 6 ?_;refine og (rs:= [7]) af ae (nZ rfl (λK hK=>?_) oh);go_simp;have Ej:=Ii (k:=4) (u:=.slice va (yC bg.rows).length vc) (Ii (k:=3) (u:=.bool (!decide (bg.rows= []))) Qv);have hO3:Ox [r,a] W2 ((W2.setCell ⟨a,3,none⟩ (.bool (!decide (bg.rows= [])))).setCell ⟨a,4,none⟩ (.slice va (yC bg.rows).length vc)):=((JO _ _ _ _).trans (JO _ _ _ _)).mono ae;have NM:∀(g:Nat) (ob:Obj),W2.heap[g]? =some ob->g≠a->((W2.setCell ⟨a,3,none⟩ (.bool (!decide (bg.rows= [])))).setCell ⟨a,4,none⟩ (.slice va (yC bg.rows).length vc)).heap[g]? =some ob:=λg ob he wF=>Bb (Bb he wF) wF;generalize (W2.setCell ⟨a,3,none⟩ (.bool (!decide (bg.rows= [])))).setCell ⟨a,4,none⟩ (.slice va (yC bg.rows).length vc)=W3 at Ej hO3 NM ⊢;have za:=NM _ _ Zc hAa;have cA3:W3.cell? ⟨Ab,0,none⟩=some (.pointer (some ⟨a,0,none⟩)):=by simp[World.cell?,za,vU]
 have c5:W3.cell? ⟨a,5,none⟩=some (.int .i64 0):=by simp[World.cell?,Ej,FP]
 have z5:W3.frozen? ⟨a,5,none⟩=false:=gy
 refine hK.out _ _ (by exact cA3) (λwL=>?_);clear hK K;refine tk 8 ?_;refine tk 9 ?_;refine og (rs:= [10]) af ae (nZ rfl (λK hK=>?_) oh);go_simp;have KS:=Ii (k:=5) (u:=.int .i64 (met:Nat)) Ej;have Iw:=JO W3 a 5 (.int .i64 (met:Nat));have Sn:=Bb (b:=a) (k:=5) (u:=.int .i64 (met:Nat)) za hAa;have Kk:∀(g:Nat) (ob:Obj),W2.heap[g]? =some ob->g≠a->(W3.setCell ⟨a,5,none⟩ (.int .i64 (met:Nat))).heap[g]? =some ob:=λg ob he wF=>Bb (NM g ob he wF) wF;generalize W3.setCell ⟨a,5,none⟩ (.int .i64 (met:Nat))=W4 at KS Iw Sn Kk ⊢;have cA4:W4.cell? ⟨Ab,0,none⟩=some (.pointer (some ⟨a,0,none⟩)):=by simp[World.cell?,Sn,vU]
 refine hK.out _ _ (by exact cA4) (λwL=>?_);clear hK K;refine oP af ?_ _;have LP:=Kk _ _ EA U1;have hR4:=Kk _ _ KQ Sy;have cR4:W4.cell? ⟨R,0,none⟩=some (.pointer (some ⟨r,0,none⟩)):=by simp[World.cell?,hR4,vU]
 have c44:W4.cell? ⟨a,4,none⟩=some (.slice va (yC bg.rows).length vc):=by simp[World.cell?,KS,FP]
 have hol:=Zgh bg.rows;have HSP:=vR (ZO4 W4.drew r q room km (yC bg.rows).length (by exact LP) Z Z Z);unfold vU at HSP;go_wp2_with fail;refine vH (S:=λw'=>w'.cell? ⟨R,0,none⟩=some (.pointer (some ⟨r,0,none⟩))/\w'.cell? ⟨Ab,0,none⟩=some (.pointer (some ⟨a,0,none⟩))/\w'.cell? ⟨a,4,none⟩=some (.slice va (yC bg.rows).length vc)) af ⟨by exact cR4,by exact cA4,by exact c44⟩ (λwL=>?_);refine tk 0 ?_;refine tk 1 ?_;refine tk 2 ?_;refine tk 3 ?_;refine tk 4 ?_;refine tk 5 ?_;refine tk 6 ?_;refine og (rs:= [7]) af ae (nZ rfl (λK hK=>?_) oh);go_simp;refine HSP.out.mono ?_;rintro e W5 ⟨rfl,KX,Iy⟩;have LF:=fun(g:Nat) (ob:Obj) (he:W4.heap[g]? =some ob) (wF:g≠r)=>(Iy.block g (wo he) bC).trans he;have MJ:=LF _ _ hR4 (zV hR4 LP (λe=>ai));have hA5:=LF _ _ Sn (zV Sn LP (λe=>ai));have Xh:=LF _ _ KS (λe=>U1 e.symm);refine hK.out _ _ ⟨by simp[World.cell?,MJ,vU],by simp[World.cell?,hA5,vU],eP⟩ (λwL=>?_);clear hK K;refine oP af ?_ _;have ZJw:=hO3.trans ((Iw.mono ae).trans ⟨Iy.os,Iy.tape,Iy.output,Iy.size,λg h1 h2=>Iy.block g h1 (λhm=>h2 (by simp at hm;simp[hm]))⟩);have ZJv:=(Ox.vZ ZbM).trans ZJw;have ZMb:xD W5 (.slice va (yC bg.rows).length vc) (yC bg.rows):=by
  obtain⟨a1,c1,e1,e2,e3,e4⟩:=ZlB.out;refine⟨a1,c1,e1,e2,e3,λi hi=>?_⟩;obtain⟨g,o,BA,p1,hg,p2⟩:=e4 i hi;have hg5:=LF _ _ (Kk _ _ hg (zV hg Qv (λe=>ai))) (zV hg EA (λe=>ai));exact⟨g,o,BA,p1,hg5,(pK (hg5.trans hg.symm)).trans p2⟩
 go_end0;refine⟨rfl,va,vc,bb,W1,hT,xu,ZJv,?_,ZMb,KX⟩;rw[Xh];simp[FP]
def Zr8(W:World)(r)(w:Nat)(fb)(rn)(qv nv:Value)(es)(fs)(rs:List (wG×Nat))(some_)(wR:List wG)(met)(F:World->World->Nat->Prop)(R:World->Prop)(hw:W.heap[w]? =some (.cells #[qv,nv] 459))(hn:Gs W nv es)(hf:Ao W rn fs (vU fb))(he:CR (λe=>BM e fs) es=some rs)(Zi6:∀(W1:World) (v:Value),vV W W1->xD W1 v (rs.map (·.1))->Calls prog 443 #[vU r,vU w,v] W1 λe W2=>∃a,e= .returned (vU a)/\F W1 W2 a/\∀(g:Nat) (cu:Array Value) (ty:TypeId),ty∈ [135,354,209,463]->W1.heap[g]? =some (.cells cu ty)->W2.heap[g]? =some (.cells cu ty))(hdo:∀(W1 W2:World) (a:Nat) (W3:World) (bR bW bF bA bX:Nat),vV W W1->F W1 W2 a->vV W2 W3->W3.heap[bR]? =some (.cells #[vU r] 135)->W3.heap[bW]? =some (.cells #[vU w] 354)->W3.heap[bF]? =some (.cells #[vU fb] 209)->W3.heap[bA]? =some (.cells #[vU a] 628)->W2.heap.size<=bA->W3.heap[bX]? =some (.cells #[.bool false,.slice none 0 0] 463)->
   Calls prog 184 #[vU a,.func (.func 444) #[] #[vU bR,vU bW,vU bF,vU bA]] W3 λe W4=>e= .returned (.tuple #[])/\W4.heap[bA]? =some (.cells #[vU a] 628)/\W4.heap[bX]? =some (.cells #[.bool false,.slice none 0 0] 463)/\∃va vc,W4.heap[a]? =some (.cells (FP 1 0 some_ (.slice va wR.length vc) met) 631)/\xD W4 (.slice va wR.length vc) wR/\R W4/\KT (463::IQ) W W4)(Sy:∀a b,R a->vV a b->R b)(Sz:∀(a:World) (g k:Nat) (cu:Array Value) (u:Value),R a->W.heap.size<=g->a.heap[g]? =some (.cells cu 463)->R (a.setCell ⟨g,k,none⟩ u)):
  Calls prog 441 #[vU r,vU w,vU fb] W (Ow W some_ wR met R):=by
 have BD:∀(fn:Fn) (first cap:Array Value) (w:World),(Instr.makeFunc fn first cap).run prog w= .ok (.func fn first cap) w:=λ_ _ _ _=>rfl;have HN:=vR hn;have HF:=vR hf;have JY:=vR Zi6;have HDO:=vR hdo;clear Zi6 hdo hn hf;unfold vU Ow;go_enter func441,ntmps441;go_wp2_with fail;obtain⟨w0,Bd⟩:∃w0,((((W.alloc (.cells #[.pointer (some ⟨r,0,none⟩)] 135)).alloc (.cells #[.pointer (some ⟨w,0,none⟩)] 354)).alloc (.cells #[.pointer (some ⟨fb,0,none⟩)] 209)).alloc (.cells #[.bool false,.slice none 0 0] 463))=w0:=⟨_,rfl⟩;rw[Bd];have JK:w0.heap.size=W.heap.size+4:=by rw[<-Bd];simp
 have x8:vV W w0:=by
  rw[<-Bd];exact((((nW _ W).alloc (nV _) _).alloc ae _).alloc ah _).alloc ah _
 have k0:w0.heap[W.heap.size]? =some (.cells #[vU r] 135):=by rw[<-Bd];exact(ow _ _ _ aX).trans (OI W _ _ _).1
 have k1:w0.heap[W.heap.size+1]? =some (.cells #[vU w] 354):=by rw[<-Bd];exact(ow _ _ _ aX).trans (OI W _ _ _).2.1
 have k2:w0.heap[W.heap.size+1+1]? =some (.cells #[vU fb] 209):=by rw[<-Bd];exact(ow _ _ _ aX).trans (OI W _ _ _).2.2
 have k3:w0.heap[W.heap.size+1+1+1]? =some (.cells #[.bool false,.slice none 0 0] 463):=by rw[<-Bd,show W.heap.size+1+1+1=(((W.alloc (.cells #[.pointer (some ⟨r,0,none⟩)] 135)).alloc (.cells #[.pointer (some ⟨w,0,none⟩)] 354)).alloc (.cells #[.pointer (some ⟨fb,0,none⟩)] 209)).heap.size from ae];exact xI _ _
 clear Bd;have Xv:=(wo hw);have ZMi:=(x8.block w Xv).trans hw;have c1:w0.cell? ⟨W.heap.size+1,0,none⟩=some (.pointer (some ⟨w,0,none⟩)):=by simp[World.cell?,k1,vU]
 have c2:w0.cell? ⟨W.heap.size+1+1,0,none⟩=some (.pointer (some ⟨fb,0,none⟩)):=by simp[World.cell?,k2,vU]
 have cn:=zS ZMi;have NJ:∀(u:World),vV u u.drew:=λu=>⟨rfl,rfl,rfl,nV _,λ_ _=>rfl⟩;have Mh:=vR (ZpH w0.drew nv es (Gs.same (KT.vZ (NJ w0)) (Gs.same (KT.vZ x8) HN.out)));refine vH (S:=λw'=>w'.cell? ⟨W.heap.size+1,0,none⟩=some (.pointer (some ⟨w,0,none⟩))/\w'.cell? ⟨W.heap.size+1+1,0,none⟩=some (.pointer (some ⟨fb,0,none⟩))/\w'.cell? ⟨w,1,none⟩=some nv) af ⟨by exact c1,by exact c2,by exact cn⟩ (λwL=>?_);refine tk 0 ?_;refine tk 1 ?_;refine tk 2 ?_;refine tk 3 ?_;refine tk 5 ?_;refine og (rs:= [4]) af ae (nZ rfl (λK hK=>?_) oh);go_simp;refine Mh.out.mono ?_;rintro e w1 ⟨f,rfl,⟨fb',fv,rfl,QE,hfx⟩,wE⟩;have ZbL:=(NJ w0).trans wE;refine hK.out _ _ ⟨Ga c1 ZbL,Ga c2 ZbL,Ga cn ZbL⟩ (λwL=>?_);clear hK K;have HRR:=vR (ZzV rn w1 fb' fv es fs (vU fb) rs QE hfx (Ao.same (KT.vZ ZbL) (Ao.same (KT.vZ x8) HF.out)) he);unfold vU at HRR;refine og (rs:= [6]) af ae (nZ rfl (λK hK=>?_) oh);go_simp;refine HRR.out.mono ?_;rintro e w2 ⟨rv,rfl,Bt,wK⟩;have WU:=ZbL.trans (wK.mono ZbL.size);have c12:=Ga c1 WU;have k02:=xq WU k0;have c02:w2.cell? ⟨W.heap.size,0,none⟩=some (.pointer (some ⟨r,0,none⟩)):=by simp[World.cell?,k02,vU]
 refine hK.out _ _ ⟨c12,Ga c2 WU,Ga cn WU⟩ (λwL=>?_);clear hK K;refine tk 7 ?_;refine tk 8 ?_;refine tk 9 ?_;refine tk 10 ?_;refine tk 11 ?_;refine oP af ?_ _;have MC:=x8.trans (WU.mono x8.size);have HFN:=vR (JY.out w2 rv MC Bt);unfold vU at HFN;have Mg:=vR Bt;clear Bt HRR Mh;go_wp2_with fail;refine HFN.out.mono ?_;rintro e w3 ⟨a,rfl,Uz,hk⟩;have k12:=xq WU k1;have k22:=xq WU k2;have k32:=xq WU k3;have j0:=hk _ _ _ O k02;have j1:=hk _ _ _ O k12;have j2:=hk _ _ _ O k22;have j3:=hk _ _ _ O k32;obtain⟨w4,EL⟩:∃w4,w3.alloc (.cells #[.pointer (some ⟨a,0,none⟩)] 628)=w4:=⟨_,rfl⟩;have ZeI:vV w3 w4:=by rw[<-EL];exact(nW _ _).alloc (nV _) _
 have l0:=xq ZeI j0;have l1:=xq ZeI j1;have l2:=xq ZeI j2;have l3:=xq ZeI j3;have l4:w4.heap[w3.heap.size]? =some (.cells #[vU a] 628):=by rw[<-EL];exact xI _ _
 have ca4:w4.cell? ⟨w3.heap.size,0,none⟩=some (.pointer (some ⟨a,0,none⟩)):=by simp[World.cell?,l4,vU]
 have TH:=vR (HDO.out w2 w3 a w4 _ _ _ _ _ MC Uz ZeI l0 l1 l2 l4 (nV _) l3);unfold vU at TH;clear k0 k1 k2 k3 k02 k12 k22 k32 j0 j1 j2 j3 HFN hk;go_wp2_with fail;refine TH.out.mono ?_;rintro e w5 ⟨rfl,hA5,SB,va,vc,Xh,Ji,MJ,Zu8⟩;have ca5:w5.cell? ⟨w3.heap.size,0,none⟩=some (.pointer (some ⟨a,0,none⟩)):=by simp[World.cell?,hA5,vU]
 have e3:w5.cell? ⟨a,3,none⟩=some (.bool some_):=eP
 have e4:w5.cell? ⟨a,4,none⟩=some (.slice va wR.length vc):=eP
 have e5:w5.cell? ⟨a,5,none⟩=some (.int .i64 met):=eP
 have x0:=xH SB;have x1:=zS SB;have y0:w5.frozen? ⟨W.heap.size+1+1+1,0,none⟩=false:=by simp[World.frozen?,SB]
 have y1:w5.frozen? ⟨W.heap.size+1+1+1,1,none⟩=false:=by simp[World.frozen?,SB]
 have ZlB:=vR Ji;have Mf:=vR (oG MJ Zu8);clear Ji TH EL MJ Zu8;go_wp2_with fail;refine vH (S:=λw'=>w'.cell? ⟨w3.heap.size,0,none⟩=some (.pointer (some ⟨a,0,none⟩))/\w'.cell? ⟨a,3,none⟩=some (.bool some_)/\w'.cell? ⟨a,4,none⟩=some (.slice va wR.length vc)/\w'.cell? ⟨a,5,none⟩=some (.int .i64 met)) af ⟨by exact ca5,by exact e3,by exact e4,by exact e5⟩ (λwL=>?_);refine tk 0 ?_;refine tk 1 ?_;refine tk 2 ?_;refine tk 3 ?_;refine tk 4 ?_;refine tk 5 ?_;refine tk 6 ?_;refine tk 7 ?_;refine og (rs:= [8]) af ae (nZ rfl (λK hK=>?_) oh);go_simp;have hXa:=zV SB Xh (λe=>ai);have hXA:=zV SB hA5 (λe=>ai);have hX6:=Ii (k:=1) (u:=.slice va wR.length vc) (Ii (k:=0) (u:=.bool some_) SB);have QG:∀(g:Nat) (ob:Obj),w5.heap[g]? =some ob->g≠W.heap.size+1+1+1->((w5.setCell ⟨W.heap.size+1+1+1,0,none⟩ (.bool some_)).setCell ⟨W.heap.size+1+1+1,1,none⟩ (.slice va wR.length vc)).heap[g]? =some ob:=λg ob he wF=>Bb (Bb he wF) wF;have hR6:R ((w5.setCell ⟨W.heap.size+1+1+1,0,none⟩ (.bool some_)).setCell ⟨W.heap.size+1+1+1,1,none⟩ (.slice va wR.length vc)):=Sz _ _ _ _ _ (Sz _ _ _ _ _ Mf.out.1 Z SB) Z (Ii SB);have hR6:=Sy _ _ hR6 (NJ _);generalize hw6:(w5.setCell ⟨W.heap.size+1+1+1,0,none⟩ (.bool some_)).setCell ⟨W.heap.size+1+1+1,1,none⟩ (.slice va wR.length vc)=w6 at hX6 QG hR6 ⊢;have hA6:=QG _ _ hA5 (λe=>hXA e.symm);have ha6:=QG _ _ Xh (λe=>hXa e.symm);have HR6:=vR hR6;have ZvH:w6.drew.heap[W.heap.size+1+1+1]? =some (.cells #[.bool some_,.slice va wR.length vc] 463):=hX6.trans rfl;have ZIP:w6.drew.heap[w3.heap.size]? =_:=hA6;have ZnG:w6.drew.heap[a]? =_:=ha6;refine hK.out _ _ ⟨by simp[World.cell?,ZIP,vU],gz,gz,gz⟩ (λwL=>?_);clear hK K;refine tk 9 ?_;refine oP af ?_ _;have x06:=xH ZvH;have x16:=zS ZvH;have HF6:Hid (xD w6.drew (.slice va wR.length vc) wR/\R w6.drew/\KT (463::IQ) W w6.drew):=by
  refine⟨?_,HR6.out,λg cu ty EK he=>?_⟩
  ·obtain⟨a1,c1,p1,p2,p3,p4⟩:=ZlB.out;refine⟨a1,c1,p1,p2,p3,λi hi=>?_⟩;obtain⟨g,o,BA,q1,hg,q2⟩:=p4 i hi;have NL:w6.drew.heap[g]? =_:=QG _ _ hg (zV hg SB (λe=>ai));exact jO
  ·have xL:=(wo he);exact QG _ _ (Mf.out.2 g cu ty EK he) Z
 generalize w6.drew=w7 at *;clear hw6;go_wp2_with fail;refine uZ (v:=.tuple #[.agg #[.bool some_,.slice va wR.length vc],.int .i64 met]) ?_ rfl ?_
 ·simp[results,Tryz.results441];go_simp
 ·exact⟨va,vc,rfl,HF6⟩
structure Nk (W a:World):Prop where
 os:a.os=W.os
 tape:a.tape=W.tape
 output:a.output=W.output
 size:W.heap.size<=a.heap.size
 block:∀(g:Nat) (ob:Obj),W.heap[g]? =some ob->(∀cu fr,ob≠.cells cu 463 fr)->a.heap[g]? =some ob
def Nk.set{a}{g k:Nat}{u:Value}(h:Nk W a)(hg:a.heap[g]? =some (.cells cu 463)):Nk W (a.setCell ⟨g,k,none⟩ u):=
 ⟨h.os,h.tape,h.output,eQ,λg' ob he hn=>by
  have:=h.block g' ob he hn;exact Bb this (λe=>by subst e;rw[hg]at this;cases this;exact hn _ _ rfl)⟩
def Nk.vZ{a}(h:vV W a):Nk W a:=⟨h.os,h.tape,h.output,h.size,λg ob he _=>xq h he⟩
def Lg.wJ{a}{r k w x bs}{q room}(h:Lg W r k w m x bv bs q room ix al av B)(hk:Nk W a):Lg a r k w m x bv bs q room ix al av B:=by
 obtain⟨e,c,m1,m2,m3⟩:=h.map;obtain⟨ev,cv,v1,v2⟩:=h.ix.wR;obtain⟨es,cs,s1,s2⟩:=h.ix.keys;refine⟨hk.block _ _ h.run (λ_ _ e=>ai),⟨e,c,hk.block _ _ m1 (λ_ _ e=>ai),m2,m3⟩,hk.block _ _ h.mem (λ_ _ e=>ai),⟨hk.block _ _ h.ix.obj (λ_ _ e=>ai),⟨ev,cv,hk.block _ _ v1 (λ_ _ e=>ai),v2⟩,⟨es,cs,hk.block _ _ s1 (λ_ _ e=>ai),s2⟩⟩,h.ne,h.kv,h.ks,?_⟩;exact⟨h.vW.1,h.vW.2.imp id λ⟨g,cap,cur,h1,h2,h3,h4⟩=>⟨g,cap,cur,h1,h2,hk.block _ _ h3 (λ_ _ e=>ai),h4⟩⟩
def ZDx(W)(r k w fb m x bv bs)(q room)(ix)(al)(av)(B)(rn)(qv nv:Value)(es)(fs)(rs:List (wG×Nat))(n:Nat)(some_)(wR:List wG)(met)(va:Option Addr)(vc:Nat)(hM:Lg W r k w m x bv bs q room ix al av B)(hl:rs.length<=1000)(AA:ix.wR.length<=90000)(hn:ix.at_ (rs.map (·.1))=some n)(QO:n<al.length)(ha:W.heap[al[n]]? =some (.cells (FP 1 0 some_ (.slice va wR.length vc) met) 631))(Ji:xD W (.slice va wR.length vc) wR)(hw:W.heap[w]? =some (.cells #[qv,nv] 459))(hx:Gs W nv es)(hf:Ao W rn fs (vU fb))(he:CR (λe=>BM e fs) es=some rs):
  Calls prog 441 #[vU r,vU w,vU fb] W (Ow W some_ wR met (vV W)):=by
 refine Zr8 W r w fb rn qv nv es fs rs some_ wR met (λW1 W2 a=>a=al[n]/\vV W1 W2) (vV W) hw hx hf he ?_ ?_ (λa b h hB=>h.trans (hB.mono h.size)) (λa g k cu u h hl hg=>h.setCell (p:=⟨g,k,none⟩) hl u)
 ·intro W1 v hB hv;refine(ZHN W1 r k w m x bv bs q room ix al av B v _ n (hM.wJ (Nk.vZ hB)) hv dA AA hn QO).mono ?_;rintro e W2 ⟨rfl,wK⟩;exact⟨al[n],rfl,⟨rfl,wK⟩,λg cu ty _ e=>xq wK e⟩
 ·rintro W1 W2 a W3 bR bW bF bA bX wE ⟨rfl,wK⟩ wH hR hW hF hA UN hX;have hB:=wE.trans ((wK.trans (wH.mono wK.size)).mono wE.size);have Ej:=xq hB ha;refine(ZBi ⟨al[n],0,none⟩ _ W3 (by simp[World.cell?,Ej,FP])).mono ?_;rintro e W4 ⟨rfl,rfl⟩;exact⟨rfl,hA,hX,va,vc,Ej,Ji.J7 hB,hB,KT.vZ hB⟩
def Lo(n0:Nat)(W a:World):Prop:=∀(g:Nat) (ob:Obj),g<n0->W.heap[g]? =some ob->a.heap[g]? =some ob
structure DX (n0:Nat) (X:List Nat) (W a:World):Prop where
 os:a.os=W.os
 tape:a.tape=W.tape
 output:a.output=W.output
 size:W.heap.size<=a.heap.size
 block:∀(g:Nat) (ob:Obj),W.heap[g]? =some ob->g∉X->(n0<=g->∀cu fr,ob≠.cells cu 628 fr)->a.heap[g]? =some ob
def DX.vZ{a}(h:vV W a):DX n0 X W a:=⟨h.os,h.tape,h.output,h.size,λg ob he _ _=>xq h he⟩
def DX.lo{a}(h:DX n0 X W a)(hX:∀g∈X,n0<=g):Lo n0 W a:=λg ob hg e=>h.block g ob e (λhm=>by have:=hX g hm;omega) (λhl=>Z)
theorem DX.trans{a b c}(h:DX n0 X a b)(k:DX n0 X b c):DX n0 X a c:=⟨k.os.trans h.os,k.tape.trans h.tape,k.output.trans h.output,om h.size k.size,λg ob he h1 h2=>k.block g ob (h.block g ob he h1 h2) h1 h2⟩
def ZHe:yH 444:=λ_ _=>af
def Zsa(n0:Nat)(W:World)(r w:Nat)(fb)(X:List Nat)(S)(q)(room:Int)(km rn)(qv nv:Value)(es)(fs)(rs:List (wG×Nat))(bg:xk)(met:Nat)(Pm:World->Nat->Prop)(T:Nat->World->Prop)(R:World->Prop)(hw:W.heap[w]? =some (.cells #[qv,nv] 459))(hx:Gs W nv es)(hf:Ao W rn fs (vU fb))(he:CR (λe=>BM e fs) es=some rs)(hX:∀g∈X,∃ob,W.heap[g]? =some ob/\∀cu ty fr,ob= .cells cu ty fr->ty=208\/ty=637)(h1: -900000<=room)(h2:room<=1000000)(hm:bg.rows.length<=1000)(A9:∀r∈bg.rows,r.length<=1000)(Zi6:∀(W1:World) (v:Value),vV W W1->xD W1 v (rs.map (·.1))->Calls prog 443 #[vU r,vU w,v] W1 λe W2=>∃a,e= .returned (vU a)/\W1.heap.size<=a/\W2.heap[a]? =some (.cells Uh 631)/\DX n0 X W1 W2/\W2.heap[r]? =some (.cells (De 0 q km room) 208)/\Pm W2 a)(hS:∀W',DX n0 X W W'->RJ W' S)(hQ:∀W',DX n0 X W W'->Calls prog 50 #[vU r,qv,vU fb] W' λe W1=>∃bb,e= .returned (.tuple #[vU bb,.int .i64 met])/\CV W1 bb bg/\Ox S W' W1/\T bb W1)(hR:∀(W2 W1 W4:World) (a bb:Nat) (va:Option Addr) (vc:Nat),Pm W2 a->T bb W1->(∃cu,W1.heap[a]? =some (.cells cu 631))->(∃cu,W1.heap[r]? =some (.cells cu 208))->(∀(g:Nat) (ob:Obj),W2.heap[g]? =some ob->g∉S->g≠r->g≠a->W4.heap[g]? =some ob)->(∀(g:Nat) (ob:Obj),W1.heap[g]? =some ob->g≠r->g≠a->W4.heap[g]? =some ob)->W4.heap[a]? =some (.cells (FP 1 0 (!decide (bg.rows.length=0)) (.slice va (yC bg.rows).length vc) met) 631)->xD W4 (.slice va (yC bg.rows).length vc) (yC bg.rows)->W4.heap[r]? =some (.cells (De 0 q km (room-((yC bg.rows).length:Nat))) 208)->W4.os=W.os->W4.tape=W.tape->W4.output=W.output->R W4)(Sy:∀a b,R a->vV a b->R b)(Sz:∀(a:World) (g k:Nat) (cu:Array Value) (u:Value),R a->W.heap.size<=g->a.heap[g]? =some (.cells cu 463)->R (a.setCell ⟨g,k,none⟩ u)):
  Calls prog 441 #[vU r,vU w,vU fb] W (Ow W (!decide (bg.rows.length=0)) (yC bg.rows) met R):=by
 have hXn:∀(W1:World),vV W W1->∀(g:Nat) (cu:Array Value) (ty:TypeId),ty≠208->ty≠637->W1.heap[g]? =some (.cells cu ty)->g∉X:=λW1 hB g cu ty n1 n2 hg hm=>by
  obtain⟨ob,ho,ht⟩:=hX g hm;have:=xq hB ho;rw[hg]at this;have e:=oN this;rcases ht cu ty (0,0) e.symm with h|h
  ·exact n1 h
  ·exact n2 h
 refine Zr8 W r w fb rn qv nv es fs rs _ _ met (λW1 W2 a=>W1.heap.size<=a/\W2.heap[a]? =some (.cells Uh 631)/\DX n0 X W1 W2/\W2.heap[r]? =some (.cells (De 0 q km room) 208)/\Pm W2 a) R hw hx hf he ?_ ?_ Sy Sz
 ·intro W1 v hB hv;refine(Zi6 W1 v hB hv).mono ?_;rintro e W2 ⟨a,rfl,h1,h2,h3,h4,h5⟩;refine⟨a,rfl,⟨h1,h2,h3,h4,h5⟩,λg cu ty EK hg=>h3.block g _ hg (hXn W1 hB g cu ty ?_ ?_ hg) ?_⟩
  ·intro e;subst e;revert EK;decide
  ·intro e;subst e;revert EK;decide
  ·intro _ BA fr e;cases e;revert EK;decide
 ·rintro W1 W2 a W3 bR bW bF bA bX wE ⟨UN,Qv,wY,EA,hP⟩ wH hbR hbW hbF AP ZXg hbX;have xP:=(DX.vZ wE).trans (wY.trans (DX.vZ wH));have Ej:=xq wH Qv;have BR:=xq wH EA;have haW:W.heap.size<=a:=by have:=wE.size;omega
  have zt:DX n0 X W (W3.setCell ⟨a,1,none⟩ (.int .i32 1)):=⟨xP.os,xP.tape,xP.output,by rw[Bf];exact xP.size,λg ob hg p1 p2=>Bb (xP.block g ob hg p1 p2) (by have:=(wo hg);omega)⟩;have AO:DX n0 X W (W3.setCell ⟨a,1,none⟩ (.int .i32 1)).drew:=zt.trans (DX.vZ ⟨rfl,rfl,rfl,nV _,λ_ _=>rfl⟩);have KS:=(Ii (k:=1) (u:=.int .i32 1) Ej).trans (show _=some (Obj.cells (FP 0 1 false (.slice none 0 0) 0) 631) from rfl);have Kk:∀(g:Nat) (ob:Obj),W3.heap[g]? =some ob->g≠a->(W3.setCell ⟨a,1,none⟩ (.int .i32 1)).heap[g]? =some ob:=λg ob hg wF=>Bb hg wF;have hwW:=hXn W (nW _ _) w _ _ O O hw;have Da:=xP.block _ _ hw hwW (λ_ _ _ e=>ai);have zP:=ZDw (W3.setCell ⟨a,1,none⟩ (.int .i32 1)) bR bW bF bA r w a q room km (vU fb) qv nv S bg met T (Kk _ _ hbR (zV hbR Ej (λe=>ai))) (Kk _ _ hbW (zV hbW Ej (λe=>ai))) (Kk _ _ hbF (zV hbF Ej (λe=>ai))) (Kk _ _ AP (zV AP Ej (λe=>ai))) (Kk _ _ BR (zV BR Ej (λe=>ai))) (Kk _ _ Da (zV Da Ej (λe=>ai))) KS (hS _ zt) h1 h2 hm A9 ((hQ _ AO).mono (λe V ⟨bb,p1,p2,p3,p4⟩=>⟨bb,p1,p2,⟨p3.os,p3.tape,p3.output,p3.size,p3.block⟩,p4⟩));refine(ZBk a 0 444 _ W3 (λW'=>∃va vc bb W1,T bb W1/\Ox S (W3.setCell ⟨a,1,none⟩ (.int .i32 1)) W1/\Ox [r,a] W1 W'/\W'.heap[a]? =some (.cells (FP 0 1 (!decide (bg.rows.length=0)) (.slice va (yC bg.rows).length vc) met) 631)/\xD W' (.slice va (yC bg.rows).length vc) (yC bg.rows)/\W'.heap[r]? =some (.cells (De 0 q km (room-((yC bg.rows).length:Nat))) 208)) ⟨by simp[World.cell?,Ej,Uh],by simp[World.cell?,Ej,Uh],gy,gy⟩ ZHe (zP.mono ?_)).mono ?_
  ·rintro e W' ⟨rfl,va,vc,bb,V1,t1,t2,t3,t4,t5,t6⟩;exact⟨rfl,⟨by simp[World.cell?,t4,FP],by simp[World.cell?,t4,FP],by simp[World.frozen?,t4],by simp[World.frozen?,t4]⟩,va,vc,bb,V1,t1,t2,t3,t4,t5,t6⟩
  ·rintro e W4 ⟨rfl,U,_,⟨va,vc,bb,V1,t1,t2,t3,t4,t5,t6⟩,rfl⟩;have t4':U.drew.heap[a]? =_:=t4;have a4:=(Ii (k:=1) (u:=.int .i32 0) (Ii (k:=0) (u:=.int .u32 1) t4')).trans (show _=some (Obj.cells (FP 1 0 (!decide (bg.rows.length=0)) (.slice va (yC bg.rows).length vc) met) 631) from rfl);have kU:∀(g:Nat) (ob:Obj),U.heap[g]? =some ob->g≠a->((U.drew.setCell ⟨a,0,none⟩ (.int .u32 1)).setCell ⟨a,0+1,none⟩ (.int .i32 0)).heap[g]? =some ob:=λg ob hg wF=>Bb (Bb (show U.drew.heap[g]? =some ob from hg) wF) wF;have kV:=fun(g:Nat) (ob:Obj) (hg:V1.heap[g]? =some ob) (p1:g≠r) (p2:g≠a)=>(t3.block g (wo hg) (by simp;exact⟨p1,p2⟩)).trans hg;have k3:∀(g:Nat) (ob:Obj),W3.heap[g]? =some ob->g∉S->g≠r->g≠a->((U.drew.setCell ⟨a,0,none⟩ (.int .u32 1)).setCell ⟨a,0+1,none⟩ (.int .i32 0)).heap[g]? =some ob:=λg ob hg p0 p1 p2=>by
    have g4:=Kk g ob hg p2;exact kU g ob (kV g ob ((t2.block g (wo g4) p0).trans g4) p1 p2) p2
   have hSS:=hS _ zt;have nS:∀(g:Nat) (cu:Array Value) (ty:TypeId),W3.heap[g]? =some (.cells cu ty)->ty≠259->g≠a->g∉S:=λg cu ty hg EK wF NS=>by
    obtain⟨BA,h',_⟩:=hSS g NS;rw[Kk g _ hg wF]at h';cases h';exact EK rfl
   have aV:V1.heap[a]? =_:=(t2.block a (wo KS) (λNS=>by
    obtain⟨BA,h',_⟩:=hSS a NS;rw[KS]at h';cases h')).trans KS
   have nA:=zV AP Ej (λe=>ai);have nX:=zV hbX Ej (λe=>ai);have U1:=zV BR Ej (λe=>ai);have LP:=Kk _ _ BR U1;have rV:V1.heap[r]? =_:=(t2.block r (wo LP) (nS _ _ _ BR O U1)).trans LP;have v4:xD ((U.drew.setCell ⟨a,0,none⟩ (.int .u32 1)).setCell ⟨a,0+1,none⟩ (.int .i32 0)) (.slice va (yC bg.rows).length vc) (yC bg.rows):=by
    obtain⟨a1,c1,p1,p2,p3,p4⟩:=t5;refine⟨a1,c1,p1,p2,p3,λi hi=>?_⟩;obtain⟨g,o,BA,q1,hg,q2⟩:=p4 i hi;have NL:=kU _ _ hg (zV hg t4 (λe=>ai));exact jO
   refine⟨rfl,k3 _ _ AP (nS _ _ _ AP O nA) (zV AP BR (λe=>ai)) nA,k3 _ _ hbX (nS _ _ _ hbX O nX) (zV hbX BR (λe=>ai)) nX,va,vc,a4,v4,?_,?_⟩
   ·refine hR W2 V1 _ a bb va vc hP t1 ⟨_,aV⟩ ⟨_,rV⟩ (λg ob hg p0 p1 p2=>k3 g ob (xq wH hg) p0 p1 p2) (λg ob hg p1 p2=>kU g ob (kV g ob hg p1 p2) p2) a4 v4 (kU _ _ t6 U1) ?_ ?_ ?_
    ·show U.os=W.os;exact t3.os.trans (t2.os.trans zt.os)
    ·show U.tape=W.tape;exact t3.tape.trans (t2.tape.trans zt.tape)
    ·show U.output=W.output;exact t3.output.trans (t2.output.trans zt.output)
   ·intro g cu ty EK hg;have n0:ty≠208:=by intro e;subst e;revert EK;decide
    have n1:ty≠637:=by intro e;subst e;revert EK;decide
    have n2:ty≠259:=by intro e;subst e;revert EK;decide
    have n3:ty≠628:=by intro e;subst e;revert EK;decide
    have hg3:=xP.block _ _ hg (hXn W (nW _ _) g cu ty n0 n1 hg) (λ_ _ _ e=>by cases e;exact n3 rfl);have nga:g≠a:=by have:=(wo hg);omega
    exact k3 _ _ hg3 (nS _ _ _ hg3 n2 nga) (zV hg3 BR (λe=>by cases e;exact n0 rfl)) nga
abbrev F7:=Bool×List wG×Nat
def Tx(W:World)(a:Nat)(p:F7):Prop:=∃va vc,W.heap[a]? =some (.cells (FP 1 0 p.1 (.slice va p.2.1.length vc) p.2.2) 631)/\xD W (.slice va p.2.1.length vc) p.2.1
def xD.mv{a:World}{v}{vs}(h:xD W v vs)(hk:∀(g:Nat) cu,W.heap[g]? =some (.cells cu 80)->a.heap[g]? =some (.cells cu 80)):xD a v vs:=by
 obtain⟨a1,c1,p1,p2,p3,p4⟩:=h;refine⟨a1,c1,p1,p2,p3,λi hi=>?_⟩;obtain⟨g,o,BA,q1,hg,q2⟩:=p4 i hi;have NL:=hk _ _ hg;exact jO
theorem Tx.mv{b:World}{a}{p}(h:Tx W a p)(hk:∀(g:Nat) cu,W.heap[g]? =some (.cells cu 80)->b.heap[g]? =some (.cells cu 80))(ha:∀cu,W.heap[a]? =some (.cells cu 631)->b.heap[a]? =some (.cells cu 631)):Tx b a p:=by
 obtain⟨va,vc,h1,h2⟩:=h;exact⟨va,vc,ha _ h1,h2.mv hk⟩
def Qb(n0:Nat)(W:World)(r w:Nat)(room:Int)(ix:Ix)(l:List F7):Prop:=
 (∃k,(n0<=r/\n0<=k)/\ix={}/\l= []/\W.heap[r]? =some (.cells (De 0 0 (.map (some k)) room) 208)/\∃c,W.heap[k]? =some (.map #[] c))\/
 (∃k m x bv bs al av B,(n0<=r/\n0<=m/\n0<=bv/\n0<=bs/\n0<=B)/\Lg W r k w m x bv bs 0 room ix al av B/\B<=W.heap.size/\al.length=l.length/\∀i (h:i<al.length) (h':i<l.length),Tx W al[i] l[i])
theorem Qb.wJ{b}{r w}{room}{l}(h:Qb n0 W r w room ix l)(hk:Nk W b):Qb n0 b r w room ix l:=by
 rcases h with⟨k,Aw,h1,h2,h3,c,h4⟩|⟨k,m,x,bv,bs,al,av,B,Aw,h1,h2,h3,h4⟩
 ·exact .inl ⟨k,Aw,h1,h2,hk.block _ _ h3 (λ_ _ e=>ai),c,hk.block _ _ h4 (λ_ _ e=>ai)⟩
 ·exact .inr ⟨k,m,x,bv,bs,al,av,B,Aw,h1.wJ hk,om h2 hk.size,h3,λi p q=>(h4 i p q).mv (λg cu e=>hk.block _ _ e (λ_ _ e=>ai)) (λcu e=>hk.block _ _ e (λ_ _ e=>ai))⟩
def ZDy(n0)(W)(r w fb)(room)(ix)(l)(rn)(qv nv:Value)(es)(fs)(rs:List (wG×Nat))(n:Nat)(hM:Qb n0 W r w room ix l)(hl:rs.length<=1000)(AA:ix.wR.length<=90000)(hn:ix.at_ (rs.map (·.1))=some n)(QO:n<l.length)(hw:W.heap[w]? =some (.cells #[qv,nv] 459))(hx:Gs W nv es)(hf:Ao W rn fs (vU fb))(he:CR (λe=>BM e fs) es=some rs):
  Calls prog 441 #[vU r,vU w,vU fb] W (Ow W l[n].1 l[n].2.1 l[n].2.2 (vV W)):=by
 rcases hM with⟨k,_,h1,h2,_⟩|⟨k,m,x,bv,bs,al,av,B,_,h1,h2,h3,h4⟩
 ·subst h2;simp at QO
 ·obtain⟨va,vc,p1,p2⟩:=h4 n Z QO;exact ZDx W r k w fb m x bv bs 0 room ix al av B rn qv nv es fs rs n _ _ _ va vc h1 hl AA hn Z p1 p2 hw hx hf he
def Lg.ZOY{b:World}{r k w x bs}{a:Nat}{q room}(h:Lg W r k w m x bv bs q room ix al av B)(ha:W.heap[a]? =some (.cells cu 631))(hk:∀g ob,W.heap[g]? =some ob->(∀cu fr,ob≠.cells cu 259 fr)->g≠r->g≠a->b.heap[g]? =some ob)(hr:b.heap[r]? =some (.cells (De 0 q (.map (some k)) room') 208)):Lg b r k w m x bv bs q room' ix al av B:=by
 obtain⟨e,c,m1,m2,m3⟩:=h.map;obtain⟨ev,cv,v1,v2⟩:=h.ix.wR;obtain⟨es,cs,s1,s2⟩:=h.ix.keys;have hc:=fun(g:Nat) (ob:Obj) (hg:W.heap[g]? =some ob) (p1:(∀cu fr,ob≠.cells cu 259 fr)) (p2:(∀cu fr,ob≠.cells cu 208 fr)) (p3:(∀cu fr,ob≠.cells cu 631 fr))=>hk g ob hg p1 (zV hg h.run (p2 _ _)) (zV hg ha (p3 _ _));refine⟨hr,⟨e,c,hc _ _ m1 (λ_ _ e=>ai) (λ_ _ e=>ai) (λ_ _ e=>ai),m2,m3⟩,hc _ _ h.mem (λ_ _ e=>ai) (λ_ _ e=>ai) (λ_ _ e=>ai),⟨hc _ _ h.ix.obj (λ_ _ e=>ai) (λ_ _ e=>ai) (λ_ _ e=>ai),⟨ev,cv,hc _ _ v1 (λ_ _ e=>ai) (λ_ _ e=>ai) (λ_ _ e=>ai),v2⟩,⟨es,cs,hc _ _ s1 (λ_ _ e=>ai) (λ_ _ e=>ai) (λ_ _ e=>ai),s2⟩⟩,h.ne,h.kv,h.ks,?_⟩;exact⟨h.vW.1,h.vW.2.imp id λ⟨g,cap,cur,h1,h2,h3,h4⟩=>⟨g,cap,cur,h1,h2,hc _ _ h3 (λ_ _ e=>ai) (λ_ _ e=>ai) (λ_ _ e=>ai),h4⟩⟩
structure ZdU (W a:World):Prop where
 os:a.os=W.os
 tape:a.tape=W.tape
 output:a.output=W.output
 size:W.heap.size<=a.heap.size
 cells:∀(g:Nat) (cu:Array Value) (ty:TypeId) (fr:Nat×Nat),W.heap[g]? =some (.cells cu ty fr)->ty∉ [208,637,628]->a.heap[g]? =some (.cells cu ty fr)
theorem DX.cells{a}(h:DX n0 X W a)(hX:∀g∈X,∃ob,W.heap[g]? =some ob/\∀cu ty fr,ob= .cells cu ty fr->ty=208\/ty=637):ZdU W a:=
 ⟨h.os,h.tape,h.output,h.size,λg cu ty fr hg hn=>by
  refine h.block g _ hg (λhm=>?_) (λ_ _ _ e=>gB);obtain⟨ob,ho,ht⟩:=hX g hm;rw[hg]at ho;rcases ht cu ty fr (oN ho).symm with e|e
  ·subst e;exact hn ae
  ·subst e;exact hn ae⟩
structure Wl (n0 r w:Nat) (room:Int) (ix:Ix) (l:List F7) (T:World->Prop) (W W4:World):Prop where
 run:Qb n0 W4 r w room ix l
 low:Lo n0 W W4
 os:W4.os=W.os
 tape:W4.tape=W.tape
 output:W4.output=W.output
 inner:∃V,T V/\V.heap.size<=W4.heap.size/\∀(g:Nat) (cu:Array Value) (ty:TypeId) (fr:Nat×Nat),V.heap[g]? =some (.cells cu ty fr)->ty∉ [208,631,463]->W4.heap[g]? =some (.cells cu ty fr)
structure Zg5 (n0:Nat) (U:World) (r w k:Nat) (room:Int) (ix:Ix) (l:List F7) (S:List Nat) (W2:World) (a:Nat):Prop where
 low:Lo n0 U W2
 la:n0<=a
 yO:RJ W2 S
 vW:W2.heap[a]? =some (.cells Uh 631)
 mem:∃m x bv bs al av B,(n0<=r/\n0<=m/\n0<=bv/\n0<=bs/\n0<=B)/\Lg W2 r k w m x bv bs 0 room ix (al++ [a]) av B/\B<=W2.heap.size/\al.length=l.length/\(∀i (h:i<al.length) (h':i<l.length),Tx W2 al[i] l[i]/\al[i]≠a)
def ZPg{U}{r w k a}{room}{l}{p}(h:Zg5 n0 U r w k room ix l S W2 a)(hk:∀g ob,W2.heap[g]? =some ob->g∉S->g≠r->g≠a->W4.heap[g]? =some ob)(ha:Tx W4 a p)(hr:W4.heap[r]? =some (.cells (De 0 0 (.map (some k)) room') 208)):Qb n0 W4 r w room' ix (l++ [p]):=by
 obtain⟨m,x,bv,bs,al,av,B,Aw,hM,hB,hl,hA⟩:=h.mem;have BP:=fun(g:Nat) (ob:Obj) (hg:W2.heap[g]? =some ob) (hn:(∀cu fr,ob≠.cells cu 259 fr)) (p1:g≠r) (p2:g≠a)=>hk g ob hg (λhm=>by
  obtain⟨BA,h',_⟩:=h.yO g hm;rw[hg]at h';exact hn _ _ (oN h')) p1 p2
 have hM4:=hM.ZOY (room':=room') h.vW BP hr;have xw:B<=W4.heap.size:=by
  obtain⟨g,cap,_,h1,h2⟩:=hM4.vW.form ae;omega
 refine .inr ⟨k,m,x,bv,bs,al++ [a],av,B,Aw,hM4,xw,by simp[hl],λi h1 h2=>?_⟩;by_cases hi:i<al.length
 ·have Ck:i<l.length:=by omega
  rw[pJ hi,pJ Ck];obtain⟨h3,h4⟩:=hA i hi Ck;refine h3.mv (λg cu e=>BP _ _ e (λ_ _ e=>ai) (zV e hM.run (λe=>ai)) (zV e h.vW (λe=>ai))) (λcu e=>BP _ _ e (λ_ _ e=>ai) (zV e hM.run (λe=>ai)) h4)
 ·have Gg:i=al.length:=by simp at h1;omega
  subst Gg;simp only[hl];rw[qW Z];simp only[hl,tC,List.getElem_cons_zero];simpa[hl]using ha
def Tx.lt{a}{p}(h:Tx W a p):a<W.heap.size:=by
 obtain⟨va,vc,h1,_⟩:=h;exact(wo h1)
def Wl.below{r w}{room}{l}{T}{a b}(h:Wl n0 r w room ix l T W a)(hB:vV a b):Wl n0 r w room ix l T W b:=by
 obtain⟨V,h1,hz,h2⟩:=h.inner;refine⟨h.run.wJ (Nk.vZ hB),λg ob hg e=>by have:=h.low g ob hg e;exact xq hB this,hB.os.trans h.os,hB.tape.trans h.tape,hB.output.trans h.output,V,h1,om hz hB.size,λg cu ty fr hg hn=>?_⟩;have:=h2 g cu ty fr hg hn;exact xq hB this
theorem Wl.set{r w}{room}{l}{T}{a}{g k:Nat}{u:Value}(h:Wl n0 r w room ix l T W a)(DL:n0<=g)(hg:a.heap[g]? =some (.cells cu 463)):Wl n0 r w room ix l T W (a.setCell ⟨g,k,none⟩ u):=by
 obtain⟨V,h1,hz,h2⟩:=h.inner;refine⟨h.run.wJ (Nk.set (Nk.vZ (nW _ _)) hg),λg' ob hl e=>Bb (h.low g' ob hl e) Z,h.os,h.tape,h.output,V,h1,by rw[Bf];exact hz,λg' BA ty fr ML hn=>?_⟩;have:=h2 g' BA ty fr ML hn;exact Bb this (λe=>by subst e;rw[hg]at this;cases this;exact hn ae)
def ZyR{r w k a}{bb:Nat}{room}{l}{T:World->Prop}{W1}{p}(h:Zg5 n0 W r w k room ix l S W2 a)(hSn:∀g∈S,n0<=g)(hT:T W1)(Qu:∃cu,W1.heap[a]? =some (.cells cu 631))(Em:∃cu,W1.heap[r]? =some (.cells cu 208))(hk:∀g ob,W2.heap[g]? =some ob->g∉S->g≠r->g≠a->W4.heap[g]? =some ob)(yU:∀g ob,W1.heap[g]? =some ob->g≠r->g≠a->W4.heap[g]? =some ob)(ha:Tx W4 a p)(hr:W4.heap[r]? =some (.cells (De 0 0 (.map (some k)) room') 208))(o1:W4.os=W.os)(o2:W4.tape=W.tape)(o3:W4.output=W.output):Wl n0 r w room' ix (l++ [p]) T W W4:=by
 obtain⟨c1,Qu⟩:=Qu;obtain⟨c2,Em⟩:=Em;have hz:W1.heap.size<=W4.heap.size:=Nat.le_of_not_lt λhlt=>by
  have hg:=rz hlt;have h1:W4.heap.size≠r:=λe=>by have:=(wo hr);omega
  have h2:W4.heap.size≠a:=λe=>by have:=ha.lt;omega
  have:=(wo (yU _ _ hg h1 h2));omega
 have hrn:n0<=r:=by obtain⟨_,_,_,_,_,_,_,Aw,_⟩:=h.mem;exact Aw.1
 have han:=h.la;exact⟨ZPg h hk ha hr,λg ob hg e=>hk g ob (h.low g ob hg e) (λhm=>by have:=hSn g hm;omega) Z Z,o1,o2,o3,W1,hT,hz,λg cu ty fr hg hn=>yU _ _ hg (zV hg Em (λe=>gB)) (zV hg Qu (λe=>gB))⟩
def Z0e{p:Prop}(h:p:=by
 intro W2 W1 W4 a bb va vc hP hT Qu ZoN hk yU KS hv4 LP o1 o2 o3;exact ZyR (bb:=bb) hP hSn hT Qu ZoN hk yU ⟨va,vc,KS,hv4⟩ LP o1 o2 o3):p:=h
def ZDv(n0:Nat)(W:World)(r w fb)(room)(ix)(l)(rn)(qv nv:Value)(es)(fs)(rs:List (wG×Nat))(bg:xk)(met:Nat)(S:List Nat)(T:World->Prop)(DL:n0<=W.heap.size)(hSn:∀g∈S,n0<=g)(hM:Qb n0 W r w room ix l)(hl:rs.length<=1000)(AA:ix.wR.length<=90000)(zl:ix.keys.length<=90000)(zQ:l.length<=1000)(hn:ix.at_ (rs.map (·.1))=none)(LM:0<room)(Em:room<=200000)(hm:bg.rows.length<=1000)(A9:∀r∈bg.rows,r.length<=1000)(hw:W.heap[w]? =some (.cells #[qv,nv] 459))(hx:Gs W nv es)(hf:Ao W rn fs (vU fb))(he:CR (λe=>BM e fs) es=some rs)(hS:∀W',ZdU W W'->RJ W' S)(hQ:∀W',ZdU W W'->Calls prog 50 #[vU r,qv,vU fb] W' λe W1=>∃bb,e= .returned (.tuple #[vU bb,.int .i64 met])/\CV W1 bb bg/\Ox S W' W1/\T W1):
  Calls prog 441 #[vU r,vU w,vU fb] W (Ow W (!decide (bg.rows.length=0)) (yC bg.rows) met (Wl n0 r w (room-(1+((rs.map (·.1)).length:Int))-((yC bg.rows).length:Nat)) (ix.number (rs.map (·.1))) (l++ [(!decide (bg.rows.length=0),yC bg.rows,met)]) T W)):=by
 have hl':(rs.map (·.1)).length<=1000:=dA
 rcases hM with⟨k,Aw,h1,h2,h3,c,h4⟩|⟨k,m,x,bv,bs,al,av,B,Aw,h1,h2,h3,h4⟩
 ·subst h1 h2;have hX:∀g∈ [r,k],∃ob,W.heap[g]? =some ob/\∀cu ty fr,ob= .cells cu ty fr->ty=208\/ty=637:=λg hg=>by
   rcases(by simpa using hg:g=r\/g=k)with rfl|rfl
   ·exact⟨_,h3,λ_ _ _ e=>by cases e;exact .inl rfl⟩
   ·exact⟨_,h4,λ_ _ _ e=>ai⟩
  refine Zsa n0 W r w fb [r,k] S 0 (room-(1+((rs.map (·.1)).length:Int))) (.map (some k)) rn qv nv es fs rs bg met (Zg5 n0 W r w k (room-(1+((rs.map (·.1)).length:Int))) (({}:Ix).number (rs.map (·.1))) [] S) (λ_ V=>T V) _ hw hx hf he hX Z Z hm A9 ?_ (λW' hK=>hS W' (hK.cells hX)) (λW' hK=>hQ W' (hK.cells hX)) ?_ (λa b h hB=>h.below hB) (λa g k cu u h hl hg=>h.set (om DL hl) hg)
  ·intro W1 v hB hv;refine(ZHM W1 r k w 0 room v _ (xq hB h3) ⟨c,xq hB h4⟩ hv hl' LM Em).mono ?_;rintro e W2 ⟨a,Wt,m,x,bv,bs,rfl,ha,Z0,hb,hM2,Dl,o1,o2,o3⟩;have hK:DX n0 [r,k] W1 W2:=⟨o1,o2,o3,by have:=(wo hb);omega,λg ob hg p1 p2=>Dl g ob hg (λe=>p1 bD) (λe=>p1 bD)⟩;have hs:=hB.size;have zi:=(wo hb);exact⟨a,rfl,ha,hb,hK,hM2.run,((DX.vZ hB).trans hK).lo (λg hg=>by rcases(by simpa using hg:g=r\/g=k)with rfl|rfl;exact Aw.1;exact Aw.2),Z,hS _ (((DX.vZ (n0:=n0) hB).trans hK).cells hX),hb,m,x,bv,bs, [],Wt,W1.heap.size,⟨Aw.1,Z,Z,Z,Z⟩,hM2,Z,rfl,λi h=>ax⟩
  ·exact Z0e
 ·have hX:∀g∈ [r,m,bv,bs],∃ob,W.heap[g]? =some ob/\∀cu ty fr,ob= .cells cu ty fr->ty=208\/ty=637:=λg hg=>by
   obtain⟨ev,cv,v1,_⟩:=h1.ix.wR;obtain⟨es',cs,s1,_⟩:=h1.ix.keys;rcases(by simpa using hg:g=r\/g=m\/g=bv\/g=bs)with rfl|rfl|rfl|rfl
   ·exact⟨_,h1.run,λ_ _ _ e=>by cases e;exact .inl rfl⟩
   ·exact⟨_,h1.mem,λ_ _ _ e=>by cases e;exact .inr rfl⟩
   ·exact⟨_,v1,λ_ _ _ e=>ai⟩
   ·exact⟨_,s1,λ_ _ _ e=>ai⟩
  refine Zsa n0 W r w fb [r,m,bv,bs] S 0 (room-(1+((rs.map (·.1)).length:Int))) (.map (some k)) rn qv nv es fs rs bg met (Zg5 n0 W r w k (room-(1+((rs.map (·.1)).length:Int))) (ix.number (rs.map (·.1))) l S) (λ_ V=>T V) _ hw hx hf he hX Z Z hm A9 ?_ (λW' hK=>hS W' (hK.cells hX)) (λW' hK=>hQ W' (hK.cells hX)) ?_ (λa b h hB=>h.below hB) (λa g k cu u h hl hg=>h.set (om DL hl) hg)
  ·intro W1 v hB hv;refine(ZHO W1 r k w m x bv bs 0 room ix al av B v _ (h1.wJ (Nk.vZ hB)) hv hl' AA hn LM Em Z zl (om h2 hB.size)).mono ?_;rintro e W2 ⟨a,Wt,rfl,ha,hb,hM2,Dl,o1,o2,o3⟩;have zi:=(wo hb);have hK:DX n0 [r,m,bv,bs] W1 W2:=⟨o1,o2,o3,Z,λg ob hg p1 p2=>Dl g ob hg (λe=>p1 bD) (λe=>p1 bD) (λe=>p1 bD) (λe=>p1 bD) (λhb=>p2 (om Aw.2.2.2.2 hb))⟩;have hs:=hB.size;have h1W:=h1.wJ (Nk.vZ hB);refine⟨a,rfl,ha,hb,hK,hM2.run,((DX.vZ hB).trans hK).lo (λg hg=>by rcases(by simpa using hg:g=r\/g=m\/g=bv\/g=bs)with rfl|rfl|rfl|rfl;exact Aw.1;exact Aw.2.1;exact Aw.2.2.1;exact Aw.2.2.2.1),Z,hS _ (((DX.vZ (n0:=n0) hB).trans hK).cells hX),hb,m,x,bv,bs,al,Wt,B,Aw,hM2,Z,h3,λi p q=>?_⟩;have hA:=(h4 i p q);have hlt:=hA.lt;refine⟨hA.mv (λg cu hg=>?_) (λcu hg=>?_),Z⟩
   ·have Fq:=xq hB hg;have hKC:=DX.cells ((DX.vZ (n0:=n0) hB).trans hK) hX;exact hKC.cells g cu _ _ hg O
   ·have hKC:=DX.cells ((DX.vZ (n0:=n0) hB).trans hK) hX;exact hKC.cells _ cu _ _ hg O
  ·exact Z0e
structure Wn (n0:Nat) (S:List Nat) (b n:Nat) (a c:World):Prop where
 os:c.os=a.os
 tape:c.tape=a.tape
 output:c.output=a.output
 size:a.heap.size<=c.heap.size
 low:∀(g:Nat) (ob:Obj),g<n->g<n0->a.heap[g]? =some ob->c.heap[g]? =some ob
 yO:b<n->c.heap[b]? =a.heap[b]?
 cells:∀(g:Nat) (cu:Array Value) (ty:TypeId),g<n->a.heap[g]? =some (.cells cu ty)->ty∉ [208,637,628,631,463]->(ty=259->g∉S)->c.heap[g]? =some (.cells cu ty)
def wiM(n0:Nat)(S:List Nat)(b:Nat)(J:Nat->World->Prop)(jb:∀{i a b},J i a->vV a b->J i b)(js:∀{i a} {g o:Nat} {cu:Array Value} {ty:TypeId} {v:Value},J i a->a.heap[g]? =some (.cells cu ty)->ty∈ [396,47,218]->J i (a.setCell ⟨g,o,none⟩ v)):Md where
 X:=Wn n0 S b
 J:=J
 L:= [396,47,218]
 refl:=λn W=>⟨rfl,rfl,rfl,nV _,λ_ _ _ _ e=>e,λ_=>rfl,λ_ _ _ _ e _ _=>e⟩
 trans:=λh k=>⟨k.os.trans h.os,k.tape.trans h.tape,k.output.trans h.output,om h.size k.size,λg ob h1 h2 e=>k.low g ob h1 h2 (h.low g ob h1 h2 e),λhb=>(k.yO hb).trans (h.yO hb),λg cu ty hg e p q=>k.cells g cu ty hg (h.cells g cu ty hg e p q) p q⟩
 mono:=λh hm=>⟨h.os,h.tape,h.output,h.size,λg ob h1 h2 e=>h.low g ob (oU h1 hm) h2 e,λhb=>h.yO (oU hb hm),λg cu ty hg e p q=>h.cells g cu ty (oU hg hm) e p q⟩
 below:=λh=>⟨h.os,h.tape,h.output,h.size,λg ob h1 _ e=>(h.block g h1).trans e,λhb=>h.block b hb,λg cu ty hg e _ _=>(h.block g hg).trans e⟩
 set:=λ{n a c g o v} h hn=>⟨h.os,h.tape,h.output,eQ,λg' ob h1 h2 e=>Bb (h.low g' ob h1 h2 e) Z,λhb=>(uX _ _ _ _ (by show b≠g;omega)).trans (h.yO hb),λg' cu ty hg e p q=>Bb (h.cells g' cu ty hg e p q) Z⟩
 wJ:=λ{n a c g cu ty} h hg ht e=>h.cells g cu ty hg e (by intro hm;revert ht;simp at hm;rcases hm with rfl|rfl|rfl|rfl|rfl<;>decide) (λe2=>False.elim (by subst e2;revert ht;decide))
 size:=λh=>h.size
 jb:=jb
 js:=js
def PL:List TypeId:= [80,3,345,246,514,510,433,31,214,78,232,88,402,173,459]
theorem zz.EC(h:KT PL W W'):∀{e:PX} {f:Value},zz W e f->zz W' e f
 | .lit v,f,⟨b,h1,h2⟩=>⟨b,h1,h _ _ _ O h2⟩
 | .zO o p,f,⟨b,c,h1,h2,h3,h4⟩=>⟨b,c,h1,h _ _ _ O h2,h _ _ _ O h3,h4⟩
 | .made k,f,⟨b,h1,h2,h3⟩=>⟨b,h1,h _ _ _ O h2,h3⟩
 | .arith op l r,f,⟨b,c,d,x,y,h1,h2,h3,h4,h5,h6⟩=>⟨b,c,d,x,y,h1,h _ _ _ O h2,h _ _ _ O h3,h _ _ _ O h4,zz.EC h h5,zz.EC h h6⟩
def Nb.EC(h:KT PL W W'){s}{f}(hj:Nb W s f):Nb W' s f:=by
 obtain⟨b,h1,h2⟩:=hj;exact⟨b,h1,h _ _ _ O h2⟩
theorem DC.EC(h:KT PL W W'):∀{c:PC} {f:Value},DC W none c f->DC W' none c f
 | .always,f,e=>e
 | .xJ c,f,⟨b,x,h1,h2,h3⟩=>⟨b,x,h1,h _ _ _ O h2,DC.EC h h3⟩
 | .BS a l r,f,⟨b,c,d,x,y,h1,h2,h3,h4,h5,h6⟩=>⟨b,c,d,x,y,h1,h _ _ _ O h2,h _ _ _ O h3,h _ _ _ O h4,DC.EC h h5,DC.EC h h6⟩
 | .cmp s l r,f,⟨b,c,d,x,y,z,h1,h2,h3,h4,h5,h6,h7⟩=>⟨b,c,d,x,y,z,h1,h _ _ _ O h2,h _ _ _ O h3,h _ _ _ O h4,h5.EC h,h6.EC h,h7.EC h⟩
 | .Fy e,f,⟨b,x,h1,h2,h3⟩=>⟨b,x,h1,h _ _ _ O h2,h3.EC h⟩
 | .zK,f,⟨b,w,h0,_⟩=>nomatch h0
 | .BK e s a,f,⟨b,c,d,i,n,w,x,z,h0,_⟩=>nomatch h0
theorem Gs.EC(h:KT PL W W'){v}(hv:Gs W v es):Gs W' v es:=by
 obtain⟨a,cap,rfl,h1,h3⟩:=hv;refine⟨a,cap,rfl,h1,λi hi=>?_⟩;obtain⟨g,o,cu,f,e,ho,hc,hf⟩:=h3 i hi;have:=h g cu _ O ho;exact⟨g,o,cu,f,e,this,yP (this.trans ho.symm) hc,hf.EC h⟩
theorem Tw.EC(h:KT PL W W'){v}{l}(hv:Tw W v l):Tw W' v l:=by
 obtain⟨a,cap,rfl,h1,h3⟩:=hv;refine⟨a,cap,rfl,h1,λi hi=>?_⟩;obtain⟨g,o,cu,f,e,ho,hc,hd,hf⟩:=h3 i hi;have:=h g cu _ O ho;exact⟨g,o,cu,f,e,this,yP (this.trans ho.symm) hc,yP (this.trans ho.symm) hd,hf.EC h⟩
def Ua.EC(h:KT PL W W'){v}(hv:Ua W v yu):Ua W' v yu:=by
 exact lW
def Cq.EC(h:KT PL W W'){v}{l}(hv:Cq W v l):Cq W' v l:=by
 exact lV
theorem Eg.EC(h:KT PL W W'){b:Nat}(hb:W'.heap[b]? =W.heap[b]?){x}{s}{d}(k:Eg W b x s none d):Eg W' b x s none d:=by
 obtain⟨k,q,ev,h2,h3,h4⟩:=k;exact⟨⟨k.src.EC h,k.wh.EC h,k.ks.same h O,k.made.EC h,k.D8.EC h,k.vY.EC h⟩,q,ev,hb.trans h2,h3,λe=>(h4 e).EC h⟩
theorem AX.ZjV(hk:KT PL W W'):∀{q:PQ} {v:Value} {S:List Nat},AX W q v S->(∀g∈S,W'.heap[g]? =W.heap[g]?)->AX W' q v S
 | .yO s,v,S,⟨b,x,d,e1,h,e⟩,hs=>⟨b,x,d,e1,h.EC hk (hs b cO),e⟩
 | .Ai l sign r,v,S,⟨j,lv,rv,S1,S2,e1,hj,h1,h2,e,hd⟩,hs=>⟨j,lv,rv,S1,S2,e1,hk _ _ _ O hj,h1.ZjV hk (λg hg=>hs g eF),h2.ZjV hk (λg hg=>hs g eF),e,hd⟩
structure Kp (b:Nat) (W a:World):Prop where
 size:W.heap.size<=a.heap.size
 block:∀(g:Nat) (ob:Obj),W.heap[g]? =some ob->g≠b->(∀cu ty fr,ob= .cells cu ty fr->ty∉ [463,396,47,218])->a.heap[g]? =some ob
def Kp.kt{b}{a}(h:Kp b W a)(hb:∃cu,W.heap[b]? =some (.cells cu 259)):KT PL W a:=λg cu ty ht e=>by
 obtain⟨cb,hb⟩:=hb;refine h.block g _ e (zV e hb (λe2=>gD)) (λ_ _ _ e2 hm=>?_);cases e2;simp at hm;rcases hm with rfl|rfl|rfl|rfl<;>(revert ht;decide)
def Qb.kp{a}{b r w}{room}{l}(h:Qb n0 W r w room ix l)(hk:Kp b W a)(hb:∃cu,W.heap[b]? =some (.cells cu 259)):Qb n0 a r w room ix l:=by
 obtain⟨cb,hb⟩:=hb;have k0:=fun(g:Nat) (es:Array MapEntry) (c:Nat) (e:W.heap[g]? =some (.map es c))=>hk.block g _ e (zV e hb (λe=>ai)) (λ_ _ _ e=>ai);have kc:=fun(g:Nat) (cu:Array Value) (ty:TypeId) (e:W.heap[g]? =some (.cells cu ty)) (hn:ty∉ [463,396,47,218,259])=>hk.block g _ e (zV e hb (λe2=>by cases e2;exact hn ae)) (λ_ _ _ e2 hm=>by cases e2;exact hn (by simp at hm ⊢;rcases hm with h|h|h|h<;>simp[h]));rcases h with⟨k,Aw,h1,h2,h3,c,h4⟩|⟨k,m,x,bv,bs,al,av,B,Aw,h1,h2,h3,h4⟩
 ·exact .inl ⟨k,Aw,h1,h2,kc _ _ _ h3 O,c,k0 _ _ _ h4⟩
 ·obtain⟨e,c,m1,m2,m3⟩:=h1.map;obtain⟨ev,cv,v1,v2⟩:=h1.ix.wR;obtain⟨es,cs,s1,s2⟩:=h1.ix.keys;refine .inr ⟨k,m,x,bv,bs,al,av,B,Aw,⟨kc _ _ _ h1.run O,⟨e,c,k0 _ _ _ m1,m2,m3⟩,kc _ _ _ h1.mem O,⟨kc _ _ _ h1.ix.obj O,⟨ev,cv,k0 _ _ _ v1,v2⟩,⟨es,cs,k0 _ _ _ s1,s2⟩⟩,h1.ne,h1.kv,h1.ks,?_⟩,om h2 hk.size,h3,λi p q=>(h4 i p q).mv (λg cu e=>kc _ _ _ e O) (λcu e=>kc _ _ _ e O)⟩;exact⟨h1.vW.1,h1.vW.2.imp id λ⟨g,cap,cur,h1,h2,h3,h4⟩=>⟨g,cap,cur,h1,h2,kc _ _ _ h3 O,h4⟩⟩
structure Cx where
 room:Int:=200000
 ix:Ix:={}
 RU:List F7:= []
structure RQ where
 n0:Nat
 r:Nat
 w:Nat
 b:Nat
 qv:Value
 nv:Value
 S:List Nat
structure Mm (v:RQ) (q:PQ) (es:List PX) (m:Cx) (W:World):Prop where
 run:Qb v.n0 W v.r v.w m.room m.ix m.RU
 wi:W.heap[v.w]? =some (.cells #[v.qv,v.nv] 459)
 ex:Gs W v.nv es
 qi:AX W q v.qv v.S
 bs:∃cu,W.heap[v.b]? =some (.cells cu 259)
 nb:v.b∉v.S
 lo:v.n0<=W.heap.size
 sn:∀g∈v.S,v.n0<=g
def Mm.move{v}{q}{m}{a}(h:Mm v q es m W)(hk:Kp v.b W a)(hb:∃cu,a.heap[v.b]? =some (.cells cu 259)):Mm v q es m a:=by
 have NP:=hk.kt h.bs;refine⟨h.run.kp hk h.bs,NP _ _ _ O h.wi,h.ex.EC NP,h.qi.ZjV NP (λg hg=>?_),hb,h.nb,om h.lo hk.size,h.sn⟩;obtain⟨cu,hc,_⟩:=h.qi.bs g hg;exact(hk.block g _ hc (λe=>h.nb (e▸hg)) (λ_ _ _ e=>by cases e;decide)).trans hc.symm
def Kp.vZ{b}{a}(h:vV W a):Kp b W a:=⟨h.size,λg ob e _ _=>xq h e⟩
def Mm.below{v}{q}{m}{a}(h:Mm v q es m W)(hB:vV W a):Mm v q es m a:=by
 obtain⟨cu,hb⟩:=h.bs;exact h.move (Kp.vZ hB) ⟨cu,xq hB hb⟩
def Mm.set{v}{q}{m}{a}{g o:Nat}{u:Value}(h:Mm v q es m a)(hg:a.heap[g]? =some (.cells cu ty))(ht:ty∈ [463,396,47,218]):Mm v q es m (a.setCell ⟨g,o,none⟩ u):=by
 obtain⟨cb,hb⟩:=h.bs;have GH:=zV hb hg (λe=>by cases e;revert ht;decide);exact h.move ⟨by rw[Bf];exact nV _,λg' ob e _ hn=>Bb e (λe2=>by subst e2;rw[hg]at e;cases e;exact hn _ _ _ rfl ht)⟩ ⟨cb,Bb hb GH⟩
def Rp(v:RQ)(q:PQ)(es:List PX)(st:Nat->Cx):Md:=wiM v.n0 v.S v.b (λi W=>Mm v q es (st i) W) (λh hB=>h.below hB) (λh hg ht=>h.set hg (qb _ ht))
inductive Yf (q:PQ) (es:List PX) (fs:List xE):Cx->F7->Cx->Prop
 |MX {m:Cx} (rs:List (wG×Nat)) (n:Nat) (he:CR (λe=>BM e fs) es=some rs) (hl:rs.length<=1000) (AA:m.ix.wR.length<=90000) (hn:m.ix.at_ (rs.map (·.1))=some n) (h:n<m.RU.length):Yf q es fs m m.RU[n] m
 |new {m:Cx} (rs:List (wG×Nat)) (bg:xk) (met:Nat) (he:CR (λe=>BM e fs) es=some rs) (hl:rs.length<=1000) (AA:m.ix.wR.length<=90000) (zl:m.ix.keys.length<=90000) (zQ:m.RU.length<=1000) (hn:m.ix.at_ (rs.map (·.1))=none) (LM:0<m.room) (Em:m.room<=200000) (hm:bg.rows.length<=1000) (A9:∀r∈bg.rows,r.length<=1000) (hq:Tz q fs bg met):
  Yf q es fs m (!decide (bg.rows.length=0),yC bg.rows,met) ⟨m.room-(1+((rs.map (·.1)).length:Int))-((yC bg.rows).length:Nat),m.ix.number (rs.map (·.1)),m.RU++ [(!decide (bg.rows.length=0),yC bg.rows,met)]⟩
inductive Ru (q:PQ) (es:List PX) (fs:List xE):PC->Cx->Nat->Nat->Cx->Prop
 |ex {m m':Cx} {a:F7} (h:Yf q es fs m a m'):Ru q es fs .zK m (PO a.1) a.2.2 m'
 |vs {m m':Cx} {a:F7} {e:PX} {s:vS} {Ak:Bool} (x:wG×Nat) (hx:BM e fs=some x) (h:Yf q es fs m a m') (hl:a.2.1.length<=1000):Ru q es fs (.BK e s Ak) m (a.2.1.foldl (λt v=>LY Ak t (Ko s x.1 v)) (if Ak then 2 else 0)) (xG [x.2,a.2.2]) m'
 |nt {m m':Cx} {c:PC} {t e:Nat} (h:Ru q es fs c m t e m') (ht:t<=2):Ru q es fs (.xJ c) m (2-t) e m'
def Dh{α β:Type}{a:Option α}{f:α->Option β}{y:β}(h:a.bind f=some y):∃x,a=some x/\f x=some y:=by
 cases a with
 |none=>cases h
 |some x=>exact⟨x,rfl,h⟩
def MU{α β:Type}{a:Option α}{f:α->β}{y:β}(h:a.map f=some y):∃x,a=some x/\f x=y:=by
 cases a with
 |none=>cases h
 |some x=>exact⟨x,rfl,oN h⟩
def E9{α:Type}(b:Bool)(o:Option α):Option α:=if b then o else none
def Gb{α:Type}{b:Bool}{o:Option α}{y:α}(h:E9 b o=some y):b=true/\o=some y:=by
 unfold E9 at h;split at h
 ·rename_i hb;exact⟨hb,h⟩
 ·cases h
def Zd7(b:xk)(row:List wG)(n:Nat):Bool:=decide (row.length<=1000)&&(decide (b.ix.wR.length<=90000)&&(decide (b.rows.length<=90000)&&(decide (n<=1000000)&&b.times.all λt=>decide (t<=1000000000000))))
def ZlW{b}{row}{n:Nat}(h:Zd7 b row n=true):VO b row n:=by
 unfold Zd7 at h;simp only[oJ,oL,pR]at h;exact⟨h.1,h.2.1,h.2.2.1,h.2.2.2.1,h.2.2.2.2⟩
def Zgf:xk->List (List wG)->Bool
 |_, []=>true
 |b,r::l=>Zd7 b r 1&&Zgf (b.add r 1) l
def Zj5(rows:List (List wG)):Bool:=decide (rows.length<=90000)&&Zgf {} rows
theorem ZyQ:∀rows b,Zgf b rows=true->∀k (h:k<rows.length),VO ((rows.take k).foldl (λb r=>b.add r 1) b) rows[k] 1
 |r::l,b,h,0,_=>by
  rw[Zgf,oJ]at h;exact ZlW h.1
 |r::l,b,h,k+1,hk=>by
  rw[Zgf,oJ]at h;exact ZyQ l _ h.2 k bH
def ZyP{rows:List (List wG)}(h:Zj5 rows=true):YP rows:=by
 unfold Zj5 at h;simp only[oJ,oL]at h;exact⟨h.1,λk hk=>ZyQ rows {} h.2 k hk⟩
def Zqq(yu:List (List (List wG))):Bool:=(List.range yu.length).all λk=>decide ((Ep (yu.take k)).length<=1000)&&(decide ((yu.getD k []).length<=1000)&&((yu.getD k []).all (λr=>decide (0<r.length))&&(Ep (yu.take k)).all λl=>(yu.getD k []).all λr=>decide (l.length+r.length<=1000)))
def ZAk(h:Zqq yu=true):T9 yu:=by
 intro k hk;have h1:=pR.1 h k (ru.2 hk);rw[show yu.getD k []=yu[k] from by simp[qI,hk]]at h1;simp only[oJ,oL,pR]at h1;exact h1
def Zpg(s:Aq)(up l:List xE):Option (xk×Nat):=
 E9 (decide (l.length<=64)) ((CR (λf=>CR (λe=>BM e (f::up)) s.items) l).bind λrows=>
  E9 (Zj5 (rows.map λr=>r.map (·.1))&&Zj5 (xk.new (rows.map λr=>r.map (·.1))).rows)
   (some (if xG (rows.map λr=>xG (r.map (·.2)))≠0 then {} else if s.distinct then xk.new (xk.new (rows.map λr=>r.map (·.1))).rows else xk.new (rows.map λr=>r.map (·.1)),xG (rows.map λr=>xG (r.map (·.2))))))
def Zx3{s}{up}{l:List xE}(h:Zpg s up l=some (bg,met)):RH s up l bg met:=by
 obtain⟨h1,h⟩:=Gb h;obtain⟨rows,h2,h⟩:=Dh h;obtain⟨h3,h⟩:=Gb h;simp only[oJ]at h3;cases h;exact .mk rows (qw h1) h2 (ZyP h3.1) (ZyP h3.2)
def Zyg(c:PC)(up l:List xE):Option (List xE×Nat):=
 E9 (decide (l.length<=64)) ((CR (λf=>DD c (f::up)) l).map λts=>(DT l (ts.map (·.1)),xG (ts.map (·.2))))
def Zyh{c}{up}{l K:List xE}(h:Zyg c up l=some (K,m)):YL c up l K m:=by
 obtain⟨h1,h⟩:=Gb h;obtain⟨ts,h2,h⟩:=MU h;cases h;exact .mk ts (qw h1) h2
def XG:List wG->Option (List Nat)
 | []=>some []
 | .int n::r=>E9 (decide (0<n)) ((XG r).map λl=>n.toNat::l)
 |_::_=>none
theorem ZyN:∀l ns,XG l=some ns->l=KZ ns
 | [],ns,h=>by rw[XG]at h;cases h;rfl
 | .int n::r,ns,h=>by
  rw[XG]at h;obtain⟨h1,h⟩:=Gb h;obtain⟨l,h2,rfl⟩:=MU h;have h1:=qw h1;rw[ZyN r l h2];unfold KZ;rw[oq,tQ Z]
 | .null::r,ns,h=>by rw[XG]at h<;>first|cases h|simp
 | .text s::r,ns,h=>by rw[XG]at h<;>first|cases h|simp
def Zqu(ns:List Nat):Bool:=ns.all (λn=>decide (0<n/\n<9223372036854775808))&&(decide (0<ns.length)&&(decide (ns.length<=1000)&&(List.range ns.length).all λk=>decide ((ns.take k).sum<18446744073709551616)))
def ZSY{ns:List Nat}(h:Zqu ns=true):ZlR ns:=by
 unfold Zqu at h;simp only[oJ,oL,pR,ru]at h;exact⟨h.1,h.2.1,h.2.2.1,h.2.2.2⟩
def ZlX(name:vS)(vs:List wG)(met:Nat):Bool:=decide (name=ZaD)||(decide (name=ZaH)||(decide (name=ZaG)||(decide (met≠0)||(decide (vs.filter (λv=>decide (v≠.null))= [])||(match XG (vs.filter (λv=>decide (v≠.null)))with|some ns=>Zqu ns|none=>false)))))
def ZDN{name}{vs}(h:ZlX name vs met=true):Zg2 name vs met:=by
 intro h1 h2 h3 h4 h5;unfold ZlX at h;rw[qd h1,qd h2,qd h3,qd (by simpa using h4),qd h5]at h;simp only[sM]at h;cases e:XG (vs.filter λv=>decide (v≠.null))with
 |none=>rw[e]at h;cases h
 |some ns=>rw[e]at h;exact⟨ns,ZyN _ _ e,ZSY h⟩
def ZuK(up:List xE)(made:List (vS×PX))(ms:List xE):Option (List (wG×Nat)):=
 E9 (decide (ms.length<=64)) (CR (λa:vS×PX=>(CR (λm=>BM a.2 (m::up)) ms).bind λrs=>E9 (ZlX a.1 (rs.map (·.1)) (xG (rs.map (·.2)))) (some (Zbs a.1 (rs.map (·.1)) (xG (rs.map (·.2)))))) made)
def ZIJ{up}{made}{ms:List xE}{vs:List (wG×Nat)}(h:ZuK up made ms=some vs):ZkN up made ms vs:=by
 obtain⟨h1,h⟩:=Gb h;obtain⟨h2,h3⟩:=Q4 h;refine⟨qw h1,h2,λj hj hj'=>?_⟩;obtain⟨rs,h4,h5⟩:=Dh (h3 j hj hj');obtain⟨h6,h7⟩:=Gb h5;exact⟨rs,h4,ZDN h6,(oN h7).symm⟩
def ZuI(s:Aq)(up l:List xE):Option (List xE×Nat):=
 E9 (decide (s.keys.length<=1000)&&(decide (l.length<=64)&&l.all λf=>decide (f.row.length<=1000))) ((if s.keys= []then some [l]else Y9 s.keys l {} []).bind λgs=>
  E9 (decide (gs.length<=64)) ((CR (ZuK up s.made) gs).map λED=>((gs.zip ED).map λp=>WS p.1 p.2,xG (ED.flatMap λvs=>vs.map (·.2)))))
def ZmR{s}{up}{l G:List xE}(h:ZuI s up l=some (G,m)):Yk s up l G m:=by
 obtain⟨h1,h⟩:=Gb h;simp only[oJ,oL,pR]at h1;obtain⟨gs,h2,h⟩:=Dh h;obtain⟨h3,h⟩:=Gb h;obtain⟨ED,h4,h⟩:=MU h;cases h;obtain⟨h5,h6⟩:=Q4 h4;refine .mk gs ED ?_ h1.1 h1.2.1 h1.2.2 (qw h3) h5 (λi hi Ck=>ZIJ (h6 i hi Ck));split at h2
 ·rename_i hk;cases h2;exact .inl ⟨hk,rfl⟩
 ·rename_i hk;exact .inr ⟨hk,h2⟩
def Zkr(s:Aq)(up l:List xE):Option (xk×Nat):=
 if s.Nu then(ZuI s up l).bind λg=>if g.2≠0 then some ({},g.2)else(Zyg s.Fj up g.1).bind λk=>if k.2≠0 then some ({},k.2)else Zpg s up k.1
 else Zpg s up l
def Zz0{s}{up}{l:List xE}(h:Zkr s up l=some (bg,met)):Nl s up l bg met:=by
 unfold Zkr at h;split at h
 ·rename_i hg;obtain⟨⟨G,m⟩,h1,h⟩:=Dh h;simp only at h;split at h
  ·rename_i hm;cases h;exact .ZmP hg (ZmR h1) hm
  ·rename_i hm;have hm:m=0:=by simpa using hm
   subst hm;obtain⟨⟨K,n⟩,h2,h⟩:=Dh h;simp only at h;split at h
   ·rename_i hn;cases h;exact .Zn6 hg (ZmR h1) (Zyh h2) hn
   ·rename_i hn;have hn:n=0:=by simpa using hn
    subst hn;exact .full hg (ZmR h1) (Zyh h2) (Zx3 h)
 ·rename_i hg;exact .plain bJ (Zx3 h)
def Zgr(h:Nat->Nat->Nat)(r:xk):xk->List (List wG×Nat)->Bool
 |_, []=>true
 |b,p::l=>Zd7 b p.1 (h p.2 (r.count p.1))&&Zgr h r (b.add p.1 (h p.2 (r.count p.1))) l
def Zgs(h:Nat->Nat->Nat)(l:xk):xk->List (List wG×Nat)->Bool
 |_, []=>true
 |b,p::r=>(decide (l.count p.1≠0)||Zd7 b p.1 (h 0 p.2))&&Zgs h l (if l.count p.1=0 then b.add p.1 (h 0 p.2)else b) r
theorem ZzH(h)(r):∀ps b,Zgr h r b ps=true->∀k (hk:k<ps.length),VO ((ps.take k).foldl (λb p=>b.add p.1 (h p.2 (r.count p.1))) b) ps[k].1 (h ps[k].2 (r.count ps[k].1))
 |p::l,b,e,0,_=>by
  rw[Zgr,oJ]at e;exact ZlW e.1
 |p::l,b,e,k+1,hk=>by
  rw[Zgr,oJ]at e;exact ZzH h r l _ e.2 k bH
theorem ZzI(h)(l):∀ps b,Zgs h l b ps=true->∀k (hk:k<ps.length),l.count ps[k].1=0->VO ((ps.take k).foldl (λb p=>if l.count p.1=0 then b.add p.1 (h 0 p.2)else b) b) ps[k].1 (h 0 ps[k].2)
 |p::r,b,e,0,_,h0=>by
  rw[Zgs,oJ]at e;have h0:l.count p.1=0:=h0;have e1:=e.1;rw[qd (by simpa using h0),sM]at e1;exact ZlW e1
 |p::r,b,e,k+1,hk,h0=>by
  rw[Zgs,oJ]at e;exact ZzI h l r _ e.2 k bH h0
def ZpW(h:Nat->Nat->Nat)(l r:xk):Bool:=
 decide (l.rows.length<=90000)&&(decide (r.rows.length<=90000)&&(decide (l.ix.wR.length<=90000)&&(decide (r.ix.wR.length<=90000)&&(l.rows.all (λx=>decide (x.length<=1000))&&(r.rows.all (λx=>decide (x.length<=1000))&&(l.times.all (λt=>decide (t<=1000000000))&&(r.times.all (λt=>decide (t<=1000000000))&&(Zgr h r {} (l.rows.zip l.times)&&(decide (l.rows.length=l.times.length)&&Zgs h l ((l.rows.zip l.times).foldl (λb p=>b.add p.1 (h p.2 (r.count p.1))) {}) (r.rows.zip r.times))))))))))
def ZQ8{h}{l}{r:xk}(e:ZpW h l r=true):ZdW h l r:=by
 unfold ZpW at e;simp only[oJ,oL,pR]at e;obtain⟨e1,e2,e3,e4,e5,e6,e7,e8,e9,e10,e11⟩:=e;refine⟨e1,e2,e3,e4,e5,e6,e7,e8,λrow=>?_,λk hk BP=>?_,λk hk BP h0=>?_⟩
 ·unfold xk.count;cases e:(r.ix.at_ row).bind λk=>r.times[k]? with
  |none=>simp
  |some t=>
   obtain⟨k,_,hk⟩:=Dh e;exact e8 t (uu hk)
 ·have:=ZzH h r _ _ e9 k ah;unfold Ql;exact nR
 ·have:=ZzI h l _ _ e11 k ah (by simpa using h0);unfold MB Ql;rw[oO (show(l.rows.zip l.times).length<=l.rows.length by simp;omega)];exact nR
def Zqk(s:vS):Bool:=decide (s=sUA)||(decide (s=sIA)||(decide (s=sEA)||(decide (s=sU)||(decide (s=sI)||decide (s=sE)))))
def ZSD{s:vS}(h:Zqk s=true):ZlO s:=by
 unfold Zqk at h;simp only[r9,oL]at h;exact h
def cq:PQ->List xE->Option (xk×Nat)
 | .yO s,up=>E9 (Zqq s.yu&&decide ((zJ s).length<=64)) ((CR (λf=>DD s.Ee (f::up)) (zJ s)).bind λts=>if xG (ts.map (·.2))≠0 then some ({},xG (ts.map (·.2)))else Zkr s up (DT (zJ s) (ts.map (·.1))))
 | .Ai l sign r,up=>E9 (Zqk sign) ((cq l up).bind λa=>(cq r up).bind λb=>if xG [a.2,b.2]≠0 then some ({},xG [a.2,b.2])else E9 (ZpW (EJ sign) a.1 b.1) (some (xk.put sign a.1 b.1,0)))
theorem Zh0:∀q up bg met,cq q up=some (bg,met)->Tz q up bg met
 | .yO s,up,bg,met,h=>by
  rw[cq]at h;obtain⟨h1,h⟩:=Gb h;simp only[oJ,oL]at h1;obtain⟨ts,h2,h⟩:=Dh h;refine .yO ts (ZAk h1.1) h1.2 h2 ?_;split at h
  ·rename_i hm;cases h;exact .inl ⟨hm,rfl,rfl⟩
  ·rename_i hm;exact .inr ⟨bK,Zz0 h⟩
 | .Ai l sign r,up,bg,met,h=>by
  rw[cq]at h;obtain⟨h1,h⟩:=Gb h;obtain⟨⟨a,m⟩,h2,h⟩:=Dh h;obtain⟨⟨b,n⟩,h3,h⟩:=Dh h;refine .Ai (Zh0 l up a m h2) (Zh0 r up b n h3) (ZSD h1) ?_;simp only at h;split at h
  ·rename_i hm;cases h;exact .inl ⟨hm,rfl,rfl⟩
  ·rename_i hm;obtain⟨h4,h⟩:=Gb h;cases h;exact .inr ⟨bK,ZQ8 h4,rfl,rfl⟩
def ZlY(q:PQ)(es:List PX)(fs:List xE)(m:Cx):Option (F7×Cx):=
 (CR (λe=>BM e fs) es).bind λrs=>E9 (decide (rs.length<=1000)&&decide (m.ix.wR.length<=90000)) (match m.ix.at_ (rs.map (·.1))with
  |some n=>(m.RU[n]?).map λa=>(a,m)
  |none=>E9 (decide (m.ix.keys.length<=90000)&&(decide (m.RU.length<=1000)&&(decide (0<m.room)&&decide (m.room<=200000)))) ((cq q fs).bind λr=>E9 (decide (r.1.rows.length<=1000)&&r.1.rows.all λx=>decide (x.length<=1000))
   (some ((!decide (r.1.rows.length=0),yC r.1.rows,r.2),⟨m.room-(1+((rs.map (·.1)).length:Int))-((yC r.1.rows).length:Nat),m.ix.number (rs.map (·.1)),m.RU++ [(!decide (r.1.rows.length=0),yC r.1.rows,r.2)]⟩))))
def Zsj{q}{m m':Cx}{a:F7}(h:ZlY q es fs m=some (a,m')):Yf q es fs m a m':=by
 obtain⟨rs,h1,h⟩:=Dh h;obtain⟨h2,h⟩:=Gb h;simp only[oJ,oL]at h2;cases e:m.ix.at_ (rs.map (·.1))with
 |some n=>
  rw[e]at h;obtain⟨a',h3,h⟩:=MU h;cases h;obtain⟨hn,rfl⟩:=qP.1 h3;exact .MX rs n h1 h2.1 h2.2 e hn
 |none=>
  rw[e]at h;obtain⟨h3,h⟩:=Gb h;simp only[oJ,oL]at h3;obtain⟨⟨bg,met⟩,h4,h⟩:=Dh h;obtain⟨h5,h⟩:=Gb h;simp only[oJ,oL,pR]at h5;cases h;exact .new rs bg met h1 h2.1 h2.2 h3.1 h3.2.1 e h3.2.2.1 h3.2.2.2 h5.1 h5.2 (Zh0 _ _ _ _ h4)
def tE(q:PQ)(es:List PX)(fs:List xE):PC->Cx->Option (Nat×Nat×Cx)
 | .zK,m=>(ZlY q es fs m).map λr=>(PO r.1.1,r.1.2.2,r.2)
 | .BK e s Ak,m=>(BM e fs).bind λx=>(ZlY q es fs m).bind λr=>E9 (decide (r.1.2.1.length<=1000)) (some (r.1.2.1.foldl (λt v=>LY Ak t (Ko s x.1 v)) (if Ak then 2 else 0),xG [x.2,r.1.2.2],r.2))
 | .xJ c,m=>(tE q es fs c m).bind λr=>E9 (decide (r.1<=2)) (some (2-r.1,r.2))
 |_,_=>none
theorem ZAv{q}:∀c m m' t e,tE q es fs c m=some (t,e,m')->Ru q es fs c m t e m'
 | .zK,m,m',t,e,h=>by
  rw[tE]at h;obtain⟨⟨a,m1⟩,h1,h⟩:=MU h;cases h;exact .ex (Zsj h1)
 | .BK x s al,m,m',t,e,h=>by
  rw[tE]at h;obtain⟨v,h0,h⟩:=Dh h;obtain⟨⟨a,m1⟩,h1,h⟩:=Dh h;obtain⟨h2,h⟩:=Gb h;cases h;exact .vs v h0 (Zsj h1) (qw h2)
 | .xJ c,m,m',t,e,h=>by
  rw[tE]at h;obtain⟨⟨t1,e1,m1⟩,h1,h⟩:=Dh h;obtain⟨h2,h⟩:=Gb h;cases h;exact .nt (ZAv c _ _ _ _ h1) (qw h2)
 | .always,m,m',t,e,h=>by rw[tE]at h<;>first|cases h|simp
 | .BS ..,m,m',t,e,h=>by rw[tE]at h<;>first|cases h|simp
 | .cmp ..,m,m',t,e,h=>by rw[tE]at h<;>first|cases h|simp
 | .Fy ..,m,m',t,e,h=>by rw[tE]at h<;>first|cases h|simp
def tsE(q:PQ)(es:List PX)(c:PC):List xE->Cx->Option (List ((Nat×Nat)×Cx))
 | [],_=>some []
 |f::r,m=>(tE q es [f] c m).bind λt=>(tsE q es c r t.2.2).map λl=>((t.1,t.2.1),t.2.2)::l
def VE(m:Cx)(l:List ((Nat×Nat)×Cx)):Nat->Cx
 |0=>m
 |i+1=>(l[i]?.map (·.2)).getD m
theorem ZAP{q}{c}:∀(fs:List xE) (m:Cx) (l:List ((Nat×Nat)×Cx)),tsE q es c fs m=some l->l.length=fs.length/\∀i (h:i<fs.length) (h':i<l.length),Ru q es [fs[i]] c (VE m l i) l[i].1.1 l[i].1.2 (VE m l (i+1))
 | [],m,l,h=>by rw[tsE]at h;cases h;exact⟨rfl,λi h=>ax⟩
 |f::r,m,l,h=>by
  rw[tsE]at h;obtain⟨⟨t,e,m1⟩,h1,h⟩:=Dh h;obtain⟨l1,h2,rfl⟩:=MU h;obtain⟨k1,k2⟩:=ZAP r m1 l1 h2;refine⟨by simp[k1],λi hi Ck=>?_⟩;cases i with
  |zero=>exact ZAv c m m1 t e h1
  |succ i=>
   have:=k2 i aN dW;have hs:VE m (((t,e),m1)::l1) (i+1)=VE m1 l1 i:=by
    cases i with
    |zero=>rfl
    |succ i=>
     have Gg:i<l1.length:=by simp at Ck;omega
     simp[VE,Gg]
   have Ay:VE m (((t,e),m1)::l1) (i+1+1)=VE m1 l1 (i+1):=by
    have Gg:i<l1.length:=dW
    simp[VE,Gg]
   rw[hs,Ay];exact this
def wiC(s:Aq)(q:PQ)(es:List PX):Option (xk×Nat):=
 E9 (Zqq s.yu&&decide ((zJ s).length<=64)) ((tsE q es s.Ee (zJ s) {}).bind λl=>if xG ((l.map (·.1)).map (·.2))≠0 then some ({},xG ((l.map (·.1)).map (·.2)))else Zkr s [] (DT (zJ s) ((l.map (·.1)).map (·.1))))
def ZUO{s}{q}(h:wiC s q es=some (bg,met)):T9 s.yu/\(zJ s).length<=64/\∃(st:Nat->Cx) (ts:List (Nat×Nat)),st 0={}/\ts.length=(zJ s).length/\(∀i (h:i<(zJ s).length) (h':i<ts.length),Ru q es [(zJ s)[i]] s.Ee (st i) ts[i].1 ts[i].2 (st (i+1)))/\
  ((xG (ts.map (·.2))≠0/\bg={}/\met=xG (ts.map (·.2)))\/(xG (ts.map (·.2))=0/\Nl s [] (DT (zJ s) (ts.map (·.1))) bg met)):=by
 obtain⟨h1,h⟩:=Gb h;simp only[oJ,oL]at h1;obtain⟨l,h2,h⟩:=Dh h;obtain⟨k1,k2⟩:=ZAP _ _ _ h2;refine⟨ZAk h1.1,h1.2,VE {} l,l.map (·.1),rfl,by simpa using k1,λi hi Ck=>?_,?_⟩
 ·have:=k2 i hi dW;exact nR
 ·split at h
  ·rename_i hm;cases h;exact .inl ⟨hm,rfl,rfl⟩
  ·rename_i hm;exact .inr ⟨bK,Zz0 h⟩
def ZdU.kt{a}(h:ZdU W a):KT Ig W a:=λg cu ty ht e=>h.cells g cu ty _ e (λhm=>iG)
def Wn.ZPA{b:Nat}{a}(h:vV W a)(hb:∃cu,W.heap[b]? =some (.cells cu 259)):Wn n0 S b W.heap.size W a:=by
 obtain⟨cb,hb⟩:=hb;exact⟨h.os,h.tape,h.output,h.size,λg ob hg _ e=>(h.block g hg).trans e,λhl=>h.block b hl,λg cu ty hg e hn _=>(h.block g hg).trans e⟩
def Ud(v:RQ)(q:PQ)(es:List PX)(m:Cx)(n:Nat)(W W2:World):Prop:=Wn v.n0 v.S v.b n W W2/\Mm v q es m W2
theorem Ud.below{v}{q}{m}{n}{a c}(h:Ud v q es m n W a)(hn:n<=a.heap.size)(hB:vV a c):Ud v q es m n W c:=⟨(Rp v q es λ_=>m).trans h.1 ((Rp v q es λ_=>m).mono ((Rp v q es λ_=>m).below hB) hn),h.2.below hB⟩
theorem Ud.set{v}{q}{m}{n}{a}{g k:Nat}{u:Value}(h:Ud v q es m n W a)(hng:n<=g)(hg:a.heap[g]? =some (.cells cu 463)):Ud v q es m n W (a.setCell ⟨g,k,none⟩ u):=by
 obtain⟨cb,hb⟩:=h.2.bs;have FW:=zV hb hg (λe=>ai);refine⟨⟨h.1.os,h.1.tape,h.1.output,by rw[Bf];exact h.1.size,λg' ob h1 h2 e=>Bb (h.1.low g' ob h1 h2 e) Z,λhl=>(uX _ _ _ _ FW).trans (h.1.yO hl),λg' BA ty hl e p1 p2=>?_⟩,h.2.set hg ae⟩;have h1:=h.1.cells g' BA ty hl e p1 p2;exact Bb h1 (zV h1 hg (λe2=>by cases e2;exact p1 ae))
def ZEg(v)(q)(es)(fs)(m m')(a)(W)(fb)(hs:Mm v q es m W)(hf:Ao W (M4 v.r) fs (vU fb))(h:Yf q es fs m a m'):
  Calls prog 441 #[vU v.r,vU v.w,vU fb] W (Ow W a.1 a.2.1 a.2.2 (Ud v q es m' W.heap.size W)):=by
 cases h with
 |MX rs n he hl AA hn h=>
  refine(ZDy v.n0 W v.r v.w fb m.room m.ix m.RU _ v.qv v.nv es fs rs n hs.run hl AA hn h hs.wi hs.ex hf he).mono ?_;rintro e W2 ⟨va,vc,rfl,hR⟩;refine⟨va,vc,rfl,hR.out.1,⟨Wn.ZPA hR.out.2.1 hs.bs,?_⟩,hR.out.2.2⟩;have QO:=hR.out.2.1;obtain⟨cb,hb⟩:=hs.bs;exact hs.below QO
 |new rs bg met he hl AA zl zQ hn LM Em hm A9 hq=>
  have UI:=hs.qi.bs;refine(ZDv v.n0 W v.r v.w fb m.room m.ix m.RU _ v.qv v.nv es fs rs bg met v.S (λV=>W.heap.size<=V.heap.size/\AX V q v.qv v.S/\∀(g:Nat) (cu:Array Value) (ty:TypeId),W.heap[g]? =some (.cells cu ty)->ty∉ [208,637,628]->g∉v.S->V.heap[g]? =some (.cells cu ty)) hs.lo hs.sn hs.run hl AA zl zQ hn LM Em hm A9 hs.wi hs.ex hf he ?_ ?_).mono ?_
  ·intro W' hk g hg;obtain⟨cu,hc,hi⟩:=UI g hg;exact⟨cu,hk.cells _ _ _ _ hc O,hi⟩
  ·intro W' hk;have hq':=hs.qi.wJ hk.kt (λg hg=>by obtain⟨cu,hc,_⟩:=UI g hg;exact(hk.cells _ _ _ _ hc O).trans hc.symm);refine(Zkl v.r q W' v.qv v.S fs (vU fb) bg met hq' (hf.same hk.kt.BV) hq).mono ?_;rintro e W1 ⟨bb,rfl,Ey,xu,MR⟩;refine⟨bb,rfl,Ey,xu,om hk.size xu.size,MR,λg cu ty e hn hS=>?_⟩;have h1:=hk.cells g cu ty _ e hn;exact(xu.block g (wo h1) hS).trans h1
  ·rintro e W4 ⟨va,vc,rfl,hR⟩;refine⟨va,vc,rfl,hR.out.1,?_,hR.out.2.2⟩;obtain⟨Ba,BQ,o1,o2,o3,V,⟨hz,hqV,hcV⟩,hz2,zP⟩:=hR.out.2.1;have hS:∀(g:Nat) (cu:Array Value) (ty:TypeId),W.heap[g]? =some (.cells cu ty)->(ty=259->g∉v.S)->g∉v.S:=λg cu ty e p hm=>by
    obtain⟨BA,hc,_⟩:=UI g hm;rw[hc]at e;cases e;exact p rfl hm
   have SC:=fun(g:Nat) (cu:Array Value) (ty:TypeId) (e:W.heap[g]? =some (.cells cu ty)) (p1:ty∉ [208,637,628,631,463]) (p2:(ty=259->g∉v.S))=>
    zP g cu ty _ (hcV g cu ty e (λhm=>p1 iH) (hS g cu ty e p2)) (λhm=>p1 iH)
   obtain⟨cb,hb⟩:=hs.bs;have GD:=SC v.b _ _ hb O (λ_=>hs.nb);have NP:KT PL W W4:=λg cu ty ht e=>SC g cu ty e (λhm=>by simp at hm;rcases hm with rfl|rfl|rfl|rfl|rfl<;>(revert ht;decide)) (λe2=>absurd ht (by subst e2;decide));have ZKS:KT PL V W4:=λg cu ty ht e=>zP g cu ty _ e (λhm=>iG);refine⟨⟨o1,o2,o3,om hz hz2,λg ob _ h2 e=>BQ g ob h2 e,λ_=>GD.trans hb.symm,λg cu ty _ e p1 p2=>SC g cu ty e p1 p2⟩,Ba,NP _ _ _ O hs.wi,hs.ex.EC NP,hqV.ZjV ZKS (λg hg=>?_),⟨cb,GD⟩,hs.nb,om hs.lo (om hz hz2),hs.sn⟩;obtain⟨cu,hc,_⟩:=hqV.bs g hg;exact(zP g cu _ _ hc O).trans hc.symm
def ZS8(v)(q)(es)(f0)(up):∀c m m' t e W f fb,Mm v q es m W->DC W (some v.w) c f->Ao W (M4 v.r) (f0::up) (vU fb)->Ru q es (f0::up) c m t e m'->
  ∃K cap,f= .func (.func K) #[] cap/\yH K/\Calls prog K (#[vU fb]++cap) W λe' W2=>e'= .returned (.tuple #[.int .i64 t,.int .i64 e])/\Ud v q es m' W.heap.size W W2:=by
 intro c m m' t e W f fb hs hc hf h;have hA:∀{a:F7} {m':Cx},Yf q es (f0::up) m a m'->∀W',vV W W'->Calls prog 441 #[vU v.r,vU v.w,vU fb] W' (Ow W' a.1 a.2.1 a.2.2 (λW2=>W.heap.size<=W2.heap.size/\Ud v q es m' W.heap.size W W2)):=by
  intro a m' ha W' hB;refine(ZEg v q es (f0::up) m m' a W' fb (hs.below hB) (hf.same (KT.vZ hB)) ha).mono ?_;rintro e W2 ⟨va,vc,rfl,hR⟩;have hX:=hR.out.2.1.1;exact⟨va,vc,rfl,hR.out.1,⟨om hB.size hX.size,(Rp v q es λ_=>m).trans ((Rp v q es λ_=>m).below hB) ((Rp v q es λ_=>m).mono hX hB.size),hR.out.2.1.2⟩,hR.out.2.2⟩
 induction h generalizing f with
 |ex h=>
  obtain⟨b,w,e0,rfl,hb⟩:=hc;cases e0;obtain⟨fb',rv,mv,av,sp,e1,QE,_⟩:=hf;cases e1;refine⟨_,_,rfl,Zuc,?_⟩;refine(ZFw W fb b v.w v.r rv mv av sp _ _ _ _ QE hb (hA h) (λa c h hB=>⟨om h.1 hB.size,h.2.below h.1 hB⟩) (λa g k cu u h hl hg=>⟨by rw[Bf];exact h.1,h.2.set hl hg⟩)).mono ?_;rintro e W2 ⟨rfl,hR⟩;exact⟨rfl,hR.2⟩
 |vs x hx h hl=>
  obtain⟨b,c,d,i,n,w,xv,z,e0,rfl,hb,hc,hd,hi,hn,hX,hJ⟩:=hc;cases e0;obtain⟨K1,c1,rfl,e1,k1⟩:=Yd _ _ W xv (f0::up) (vU fb) x hX hf hx;obtain⟨zb,rfl,hz⟩:=hJ;obtain⟨fb',rv,mv,av,sp,e1',QE,_⟩:=hf;cases e1';refine⟨_,_,rfl,Zui,?_⟩;refine(ZFP W fb b c d i n v.w v.r K1 zb c1 rv mv av sp _ _ _ x _ _ _ e1 QE hb hc hd hi hn hz (k1 W (nW _ _)) hl (hA h) (λa c h hB=>⟨om h.1 hB.size,h.2.below h.1 hB⟩) (λa g k cu u h hl hg=>⟨by rw[Bf];exact h.1,h.2.set hl hg⟩)).mono ?_;rintro e W2 ⟨rfl,hR⟩;exact⟨rfl,hR.2⟩
 |nt h ht ih=>
  obtain⟨b,x,rfl,hb,hc⟩:=hc;obtain⟨K1,c1,rfl,e1,k1⟩:=ih x hs hc hA;refine⟨_,_,rfl,ZmB,?_⟩;exact Ztw W (some ⟨fb,0,none⟩) b K1 c1 e1 _ _ ht hb _ k1
def ZRp(W)(v:RQ)(q)(es)(x)(s)(d)(st:Nat->Cx)(ts:List (Nat×Nat))(bg:xk)(met:Nat)(JL:Eg W v.b x s (some v.w) d)(yI:Mm v q es (st 0) W)(ok:T9 s.yu)(Fa:(zJ s).length<=64)(zW:ts.length=(zJ s).length)(AZ:∀i (h:i<(zJ s).length) (h':i<ts.length),Ru q es [(zJ s)[i]] s.Ee (st i) ts[i].1 ts[i].2 (st (i+1)))(hr:(xG (ts.map (·.2))≠0/\bg={}/\met=xG (ts.map (·.2)))\/(xG (ts.map (·.2))=0/\Nl s [] (DT (zJ s) (ts.map (·.1))) bg met)):
  Calls prog 50 #[vU v.r,.iface 211 (vU v.b),.pointer none] W λe W'=>∃bb,e= .returned (.tuple #[vU bb,.int .i64 met])/\CV W' bb bg/\Zbl (Rp v q es st) W v.b x s (some v.w) W':=by
 have zu:Ao W (M4 v.r) [] (.pointer none):=rfl;refine ZzL W v.r v.b [] (.pointer none) met (λbb W'=>CV W' bb bg/\Zbl (Rp v q es st) W v.b x s (some v.w) W') zu (λqq sp e=>?_);cases e;refine Zz7 (Rp v q es st) W v.b x s (some v.w) d [] none 135 (vU v.r) sp (ts.map (·.1)) (ts.map (·.2)) bg met JL ok rfl Fa cK cK (λW1 xu En=>?_) (λa c h hb=>Wn.yO (show Wn v.n0 v.S v.b a.heap.size a c from h) hb) ?_ hr (λt h=>h)
 ·obtain⟨_,qq,ev,yz,_⟩:=En;exact yI.move ⟨xu.size,λg ob e hn _=>(xu.block g (wo e) bO).trans e⟩ ⟨_,yz⟩
 ·intro W1 K cap xu En hx i hi W' fp hJ Dl hX;have hit:i<ts.length:=by omega
  obtain⟨fb,rv,mv,av,sp',rfl,_⟩:=id Dl;obtain⟨K',zY,e1,_,hc⟩:=ZS8 v q es (zJ s)[i] [] s.Ee (st i) (st (i+1)) _ _ W' x.wh fb hJ ((En.1.wh).same ((Rp v q es st).kt hX).BV) Dl (AZ i hi hit);rw[hx]at e1;cases e1;refine hc.mono ?_;rintro e W2 ⟨rfl,hR⟩;exact⟨fV,hR.1,hR.2⟩
end Go.Proofs.YtncnkiabjhhclaaGreatDoor
