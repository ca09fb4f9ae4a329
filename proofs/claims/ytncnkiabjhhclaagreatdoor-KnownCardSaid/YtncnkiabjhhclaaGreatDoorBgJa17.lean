import Derived.Test.YtncnkiabjhhclaaGreatDoorBgJa11
import Derived.Test.YtncnkiabjhhclaaGreatDoorBgKl
set_option maxRecDepth 100000
set_option maxHeartbeats 8000000
set_option linter.all false
namespace Go.Proofs.YtncnkiabjhhclaaGreatDoor
open Go.Proofs.Tryz
variable{Al:List (List (Value×Value))}{rows:List (List wG)}{gs:List (List xE)}{cs:List (Value×Value)}{S:List Nat}{ts:List TypeId}{xs zZ:List Value}{B sz:Nat}{wb:Option Nat}{W W' W0 w' wr:World}
def Z0B{p:Prop}(h:p:=by
 intro g cu ty ht Ea;have EK:ty=80:=dB
 subst EK;have xL:=(wo Ea);rw[hg.block g ah ?_,ow _ _ _ xL]
 ·exact Ea
 ·intro e1;rcases wD.2 with⟨rfl,_⟩|⟨g1,c1,u1,rfl,_,DK,_⟩
  ·cases e1
  ·cases e1;rw[DK]at Ea;cases Ea;exact he rfl):p:=h
open Go.RowKit
def Tryz.ZjR:(prog.info? 214).map (λi=>(i.zero,i.size,i.bytes))=some (some (.agg #[.slice none 0 0,.slice none 0 0]),2,48):=by kernel_rfl
def JW(W:World)(cs:List (Value×Value))(l:List xE):Prop:=cs.length=l.length/\∀i (h:i<cs.length) (h':i<l.length),xD W cs[i].1 l[i].row/\xD W cs[i].2 l[i].made
def G9(cs:List (Value×Value)):List Value:=cs.flatMap λc=> [c.1,c.2]
def Zic(a b):G9 (a++b)=G9 a++G9 b:=by simp[G9]
theorem Zuw:∀cs i (h:i<cs.length),(G9 cs)[i*2]? =some cs[i].1/\(G9 cs)[i*2+1]? =some cs[i].2
 |c::cs,0,h=>by simp[G9]
 |c::cs,i+1,h=>by
  have ih:=Zuw cs i ay;have e:∀j,(G9 (c::cs))[j+2]? =(G9 cs)[j]? :=λj=>by simp[G9]
  exact nD
theorem JW.same(h:KT Ig W W'){l}(he:JW W cs l):JW W' cs l:=
 ⟨he.1,λi h1 h2=>⟨(he.2 i h1 h2).1.same h O,(he.2 i h1 h2).2.same h O⟩⟩
def JW.snoc{l}{c:Value×Value}{f:xE}(h:JW W cs l)(h1:xD W c.1 f.row)(h2:xD W c.2 f.made):JW W (cs++ [c]) (l++ [f]):=by
 refine⟨by simp[h.1],λi hi Ck=>?_⟩;by_cases hlt:i<cs.length
 ·exact mZ
 ·have Gg:i=cs.length:=by simp at hi;omega
  subst Gg;have hl:=h.1;simp[hl,h1,h2]
def Zh6{v:Value}{l}(ho:W.ownsRow B 214 2 v cs.length (G9 cs))(he:JW W cs l)(hl:l.length<=100000):Cq W v l:=by
 rcases ho.2 with⟨rfl,h0⟩|⟨g,cap,cur,rfl,hb,hh,hc,hm,_⟩
 ·have:l.length=0:=by rw[<-he.1];exact h0
  exact⟨none,0,by rw[this],hl,λi hi=>Z⟩
 ·refine⟨_,cap,by rw[he.1],hl,λi hi=>?_⟩;have Ck:i<cs.length:=by rw[he.1];exact hi
  obtain⟨e1,e2⟩:=Zuw cs i Ck;have h1:=ho.cells (g:=g) rfl _ _ e1;have h2:=ho.cells (g:=g) rfl _ _ e2;rw[uY,o9]at h1 h2;exact⟨g,0,cur,_,_,rfl,hh,by rw[o9];exact h1,by rw[o9];exact h2,he.2 i Ck hi⟩
theorem Zyf{α:Type}:∀(l:List α) (ts:List Nat) k (h:k<l.length) (h':k<ts.length),DT (l.take (k+1)) (ts.take (k+1))=DT (l.take k) (ts.take k)++(if ts[k]=2 then[l[k]]else[])
 |a::l,t::ts,0,h,h'=>by simp only[List.take_succ_cons,List.take_zero,DT,List.getElem_cons_zero];split<;>rfl
 |a::l,t::ts,k+1,h,h'=>by
  have ih:=Zyf l ts k ay (by simpa using h');simp only[List.take_succ_cons,DT,List.getElem_cons_succ]at ih ⊢;rw[ih];split<;>simp
theorem Zye{α:Type}:∀(l:List α) ts,(DT l ts).length<=l.length
 | [],ts=>by simp[DT]
 |a::l, []=>by simp[DT]
 |a::l,t::ts=>by
  have:=Zye l ts;rw[DT];split<;>simp<;>omega
def Zbx{n}{w0}{w1:World}{o:Obj}{e:TypeId}{m:Nat}{v:Value}(hB:Below n w0 wr)(hn:n<=wr.heap.size)(wD:wr.ownsRow n e sz v m xs)(hg:(wr.alloc o).grownBy w1 v.ownBlock):Below n w0 w1:=
 (hB.alloc hn o).grown hg ah (λk e=>(wD.lt k e).1)
def ZzN(w:World)(n)(a b){ty:TypeId}(hn:w.heap.size=n):∀j u, [a,b][j]? =some u->(w.alloc (.cells #[a,b] ty)).cell? ((⟨n,0,none⟩:Addr).add j)=some u:=by
 subst hn;exact vg
def Zt6(M:Md)(W)(l:List xE)(lv)(q:Option Addr)(nt:TypeId)(ny:Value)(up)(sp:Bool)(K)(cap:Array Value)(ts ms:List Nat)(Fa:l.length<=64)(Hu:ms.length=l.length)(zW:ts.length=l.length)(hE:yH K)(hl:Cq W lv l)(zu:Ao W (.iface nt ny) up (.pointer q))(hJ:M.J 0 W)(BC:∀(i:Nat) (hi:i<l.length) (W':World) (fp:Value),M.J i W'->Ao W' (.iface nt ny) (l[i]::up) fp->M.X W.heap.size W W'->Calls prog K (#[fp]++cap) W' λe W2=>e= .returned (.tuple #[.int .i64 (ts.getD i 0),.int .i64 (ms.getD i 0)])/\M.X W'.heap.size W' W2/\M.J (i+1) W2)(hL:∀t∈ [396,47,218],t∈M.L:=by first|assumption|(intro t h;revert t;decide)):
  Calls prog 124 #[.agg #[.slice none 0 0,.slice none 0 0,.pointer q,.iface nt ny,.bool sp],lv,.func (.func K) #[] cap] W λe W'=>∃rv,e= .returned (.tuple #[rv,.int .i64 (xG ms)])/\Cq W' rv (DT l ts)/\M.X W.heap.size W W'/\M.J l.length W':=by
 have HEA:=vR (λW1 (hB:vV W W1)=>ZG3 M W1 l lv q nt ny up sp K cap ms (λi v _=>v= .int .i64 (ts.getD i 0)) Fa Hu hE (hl.same (KT.vZ hB)) (zu.same (KT.vZ hB)) (M.jb hJ hB) (λ_ _ _ _ _ h=>h) (λ_ _ _ _ _ _ _ _ h _ _=>h)
  (λi hi W' fp h1 h2 h3=>(BC i hi W' fp h1 h2 (M.trans (M.below hB) (M.mono h3 hB.size))).mono (λe W2 ⟨e1,e2,e3⟩=>⟨_,e1,⟨_,rfl⟩,rfl,e2,e3⟩)))
 have HL:=vR hl;obtain⟨la,lc,rfl,zQ,_⟩:=hl;obtain⟨i0,zB,hz0,yo,hz2⟩:=oM Tryz.ZjR;clear zu hJ BC hE;go_enter func124,ntmps124;go_wp2_with fail;have yx:vV W (W.alloc (.cells #[.slice none 0 0,.slice none 0 0,.pointer q,.iface nt ny,.bool sp] 218)):=(nW _ W).alloc (nV _) _;refine(HEA.out _ yx).mono ?_;rintro e w1 ⟨g1,Au,rfl,OZ,hJ1,yU,CZ,UN⟩;have hXW:=M.trans (M.below yx) (M.mono OZ yx.size);have HX:=vR (oG hXW hJ1);have HLw:=vR (HL.out.same (M.kt hXW));have HP:=vR CZ;have KV:∀i (h:i<l.length),w1.cell? ⟨g1,i,none⟩=some (.int .i64 (ts.getD i 0)):=λi h=>by
  obtain⟨v,h1,h2⟩:=CZ i h;simp only[World.cell?,yU,h1,h2];rfl
 have ZKs:=(wo yU);clear HEA yx OZ hJ1 yU CZ UN hXW HP HL;go_wp2_with fail;go_loopg [10,22] (l.length+1) (λgk v iv wr=>∃(k:Nat) (cs:List (Value×Value)),k<=l.length/\gk=l.length-k+1/\iv= .int .i64 k/\wr.ownsRow w1.heap.size 214 2 v cs.length (G9 cs)/\vV w1 wr/\cs.length<=k/\Hid (JW w1 cs (DT (l.take k) (ts.take k))));case atStart=>exact⟨0, [],Z,Z,rfl,⟨rfl,.inl ⟨rfl,rfl⟩⟩,nW _ _,nV _,⟨by simp[DT],λi h=>ax⟩⟩
 case round=>
  obtain⟨k,cs,hk,rfl,rfl,wD,hB,zM,he⟩:=hrel;by_cases hlt:k<l.length
  ·obtain⟨a',c',ee,_,hx⟩:=HLw.out;cases ee;obtain⟨g,o,cu,rv,mv,rfl,hg,c0,c1,Bt,Hy⟩:=hx k hlt;have xL:=(wo hg);have d0:=wT hB xL c0;have d1:=wT hB xL c1;have dt:=wT hB ZKs (KV k hlt);have Mg:=vR Bt;have YA:=vR Hy;obtain⟨ra,rc,rfl,_⟩:=Bt;obtain⟨ma,mc,rfl,_⟩:=Hy;have NP:k<ts.length:=by omega
   have HS:Hid (DT (l.take (k+1)) (ts.take (k+1))=DT (l.take k) (ts.take k)++(if ts.getD k 0=2 then[l[k]]else[])):=by
    show _=_;rw[Zyf l ts k hlt NP,qI,oW NP];rfl
   have dgl:g<wr.heap.size:=by have:=hB.size;omega
   have dg1:g1<wr.heap.size:=by have:=hB.size;omega
   have dtA:=λob=>(oD wr ob ⟨g1,k,none⟩ dg1).trans dt;clear hx c0 c1 hg;generalize C9:ts.getD k 0=tk at *;have hs:=hB.size;by_cases h2:tk=2
   ·subst h2;have SN:=λob=>wD.alloc ob;have zA:=λob=>hB.alloc hB.size ob;go_wp2_with (at_builtin;go_must (refine pE _ rfl _ _ 257 rfl w1.heap.size 214 i0 (.agg #[.slice none 0 0,.slice none 0 0]) 2 48 underlying257 zB hz0 yo hz2 rfl O _ _ _ rfl ((wD.alloc _).alloc _) ⟨wr.heap.size+1,0,none⟩ 1 1 [.slice ra l[k].row.length rc,.slice ma l[k].made.length mc] rfl rfl (ZzN _ _ _ _ ae) au aj Z ah ?_);intro v' w6 zm xQ _);go_roundg (l.length-(k+1)+1);case measure=>omega
    case rel=>
     have Gf:=Zbx (zA _) ah (SN _) xQ;refine⟨k+1,cs++ [(.slice ra l[k].row.length rc,.slice ma l[k].made.length mc)],Z,rfl,ak,?_,Gf,ah,?_⟩
     ·rw[o6,Zic];exact zm
     ·rw[HS.out];simp only[pX];exact he.out.snoc Mg.out YA.out
   ·have h20:((tk:Int)==2)=false:=by simp;omega
    have OE:Hid (DT (l.take (k+1)) (ts.take (k+1))=DT (l.take k) (ts.take k)):=by show _=_;rw[HS.out,nU h2,sD]
    clear C9 HS;go_wp2_with fail;all_goals first
     |(exfalso;omega)
     |(go_roundg (l.length-(k+1)+1)
       case measure=>omega
       case rel=>exact⟨k+1,cs,Z,rfl,ak,wD.alloc _,hB.alloc hB.size _,Z,by rw[OE.out];exact he.out⟩)
  ·obtain rfl:k=l.length:=by omega
   have HEN:Hid (Cq wr u10 (DT l ts)):=by
    have h2:=he.out;rw[oO (nV _),oO Z]at h2;exact Zh6 wD (h2.same (KT.vZ hB)) (by have:=Zye l ts;omega)
   have HXF:Hid (M.X W.heap.size W wr/\M.J l.length wr):=⟨M.trans HX.out.1 (M.mono (M.below hB) (M.size HX.out.1)),M.jb HX.out.2 hB⟩;obtain⟨xa,xc,rfl⟩:∃a c,u10= .slice a cs.length c:=by
    rcases wD.2 with⟨rfl,h0⟩|⟨g,cap,cur,rfl,_⟩
    ·exact⟨none,0,bB⟩
    ·exact⟨_,_,rfl⟩
   clear he wD;go_wp2_with fail;go_ret2;exact⟨_,rfl,HEN.out,HXF.out.1,HXF.out.2⟩
def Mk(W:World)(vs:List Value)(rows:List (List wG)):Prop:=vs.length=rows.length/\∀i (h:i<vs.length) (h':i<rows.length),xD W vs[i] rows[i]/\(rows[i]= []->vs[i]= .slice none 0 0)
def Mk.below{vs}(h:Mk W vs rows)(hB:vV W W'):Mk W' vs rows:=⟨h.1,λi h1 h2=>⟨(h.2 i h1 h2).1.J7 hB,(h.2 i h1 h2).2⟩⟩
def Mk.snoc{vs}{v}{r}(h:Mk W vs rows)(h1:xD W v r)(h2:r= []->v= .slice none 0 0):Mk W (vs++ [v]) (rows++ [r]):=by
 refine⟨by simp[h.1],λi hi Ck=>?_⟩;by_cases hlt:i<vs.length
 ·exact mZ
 ·have Gg:i=vs.length:=by simp at hi;omega
  subst Gg;have hl:=h.1;simpa[hl,h1]using h2
def YM(W:World)(v:Value)(rows:List (List wG)):Prop:=∃B vs,W.ownsRow B 78 1 v rows.length vs/\Mk W vs rows
def YM.get{v}(h:YM W v rows)(i)(hi:i<rows.length):∃g c cu rv,v= .slice (some ⟨g,0,none⟩) rows.length c/\W.heap[g]? =some (.cells cu 78)/\W.cell? ⟨g,i,none⟩=some rv/\Zd1 W rv rows[i]:=by
 obtain⟨B,vs,h1,h2⟩:=h;have hiv:i<vs.length:=by rw[h2.1];exact hi
 rcases h1.2 with⟨_,h0⟩|⟨g,c,cu,rfl,_,hg,_⟩
 ·omega
 ·have hc:=h1.cells (g:=g) rfl i vs[i] ae;rw[uY,o9]at hc;exact⟨g,c,cu,vs[i],rfl,hg,hc,h2.2 i hiv hi⟩
def Zd1.below{v}{vs}(h:Zd1 W v vs)(hB:vV W W'):Zd1 W' v vs:=⟨h.1.J7 hB,h.2⟩
def FN.get{v}(h:FN W v rows)(i)(hi:i<rows.length):∃g o c rv,v= .slice (some ⟨g,o,none⟩) rows.length c/\g<W.heap.size/\W.cell? ⟨g,o+i,none⟩=some rv/\xD W rv rows[i]:=by
 obtain⟨a,c,rfl,_,_,h3⟩:=h;obtain⟨g,o,cu,rv,rfl,hg,hc,hv⟩:=h3 i hi;exact⟨g,o,c,rv,rfl,(wo hg),hc,hv⟩
def Mk.XC{w6:World}{vs}{e n:Nat}{v:Value}{o:Obj}(h:Mk W vs rows)(wD:W.ownsRow B e sz v n xs)(hg:(W.alloc o).grownBy w6 v.ownBlock)(he:e≠80:=by decide):Mk w6 vs rows:=by
 refine⟨h.1,λi h1 h2=>⟨?_,(h.2 i h1 h2).2⟩⟩;refine xD.same (ts:= [80]) ?_ ae (h.2 i h1 h2).1;exact Z0B
def VA(ls rs:List (List wG)):List (List wG):=ls.flatMap λl=>rs.map λr=>l++r
def ZSC(ls rs:List (List wG))(k)(h:k<ls.length):VA (ls.take (k+1)) rs=VA (ls.take k) rs++rs.map λr=>ls[k]++r:=by
 unfold VA;rw[o8 h,rQ];simp
def ZOJ(l)(rs:List (List wG))(k)(h:k<rs.length):(rs.take (k+1)).map (λr=>l++r)=(rs.take k).map (λr=>l++r)++ [l++rs[k]]:=by
 rw[o8 h,oo];rfl
def ZIv(W)(lv rv)(ls rs)(hl:YM W lv ls)(hr:FN W rv rs)(zQ:ls.length<=1000)(A9:rs.length<=1000)(wF:∀r∈rs,0<r.length)(hm:∀l∈ls,∀r∈rs,l.length+r.length<=1000):
  Calls prog 186 #[lv,rv] W λe W'=>∃v,e= .returned v/\YM W' v (VA ls rs)/\vV W W':=by
 have HL:=vR hl;have HR:=vR hr;obtain⟨LB,lvs,Aw,hlr⟩:=hl;obtain⟨la,lc,rfl⟩:=yN Aw;obtain⟨ra,rc,rfl,_,_,BR⟩:=hr;obtain⟨i0,zB,hz0,yo,hz2⟩:=oM Tryz.ZjS;have HM:=vR hm;have Mc:=vR wF;clear BR hlr Aw hm wF;go_enter func186,ntmps186;go_wp2_with fail;go_loopg [5,12] (ls.length+1) (λgk v iv wr=>∃(k:Nat) (vs:List Value),k<=ls.length/\gk=ls.length-k+1/\iv= .int .i64 k/\wr.ownsRow W.heap.size 78 1 v vs.length vs/\vV W wr/\vs.length<=k*1000/\Hid (Mk wr vs (VA (ls.take k) rs)));case atStart=>exact⟨0, [],Z,Z,rfl,⟨rfl,.inl ⟨rfl,rfl⟩⟩,nW _ _,ae,⟨rfl,λi h=>ax⟩⟩
 case round=>
  obtain⟨k,vs,hk,rfl,rfl,wD,hB,AA,he⟩:=hrel;by_cases hlt:k<ls.length
  ·obtain⟨lg,lc',lcu,lw,e1,ZV,hlc,JH⟩:=HL.out.get k hlt;have hlg:=(wo ZV);clear ZV;cases e1;have d0:=wT hB hlg hlc;have HLW:=vR JH;obtain⟨⟨xa,xc,rfl,_⟩,_⟩:=JH;clear hlc;go_wp2_with fail;have hBo:=vR hB;have ZXp:=vR he.out.1;go_loopg [5,18] (rs.length+1) (λgk v iv wq=>∃(j:Nat) (us:List Value),j<=rs.length/\gk=rs.length-j+1/\iv= .int .i64 j/\wq.ownsRow W.heap.size 78 1 v us.length us/\vV W wq/\us.length<=k*1000+j/\Hid (Mk wq us (VA (ls.take k) rs++(rs.take j).map (λr=>ls[k]++r))));case atStart=>exact⟨0,vs,Z,Z,rfl,wD,hBo.out,Z,vR (by simpa using he.out)⟩
   case round=>
    obtain⟨j,us,hj,rfl,rfl,zI,wK,hul,O5⟩:=hrel;have Pp:=wK.size;by_cases hjt:j<rs.length
    ·obtain⟨rg,ro,rc',rw',e2,hrg,hrc,Bt⟩:=HR.out.get j hjt;cases e2;have d1:=wT wK hrg hrc;have Mg:=vR (Bt.J7 wK);have ZCo:=vR (HLW.out.below wK);have LM:=Mc.out _ (oC hjt);have Zw1:=HM.out _ (oC hlt) _ (oC hjt);obtain⟨ya,yc,rfl,_⟩:=Bt;have hA:vV wr (wr.alloc (.cells #[.slice xa ls[k].length xc,.slice ya rs[j].length yc] 78)):=(nW _ _).alloc (nV _) _;have HC:=vR (ZIn _ wr.heap.size _ _ _ _ (xI wr _) (ZCo.out.below hA) (Mg.out.J7 hA) LM Zw1);clear hrc LM Zw1;go_wp2_with fail;refine HC.out.mono ?_;rintro e w2 ⟨v,rfl,hv,wH⟩;have xw:=hA.trans (wH.mono hA.size);have Gi:=zC zI xw;have HRL:=vR ((O5.out.below xw).snoc hv (λe=>absurd (congrArg List.length e) (by simp;have:=Mc.out _ (oC hjt);intro _ h;rw[h]at this;simp at this)));obtain⟨va,vc,rfl,_⟩:=hv;have ZoW:=xw.size;have yl:=wK.trans (xw.mono Pp);clear wH hA HC zI O5;go_wp2_with (at_builtin;go_must (refine pE _ rfl _ _ 67 rfl W.heap.size 78 i0 (.slice none 0 0) 1 24 underlying67 zB hz0 yo hz2 rfl O _ _ _ rfl (Gi.alloc _) ⟨w2.heap.size,0,none⟩ 1 1 [.slice va (ls[k]++rs[j]).length vc] rfl rfl (λj u h=>iC) au aj Z ah ?_);intro v' w6 zm xQ _);go_roundg (rs.length-(j+1)+1);case measure=>omega
     case rel=>
      have zA:=(nW w2.heap.size w2).alloc (nV _) (.cells #[.slice va (ls[k]++rs[j]).length vc] 78);refine⟨j+1,us++ [.slice va (ls[k]++rs[j]).length vc],Z,rfl,ak,dm,Zbx yl Z Gi xQ,ah,?_⟩;rw[ZOJ _ _ _ hjt,<-oI];exact Mk.XC HRL.out Gi xQ
    ·obtain rfl:j=rs.length:=by omega
     have HF:Hid (Mk wr us (VA (ls.take (k+1)) rs)):=by
      have h2:=O5.out;rw[oO (nV _)]at h2;rw[ZSC _ _ _ hlt];exact h2
     clear O5 he;go_wp2_with fail;go_roundg (ls.length-(k+1)+1);case measure=>omega
     case rel=>exact⟨k+1,us,Z,rfl,ak,zI,wK,Z,HF.out⟩
  ·obtain rfl:k=ls.length:=by omega
   have HF:Hid (YM wr u5 (VA ls rs)):=by
    have h2:=he.out;rw[oO (nV _)]at h2;exact⟨W.heap.size,vs,by rw[<-h2.1];exact wD,h2⟩
   obtain⟨xa,xc,hxv⟩:=yN wD;subst hxv;clear wD he;go_wp2_with fail;go_ret;exact⟨_,rfl,HF.out,hB⟩
def Ua(W:World)(v:Value)(yu:List (List (List wG))):Prop:=∃a cap,v= .slice a yu.length cap/\yu.length<=3/\∀i (h:i<yu.length),∃g o cu tb cv pv rv,a=some ⟨g,o,none⟩/\W.heap[g]? =some (.cells cu 88)/\W.cell? ⟨g,o+i,none⟩=some (vU tb)/\W.heap[tb]? =some (.cells #[cv,pv,rv] 232)/\FN W rv yu[i]
theorem FN.same(h:KT ts W W')(h1:78∈ts)(h2:80∈ts){v}(hv:FN W v rows):FN W' v rows:=by
 obtain⟨a,cap,rfl,e1,e2,h3⟩:=hv;refine⟨a,cap,rfl,e1,e2,λi hi=>?_⟩;obtain⟨g,o,cu,rv,e,ho,hc,hr⟩:=h3 i hi;have:=h g cu _ h1 ho;exact⟨g,o,cu,rv,e,this,yP (this.trans ho.symm) hc,hr.same h h2⟩
def Ua.same(h:KT Ig W W'){v}{yu}(hv:Ua W v yu):Ua W' v yu:=by
 exact lW
def T9(yu:List (List (List wG))):Prop:=∀k (h:k<yu.length),(Ep (yu.take k)).length<=1000/\yu[k].length<=1000/\(∀r∈yu[k],0<r.length)/\∀l∈Ep (yu.take k),∀r∈yu[k],l.length+r.length<=1000
def ZQ6(yu:List (List (List wG)))(k)(h:k<yu.length):Ep (yu.take (k+1))=VA (Ep (yu.take k)) yu[k]:=by
 unfold Ep;exact ng
def ZOw(W:World):YM (W.alloc (.cells #[Value.slice none 0 0] 78)) (.slice (some ⟨W.heap.size,0,none⟩) 1 1) [[]]:=by
 refine⟨W.heap.size, [.slice none 0 0],⟨rfl,.inr ⟨W.heap.size,1,_,rfl,nV _,xI W _,nV _,aj,rfl,rfl⟩⟩,rfl,λi h1 h2=>?_⟩;have:i=0:=by simp at h2;exact h2
 subst this;exact⟨⟨none,0,rfl,ae,Z,λi hi=>dD⟩,λ_=>rfl⟩
def ZO1(W)(x b)(cu)(sv)(yu)(hx:W.heap[x]? =some (.cells #[vU b] 211))(hb:W.heap[b]? =some (.cells cu 259))(yA:cu.size=12)(h1:cu[1]? =some sv)(h11:cu[11]? =some (.slice none 0 0))(hs:Ua W sv yu)(ok:T9 yu)(Br:(Ep yu).length<=1000):
  Calls prog 185 #[.pointer (some ⟨x,0,none⟩)] W λe W'=>e= .returned (.tuple #[])/\∃ev,W'.heap[b]? =some (.cells (cu.setIfInBounds 11 ev) 259)/\Cq W' ev ((Ep yu).map λr=>⟨r, []⟩)/\Ox [b] W W':=by
 have HS:=vR hs;have ET:=vR ok;have Dx:=(wo hx);have zi:=(wo hb);have cx:W.cell? ⟨x,0,none⟩=some (.pointer (some ⟨b,0,none⟩)):=by simp[World.cell?,hx,vU]
 have cb1:W.cell? ⟨b,1,none⟩=some sv:=by simp[World.cell?,hb,h1]
 have ZtB:W.cell? ⟨b,11,none⟩=some (.slice none 0 0):=by simp[World.cell?,hb,h11]
 obtain⟨sa,sc,rfl,hsl,_⟩:=hs;have Bj:=hb;obtain⟨i0,zB,hz0,yo,hz2⟩:=oM Tryz.ZjR;clear ok;go_enter func185,ntmps185;go_wp2_with fail;go_loopg [1,12] (yu.length+1) (λgk v iv wr=>∃(k:Nat),k<=yu.length/\gk=yu.length-k+1/\iv= .int .i64 k/\vV W wr/\YM wr v (Ep (yu.take k)));case atStart=>exact⟨0,Z,Z,rfl,(nW _ _).alloc (nV _) _,ZOw W⟩
 case round=>
  obtain⟨k,hk,rfl,rfl,hB,hL⟩:=hrel;have ZW2:=hB.size;by_cases hlt:k<yu.length
  ·obtain⟨a',c',ee,_,h3⟩:=HS.out;cases ee;obtain⟨g,o,cg,tb,cv,pv,rv,rfl,hg,hc,ht,hr⟩:=h3 k hlt;have d0:=wT hB (wo hg) hc;have d1:wr.cell? ⟨tb,2,none⟩=some rv:=wT hB (wo ht) (KG ht);obtain⟨o1,o2,o3,o4⟩:=ET.out k hlt;have HC:=vR (ZIv wr u1 rv _ _ hL (hr.below hB) o1 o2 o3 o4);rw[<-ZQ6 _ _ hlt]at HC;obtain⟨LB,lvs,Aw,_⟩:=hL;obtain⟨xa,xc,rfl⟩:=yN Aw;obtain⟨ra,rc,rfl,_⟩:=hr;unfold vU at d0;clear h3 hc hg ht o1 o2 o3 o4 Aw;go_wp2_with fail;refine HC.out.mono ?_;rintro e w2 ⟨v,rfl,hv,wH⟩;go_wp2_with fail;go_roundg (yu.length-(k+1)+1);case measure=>omega
   case rel=>exact⟨k+1,Z,rfl,ak,hB.trans (wH.mono hB.size),hv⟩
  ·obtain rfl:k=yu.length:=by omega
   rw[oO (nV _)]at hL;have HL:=vR hL;obtain⟨LB,lvs,Aw,_⟩:=hL;obtain⟨xa,xc,rfl⟩:=yN Aw;have e0':=wT hB Dx cx;have e1:=wT hB zi ZtB;have Af:=(hB.block b zi).trans hb;clear Aw cx cb1 ZtB hb;have ZfS:cu.setIfInBounds 11 (.slice none 0 0)=cu:=by
    apply Array.ext_getElem?;intro i;rw[uK];split
    ·next h=>subst h;rw[h11,nY Z]
    ·rfl
   have O8:b<wr.heap.size:=Z
   have hlx:x<wr.heap.size:=Z
   have hxb:x≠b:=λe=>by subst e;rw[hx]at Bj;cases Bj
   have x8:=vR hB;clear hx;go_wp2_with fail;obtain⟨wz,N9⟩:∃w1,w1=wr:=⟨_,rfl⟩;go_loopg [25] ((Ep yu).length+1) (λgk iv wq=>∃(k:Nat) (v:Value) (cs:List (Value×Value)),k<=(Ep yu).length/\gk=(Ep yu).length-k+1/\iv= .int .i64 k/\wq.ownsRow wz.heap.size 214 2 v cs.length (G9 cs)/\wq.heap[b]? =some (.cells (cu.setIfInBounds 11 v) 259)/\Ox [b] wz wq/\cs.length=k/\Hid (JW wz cs (((Ep yu).take k).map λr=>⟨r, []⟩)));case atStart=>exact⟨0,.slice none 0 0, [],Z,Z,rfl,⟨rfl,.inl ⟨rfl,rfl⟩⟩,by rw[ZfS];exact Af,by rw[N9];exact Ox.refl _ _,rfl,⟨rfl,λi h=>ax⟩⟩
   case round=>
    subst N9;obtain⟨k,v,cs,hk,rfl,rfl,wD,Xk,xu,zM,he⟩:=hrel;have En:=xu.size;by_cases hlt:k<(Ep yu).length
    ·obtain⟨lg,lc',lcu,lw,e1,ZV,hlc,JH⟩:=HL.out.get k hlt;have hlg:=(wo ZV);cases e1;have GH:lg≠b:=λe=>by subst e;rw[Af]at ZV;cases ZV
     have d0:=yP (xu.block lg hlg (by simpa using GH)) hlc;have dx:=yP (xu.block x hlx (by simpa using hxb)) e0';have d11:wr.cell? ⟨b,11,none⟩=some v:=by simp[World.cell?,Xk,yA]
     have df:wr.frozen? ⟨b,11,none⟩=false:=by simp[World.frozen?,Xk]
     have HLV:=vR JH;obtain⟨⟨ya,yc,rfl,_⟩,_⟩:=JH;clear hlc ZV;have ZKV:b<wr.heap.size:=Z
     have ZK2:x<wr.heap.size:=Z
     obtain⟨va,vc,Jj⟩:=yN wD;subst Jj;rw[zM]at wD d11 Xk;have dxA:=λo=>(oD wr o ⟨x,0,none⟩ ZK2).trans dx;have ZWq:=λo=>(oD wr o ⟨b,11,none⟩ ZKV).trans d11;have Le:=vR wD;have Za3:=vR (oG Xk (oG xu he.out));have Gt:Hid (∀g c w',w'.ownsRow wz.heap.size 214 2 (.slice (some ⟨g,0,none⟩) (k+1) c) (k+1) (G9 cs++ [.slice ya (Ep yu)[k].length yc,.slice none 0 0])->(wr.alloc (.cells #[.slice ya (Ep yu)[k].length yc,.slice none 0 0] 214)).grownBy w' (Value.slice va k vc).ownBlock->(w'.cell? ⟨x,0,none⟩=some (.pointer (some ⟨b,0,none⟩))/\w'.cell? ⟨b,11,none⟩=some (.slice va k vc)/\w'.frozen? ⟨b,11,none⟩=false)/\(w'.setCell ⟨b,11,none⟩ (.slice (some ⟨g,0,none⟩) (k+1) c)).ownsRow wz.heap.size 214 2 (.slice (some ⟨g,0,none⟩) (k+1) c) (k+1) (G9 cs++ [.slice ya (Ep yu)[k].length yc,.slice none 0 0])/\(w'.setCell ⟨b,11,none⟩ (.slice (some ⟨g,0,none⟩) (k+1) c)).heap[b]? =some (.cells (cu.setIfInBounds 11 (.slice (some ⟨g,0,none⟩) (k+1) c)) 259)/\Ox [b] wz (w'.setCell ⟨b,11,none⟩ (.slice (some ⟨g,0,none⟩) (k+1) c))):=by
      intro g c w' ho hg;have wF:∀y,y<wz.heap.size->some y≠(Value.slice va k vc).ownBlock:=λy hy e=>by
       have:=(Le.out.lt y e.symm).1;omega
      have CK:=λy (hy:y<wz.heap.size)=>(hg.block y ah (wF y hy)).trans (ow _ _ _ Z);have yX:=(CK b O8).trans Za3.out.1;have ZKw:some b≠(Value.slice (some ⟨g,0,none⟩) (k+1) c).ownBlock:=λe=>by
       have:=(ho.lt b e.symm).1;omega
      refine⟨⟨?_,?_,?_⟩,Ia ho ZKw,?_,?_⟩
      ·exact yP (CK x hlx) dx
      ·exact yP (CK b O8) d11
      ·simp[World.frozen?,yX]
      ·have:=zD (k:=11) (u:=.slice (some ⟨g,0,none⟩) (k+1) c) yX;exact nR
      ·have IK:Ox [b] wz w':=⟨hg.os.trans Za3.out.2.1.os,hg.tape.trans Za3.out.2.1.tape,hg.output.trans Za3.out.2.1.output,by have:=hg.size;simp at this;omega,λy h1 h2=>(CK y h1).trans (Za3.out.2.1.block y h1 h2)⟩;exact IK.trans ⟨rfl,rfl,rfl,by simp[Bf],λy h1 h2=>uX w' ⟨b,11,none⟩ _ y (λe=>h2 bS)⟩
     clear Xk xu he;go_wp2_with fail;go_region_law
      (first
       |(refine qz _ rfl _ _ 257 rfl wz.heap.size 214 i0 (.agg #[.slice none 0 0,.slice none 0 0]) 2 48 underlying257 zB hz0 yo hz2 rfl O (.slice va k vc) k (G9 cs) rfl (Zmy (Le.out.alloc _)) ⟨wr.heap.size,0,none⟩ 1 1 [.slice ya (Ep yu)[k].length yc,.slice none 0 0] rfl rfl (ZpZ _ _ _ _ rfl) au Z aj Z ah _ rfl ?_;intro g6 c6 w6 DN O7 _ _;obtain⟨⟨y0,y1,y2⟩,SG⟩:=Gt.out g6 c6 w6 DN (Zmx O7)))
     all_goals
      go_wp2_with fail;go_roundg ((Ep yu).length-(k+1)+1);case measure=>omega
      case rel=>
       refine⟨k+1,_,cs++ [(.slice ya (Ep yu)[k].length yc,.slice none 0 0)],Z,rfl,ak,?_,SG.2.1,SG.2.2,by simp[zM],?_⟩
       ·rw[o6,Zic,zM];exact SG.1
       ·rw[o8 hlt,oo];exact Za3.out.2.2.snoc HLV.out.1 ⟨none,0,rfl,ae,Z,λi hi=>dD⟩
    ·obtain rfl:k=(Ep yu).length:=by omega
     have HF:Hid (Cq wr v ((Ep yu).map λr=>⟨r, []⟩)):=by
      have h2:=he.out;rw[oO (nV _)]at h2;refine Zh6 wD ⟨h2.1,λi h1 h3=>?_⟩ ah;have Jh:∀g∈ [b],∀cu,wz.heap[g]?≠some (.cells cu 80):=λg hg BA e=>by
       have:g=b:=bJ
       subst this;rw[Af]at e;cases e
      exact⟨(h2.2 i h1 h3).1.ox xu Jh,(h2.2 i h1 h3).2.ox xu Jh⟩
     go_wp2_with fail;go_end0;refine⟨rfl,v,Xk,HF.out,(Ox.vZ x8.out).trans xu⟩
def Tw(W:World)(v:Value)(l:List (vS×PX)):Prop:=∃a cap,v= .slice a l.length cap/\l.length<=1000/\∀i (h:i<l.length),∃g o cu f,a=some ⟨g,o,none⟩/\W.heap[g]? =some (.cells cu 402)/\W.cell? ⟨g,o+i*2,none⟩=some (.string ⟨l[i].1.toArray⟩)/\W.cell? ⟨g,o+i*2+1,none⟩=some f/\zz W l[i].2 f
theorem Tw.same(h:KT Ig W W'){v}{l}(hv:Tw W v l):Tw W' v l:=by
 obtain⟨a,cap,rfl,h1,h3⟩:=hv;refine⟨a,cap,rfl,h1,λi hi=>?_⟩;obtain⟨g,o,cu,f,e,ho,hc,hd,hf⟩:=h3 i hi;have:=h g cu _ O ho;exact⟨g,o,cu,f,e,this,yP (this.trans ho.symm) hc,yP (this.trans ho.symm) hd,hf.same h.BV⟩
def We(W:World)(v:Value)(l:List Nat):Prop:=YU W v l/\∀g o n c,v= .slice (some ⟨g,o,none⟩) n c->∃cu,W.heap[g]? =some (.cells cu 3)
def We.same(h:KT ts W W')(ht:3∈ts){v}{l}(hv:We W v l):We W' v l:=by
 obtain⟨⟨a,cap,rfl,e1,e2,h3⟩,h4⟩:=hv;refine⟨⟨a,cap,rfl,e1,e2,λi hi=>?_⟩,λg o n c e=>?_⟩
 ·obtain⟨g,rfl,hc⟩:=h3 i hi;obtain⟨cu,ho⟩:=h4 g 0 _ _ rfl;exact⟨g,rfl,yP ((h g cu _ ht ho).trans ho.symm) hc⟩
 ·obtain⟨cu,ho⟩:=h4 g o n c e;exact⟨cu,h g cu _ ht ho⟩
structure BL where
 src:Value
 wh:Value
 ks:Value
 made:Value
 D8:Value
 vY:Value
def BL.cells(x:BL)(s:Aq)(d l q:Int)(ev:Value):Array Value:=#[.bool s.distinct,x.src,x.wh,.bool s.Nu,x.ks,x.made,x.D8,x.vY,.int .u32 d,.int .i32 l,.int .u32 q,ev]
structure Zbm (W:World) (x:BL) (s:Aq) (wb:Option Nat):Prop where
 src:Ua W x.src s.yu
 wh:DC W wb s.Ee x.wh
 ks:We W x.ks s.keys
 made:Tw W x.made s.made
 D8:DC W none s.Fj x.D8
 vY:Gs W x.vY s.items
theorem Zbm.same(h:KT Ig W W'){x}{s}(k:Zbm W x s wb):Zbm W' x s wb:=
 ⟨k.src.same h,k.wh.same h.BV,k.ks.same h O,k.made.same h,k.D8.same h.BV,k.vY.same h.BV⟩
def Eg(W:World)(b:Nat)(x:BL)(s:Aq)(wb:Option Nat)(d:Bool):Prop:=
 Zbm W x s wb/\∃q ev,W.heap[b]? =some (.cells (x.cells s (if d then 1 else 0) 0 q ev) 259)/\(d=false->ev= .slice none 0 0)/\(d=true->Cq W ev (zJ s))
theorem Eg.same(h:KT Ig W W'){b:Nat}(hb:W'.heap[b]? =W.heap[b]?){x}{s}{d}(k:Eg W b x s wb d):Eg W' b x s wb d:=by
 obtain⟨h1,q,ev,h2,h3,h4⟩:=k;exact⟨h1.same h,q,ev,hb.trans h2,h3,λe=>(h4 e).same h⟩
def KT.Zpu(h:Ox S W W')(hs:∀g∈S,∀cu ty,ty∈ts->W.heap[g]?≠some (.cells cu ty)):KT ts W W':=λg cu ty ht e=>(h.block g (wo e) (λhm=>hs g hm cu ty ht e)).trans e
def Zkb{b:Nat}{cu:Array Value}(h:Ox [b] W W')(hb:W.heap[b]? =some (.cells cu 259)):KT Ig W W':=KT.Zpu h λg hg BA ty ht e=>by
 have:g=b:=bJ
 subst this;rw[hb]at e;cases e;revert ht;decide
def ZHg:yH 185:=λ_ _=>af
def ZO2(W)(b)(x)(s)(wb)(h:Eg W b x s wb true):
  Calls prog 125 #[vU b] W λe W'=>∃ev,e= .returned ev/\Cq W' ev (zJ s)/\Eg W' b x s wb true/\Ox [b] W W':=by
 have BD:=Jn;have HH:=vR h;obtain⟨_,q,ev,hb,_,he⟩:=h;have zi:=(wo hb);have HE:=vR (he rfl);obtain⟨ea,ec,rfl,_⟩:=he rfl;have c8:∀o,(W.alloc o).cell? ⟨b,8,none⟩=some (.int .u32 1):=λo=>(oD W o ⟨b,8,none⟩ zi).trans (by simp[World.cell?,hb,BL.cells]);have c11:∀o,(W.alloc o).cell? ⟨b,11,none⟩=some (.slice ea (zJ s).length ec):=λo=>(oD W o ⟨b,11,none⟩ zi).trans (by simp[World.cell?,hb,BL.cells]);unfold vU;clear hb he;go_enter func125,ntmps125;go_wp2_with (go_at_call 184;refine(ZBi ⟨b,8,none⟩ _ _ (c8 _)).mono ?_;rintro e w' ⟨rfl,rfl⟩);go_ret;have hB:vV W (W.alloc (.cells #[.pointer (some ⟨b,0,none⟩)] 211)):=(nW _ _).alloc (nV _) _;exact⟨_,rfl,HE.out.same (KT.vZ hB),HH.out.same (KT.vZ hB) (hB.block b zi),Ox.vZ hB⟩
def ZAb(x:BL)(s)(d l q)(ev)(u):(x.cells s d l q ev).setIfInBounds 11 u=x.cells s d l q u:=rfl
def ZAc(x:BL)(s)(d l q l')(ev):(x.cells s d l q ev).setIfInBounds 9 (.int .i32 l')=x.cells s d l' q ev:=rfl
def ZSo(x:BL)(s)(d l q d')(ev):(x.cells s d l q ev).setIfInBounds 8 (.int .u32 d')=x.cells s d' l q ev:=rfl
def ZAa{b:Nat}{x:BL}{s:Aq}{d l q:Int}{ev:Value}(h:W.heap[b]? =some (.cells (x.cells s d l q ev) 259)):YR W b 8 d l:=by
 refine⟨?_,?_,?_,?_⟩<;>simp[World.cell?,World.frozen?,h,BL.cells]
def JO(W)(b k)(u):Ox [b] W (W.setCell ⟨b,k,none⟩ u):=⟨rfl,rfl,rfl,by simp[Bf],λy h1 h2=>uX W ⟨b,k,none⟩ _ y (λe=>h2 bS)⟩
def ZPY(S)(W):Ox S W W.drew:=⟨rfl,rfl,rfl,nV _,λ_ _ _=>rfl⟩
def ZO3(W)(b)(x)(s)(wb)(h:Eg W b x s wb false)(ok:T9 s.yu)(Br:(Ep s.yu).length<=1000):
  Calls prog 125 #[vU b] W λe W'=>∃ev,e= .returned ev/\Cq W' ev (zJ s)/\Eg W' b x s wb true/\Ox [b] W W':=by
 have BD:=Jn;obtain⟨hp,q,ev,hb,he,_⟩:=h;obtain rfl:=he rfl;have zi:=(wo hb);have HP:=vR hp;have hB:vV W (W.alloc (.cells #[vU b] 211)):=(nW _ _).alloc (nV _) _;have AP:=(hB.block b zi).trans hb;have hbS:=zD (k:=9) (u:=.int .i32 1) AP;rw[ZAc]at hbS;have Zjv:=JO (W.alloc (.cells #[vU b] 211)) b 9 (.int .i32 1);have hxS:=(Zjv.block W.heap.size ae ah).trans (xI W _);have ZwP:KT Ig W ((W.alloc (.cells #[vU b] 211)).setCell ⟨b,9,none⟩ (.int .i32 1)):=λg cu ty ht e=>(Zkb Zjv AP) g cu ty ht (xq hB e);have HK:=vR (ZO1 _ W.heap.size b _ x.src s.yu hxS hbS rfl rfl rfl (hp.src.same ZwP) ok Br);have HD:=vR (ZBk b 8 185 #[.pointer (some ⟨W.heap.size,0,none⟩)] _ (λw2=>w2.heap[W.heap.size]? =some (.cells #[vU b] 211)/\∃ev,w2.heap[b]? =some (.cells (x.cells s 0 1 q ev) 259)/\Cq w2 ev (zJ s)/\Ox [b] W w2) (ZAa AP) ZHg (HK.out.mono (λe w2 ⟨e1,ev,e2,e3,e4⟩=>⟨e1,ZAa (by rw[ZAb]at e2;exact e2),(e4.block _ (by simp[Bf]) ah).trans hxS,ev,by rw[ZAb]at e2;exact e2,e3,((Ox.vZ hB).trans Zjv).trans e4⟩)));have HB:=vR hb;clear hp hb he HK hbS Zjv hxS ZwP AP;unfold vU at *;go_enter func125,ntmps125;go_wp2_with fail;refine HD.out.mono ?_;rintro e w3 ⟨rfl,w2,ho,⟨hx2,ev,Af,AZ,xu⟩,rfl⟩;obtain⟨w4,EL⟩:∃w4,w4=(w2.drew.setCell ⟨b,8,none⟩ (.int .u32 1)).setCell ⟨b,8+1,none⟩ (.int .i32 0):=⟨_,rfl⟩;have GD:w4.heap[b]? =some (.cells (x.cells s 1 0 q ev) 259):=by
  have h1:w2.drew.heap[b]? =some (.cells (x.cells s 0 1 q ev) 259):=Af;have h2:=zD (k:=8) (u:=.int .u32 1) h1;rw[ZSo]at h2;have h3:=zD (k:=8+1) (u:=.int .i32 0) h2;rw[ZAc]at h3;rw[EL];exact h3
 have Zju:Ox [b] w2 w4:=by rw[EL];exact(ZPY _ _).trans ((JO _ _ _ _).trans (JO _ _ _ _))
 have HEV:=vR (AZ.same (Zkb Zju Af));obtain⟨ea,ec,rfl,_⟩:=AZ;have c0:w4.cell? ⟨W.heap.size,0,none⟩=some (.pointer (some ⟨b,0,none⟩)):=by
  have:=(Zju.block W.heap.size (wo hx2) ah).trans hx2;simp[World.cell?,this]
 have c11:w4.cell? ⟨b,11,none⟩=some (.slice ea (zJ s).length ec):=by simp[World.cell?,GD,BL.cells]
 rw[<-EL];have HOX:=vR (xu.trans Zju);have HB4:=vR GD;clear ho hx2 Af xu Zju EL GD;go_wp2_with fail;go_ret;exact⟨_,rfl,HEV.out,⟨HP.out.same (Zkb HOX.out HB.out),q,_,HB4.out,(λe=>nomatch e),λ_=>HEV.out⟩,HOX.out⟩
def ZO0(W)(b)(x)(s)(wb)(d)(h:Eg W b x s wb d)(ok:T9 s.yu)(Br:(Ep s.yu).length<=1000):
  Calls prog 125 #[vU b] W λe W'=>∃ev,e= .returned ev/\Cq W' ev (zJ s)/\Eg W' b x s wb true/\Ox [b] W W':=by
 cases d with
 |true=>exact ZO2 W b x s wb h
 |false=>exact ZO3 W b x s wb h ok Br
def Tryz.ZMz:(prog.info? 257).map (λi=>(i.zero,i.size,i.bytes))=some (some (.slice none 0 0),1,24):=by kernel_rfl
structure GV (W0 wr:World) (B:Nat) (v:Value) (zZ:List Value) (Al:List (List (Value×Value))) (gs:List (List xE)):Prop where
 own:wr.ownsRow B 257 1 v gs.length zZ
 l1:zZ.length=gs.length
 l2:Al.length=gs.length
 xB:∀i (h1:i<zZ.length) (h2:i<Al.length) (h3:i<gs.length),wr.ownsRow B 214 2 zZ[i] Al[i].length (G9 Al[i])/\JW W0 Al[i] gs[i]
 ap:∀i j (h1:i<zZ.length) (h2:j<zZ.length) (g:Nat),i≠j->zZ[i].ownBlock=some g->zZ[j].ownBlock≠some g
def GV.move{v}(h:GV W0 wr B v zZ Al gs)(hk:∀(g:Nat) cu ty,ty=257\/ty=214->wr.heap[g]? =some (.cells cu ty)->w'.heap[g]? =some (.cells cu ty)):GV W0 w' B v zZ Al gs:=by
 have mv:∀{e sz n:Nat} {v:Value} {xs:List Value},(e=257\/e=214)->wr.ownsRow B e sz v n xs->w'.ownsRow B e sz v n xs:=by
  intro e sz n v xs he ho;refine⟨ho.1,?_⟩;rcases ho.2 with h0|⟨g,cap,cur,rfl,hg,hh,r⟩
  ·exact jg
  ·exact .inr ⟨g,cap,cur,rfl,hg,hk g cur e he hh,r⟩
 exact⟨mv (.inl rfl) h.own,h.l1,h.l2,λi h1 h2 h3=>⟨mv (.inr rfl) (h.xB i h1 h2 h3).1,(h.xB i h1 h2 h3).2⟩,h.ap⟩
def GV.below{v}(h:GV W0 wr B v zZ Al gs)(hB:vV wr w'):GV W0 w' B v zZ Al gs:=h.move λg cu ty _ e=>xq hB e
def Zy0:(Value.slice none 0 0).ownBlock=none:=rfl
def GV.new{v}{v':Value}(h:GV W0 wr B v zZ Al gs)(hg:wr.grownBy w' v.ownBlock)(ho:w'.ownsRow B 257 1 v' (gs.length+1) (zZ++ [.slice none 0 0])):GV W0 w' B v' (zZ++ [.slice none 0 0]) (Al++ [[]]) (gs++ [[]]):=by
 refine⟨by simpa using ho,by simp[h.l1],by simp[h.l2],λi h1 h2 h3=>?_,λi j h1 h2 g ZR e=>?_⟩
 ·by_cases hi:i<gs.length
  ·have Kj:i<zZ.length:=by rw[h.l1];exact hi
   have Gg:i<Al.length:=by rw[h.l2];exact hi
   rw[pJ Kj,pJ Gg,pJ hi];obtain⟨k1,k2⟩:=h.xB i Kj Gg hi;exact⟨Zgu k1 hg (Zkm k1 h.own O),k2⟩
  ·have e1:i=gs.length:=by simp at h3;omega
   subst e1;have El:=h.l1;have Fu:=h.l2;have q1:(zZ++ [Value.slice none 0 0])[gs.length]= .slice none 0 0:=by simp[<-El]
   have q2:(Al++ [[]])[gs.length]= []:=by simp[<-Fu]
   have q3:(gs++ [[]])[gs.length]= []:=ae
   rw[q1,q2,q3];exact⟨⟨rfl,.inl ⟨rfl,rfl⟩⟩,rfl,λi h=>ax⟩
 ·by_cases hi:i<zZ.length
  ·rw[pJ hi]at e;by_cases hj:j<zZ.length
   ·rw[pJ hj];exact h.ap i j hi hj g ZR e
   ·have:j=zZ.length:=by simp at h2;omega
    subst this;simp[Zy0]
  ·have:i=zZ.length:=by simp at h1;omega
   subst this;simp[Zy0]at e
def GV.add{G cap:Nat}{ob:Obj}(h:GV W0 wr B (.slice (some ⟨G,0,none⟩) gs.length cap) zZ Al gs)(n:Nat)(h1:n<zZ.length)(h2:n<Al.length)(h3:n<gs.length)(p:Value×Value)(f:xE)(hp:xD W0 p.1 f.row/\xD W0 p.2 f.made)(g c:Nat)(ho:w'.ownsRow B 214 2 (.slice (some ⟨g,0,none⟩) (Al[n].length+1) c) (Al[n].length+1) (G9 Al[n]++ [p.1,p.2]))(hg:(wr.alloc ob).grownBy w' zZ[n].ownBlock)(Ea:zZ[n].ownBlock=some g\/g=(wr.alloc ob).heap.size):
  GV W0 (w'.setCell ⟨G,n,none⟩ (.slice (some ⟨g,0,none⟩) (Al[n].length+1) c)) B (.slice (some ⟨G,0,none⟩) gs.length cap) (zZ.set n (.slice (some ⟨g,0,none⟩) (Al[n].length+1) c)) (Al.modify n (·++ [p])) (gs.modify n (·++ [f])):=by
 have hA:=(h.xB n h1 h2 h3).1;have Qq:=Zgu (h.own.alloc ob) hg (Zkm (h.own.alloc ob) (hA.alloc ob) O);have hGt:∃cu,w'.heap[G]? =some (.cells cu 257):=by
  rcases Qq.2 with⟨e,_⟩|⟨g1,c1,u1,e1,_,DK,_⟩
  ·cases e
  ·cases e1;exact⟨_,DK⟩
 obtain⟨Gc,hGc⟩:=hGt;have neG:∀{m:Nat} {v:Value} {xs:List Value},w'.ownsRow B 214 2 v m xs->some G≠v.ownBlock:=by
  intro m v xs hv e;rcases hv.2 with⟨rfl,_⟩|⟨g1,c1,u1,rfl,_,DK,_⟩
  ·cases e
  ·cases e;rw[hGc]at DK;cases DK
 refine⟨?_,by simp[h.l1],by simp[h.l2],λi k1 k2 k3=>?_,λi j k1 k2 y ZR e=>?_⟩
 ·simpa using Zpx Qq
 ·by_cases hi:i=n
  ·subst hi;simp only[uw,List.getElem_modify_eq];refine⟨?_,(h.xB i h1 h2 h3).2.snoc hp.1 hp.2⟩;rw[o6,Zic];exact Ia ho (neG ho)
  ·have j1:i<zZ.length:=by simpa using k1
   have j2:i<Al.length:=by simpa using k2
   have j3:i<gs.length:=by simpa using k3
   rw[tN (λe=>hi e.symm)];simp only[um,nU (λe:n=i=>hi e.symm)];obtain⟨q1,q2⟩:=h.xB i j1 j2 j3;have q3:=Zgu (q1.alloc ob) hg (λy hy e=>h.ap i n j1 h1 y hi hy e.symm);exact⟨Ia q3 (neG q3),q2⟩
 ·have j1:i<zZ.length:=by simpa using k1
  have j2:j<zZ.length:=by simpa using k2
  have lt:=λk (hk:k<zZ.length) y (hy:zZ[k].ownBlock=some y)=>((h.xB k hk (by rw[h.l2,<-h.l1];exact hk) (by rw[<-h.l1];exact hk)).1.lt y hy).2;by_cases hi:i=n
  ·subst hi;rw[uw]at e;have eg:g=y:=by simpa[Value.ownBlock]using e
   subst eg;rw[tN ZR];rcases Ea with Ea|Ea
   ·exact h.ap i j h1 j2 g ZR Ea
   ·intro e2;have:=lt j j2 g e2;simp at Ea;omega
  ·rw[tN (λe=>hi e.symm)]at e;by_cases hj:j=n
   ·subst hj;rw[uw];intro e2;have eg:g=y:=by simpa[Value.ownBlock]using e2
    subst eg;rcases Ea with Ea|Ea
    ·exact h.ap i j j1 h1 g ZR e Ea
    ·have:=lt i j1 g e;simp at Ea;omega
   ·rw[tN (λe=>hj e.symm)];exact h.ap i j j1 j2 y ZR e
def ZkO(W:World)(v:Value)(gs:List (List xE)):Prop:=∃a cap,v= .slice a gs.length cap/\gs.length<=100000/\∀i (h:i<gs.length),∃g cu mv,a=some ⟨g,0,none⟩/\W.heap[g]? =some (.cells cu 257)/\W.cell? ⟨g,i,none⟩=some mv/\Cq W mv gs[i]
def GV.at_{v}(h:GV W0 wr B v zZ Al gs)(hE:∀c l,JW W0 c l->JW wr c l)(hl:gs.length<=100000)(zQ:∀g∈gs,g.length<=100000):ZkO wr v gs:=by
 obtain⟨a,cap,rfl⟩:=yN h.own;refine⟨a,cap,rfl,hl,λi hi=>?_⟩;have Kj:i<zZ.length:=by rw[h.l1];exact hi
 have Gg:i<Al.length:=by rw[h.l2];exact hi
 rcases h.own.2 with⟨e,h0⟩|⟨g,c,cu,e,_,hh,_⟩
 ·omega
 ·cases e;have hc:=h.own.cells (g:=g) rfl i zZ[i] ae;rw[uY,o9]at hc;obtain⟨k1,k2⟩:=h.xB i Kj Gg hi;exact⟨g,cu,zZ[i],rfl,hh,hc,Zh6 k1 (hE _ _ k2) (zQ _ (oC hi))⟩
def stepG(st:Ix×List (List xE))(f:xE)(vs:List wG):Ix×List (List xE):=
 (st.1.number vs,if(((st.1.number vs).at_ vs).getD 0)=st.2.length then st.2++ [[f]]else st.2.modify (((st.1.number vs).at_ vs).getD 0) (·++ [f]))
theorem ZuJ(keys):∀l ix gs out,Y9 keys l ix gs=some out->∃st:Nat->Ix×List (List xE),st 0=(ix,gs)/\(∀k (h:k<l.length),∃vs,Zkj l[k].row keys=some vs/\st (k+1)=stepG (st k) l[k] vs)/\(st l.length).2=out
 | [],ix,gs,out,h=>by
  rw[Y9]at h;cases h;exact⟨λ_=>(ix,gs),rfl,λk h=>ax,rfl⟩
 |f::l,ix,gs,out,h=>by
  rw[Y9]at h;cases hv:Zkj f.row keys with
  |none=>rw[hv]at h;cases h
  |some vs=>
   rw[hv]at h;obtain⟨st,h0,h1,h2⟩:=ZuJ keys l _ _ out h;refine⟨λk=>match k with|0=>(ix,gs)|k+1=>st k,rfl,λk hk=>?_,h2⟩;cases k with
   |zero=>exact⟨vs,hv,h0⟩
   |succ k=>exact h1 k bH
def ZPr(ix:Ix)(vs):(ix.number vs).wR.length<=ix.wR.length+vs.length/\(ix.number vs).keys.length<=ix.keys.length+1/\(((ix.number vs).at_ vs).getD 0<=ix.keys.length):=by
 refine⟨?_,?_,?_⟩
 ·unfold Ix.number;have:∀(r l:List wG),(r.foldl Bh l).length<=l.length+r.length:=by
   intro r;induction r with
   |nil=>intro l;simp
   |cons v r ih=>intro l;rw[List.foldl_cons];have:=ih (Bh l v);have:=Zsd l v;simp;omega
  exact this vs ix.wR
 ·rcases Zj6 ix vs with h|h<;>omega
 ·rcases Zj6 ix vs with h|h<;>omega
def ZQY{row}{keys:List Nat}{vs:List wG}(h:Zkj row keys=some vs):vs.length=keys.length/\∀i (h:i<keys.length) (h':i<vs.length),∃hq:keys[i]<row.length,row[keys[i]]=vs[i]:=by
 obtain⟨h1,h2⟩:=Q4 h;exact⟨h1,λi hi Ck=>qP.1 (h2 i hi Ck)⟩
def ZOX(gs:List (List xE))(f:xE):(gs++ [[]]).modify gs.length (·++ [f])=gs++ [[f]]:=by
 induction gs with
 |nil=>rfl
 |cons g gs ih=>simp only[List.cons_append,List.length_cons,List.modify_succ_cons,ih]
def Eu.maps{x bv bs}{ix}(h:Eu W x bv bs ix):∀g∈ [bv,bs],∀cu ty fr,W.heap[g]?≠some (.cells cu ty fr):=λg hg cu ty fr e=>by
 obtain⟨es,c,h1,_⟩:=h.wR;obtain⟨es2,c2,h2,_⟩:=h.keys;have:g=bv\/g=bs:=bJ
 rcases this with rfl|rfl
 ·rw[h1]at e;cases e
 ·rw[h2]at e;cases e
def GV.ox{v}(h:GV W0 wr B v zZ Al gs)(hx:Ox S wr w')(hs:∀g∈S,∀cu ty fr,wr.heap[g]?≠some (.cells cu ty fr)):GV W0 w' B v zZ Al gs:=h.move λg cu ty _ e=>(hx.block g (wo e) (λhm=>hs g hm cu ty _ e)).trans e
def ZcT(w:World)(u)(ty)(n)(hn:w.heap.size=n):∀j v, [u][j]? =some v->(w.alloc (.cells #[u] ty)).cell? ((⟨n,0,none⟩:Addr).add j)=some v:=λj v h=>by
 subst hn;cases j with
 |zero=>simp at h;subst h;simp[Addr.add]
 |succ j=>simp at h
def TgI(W:World)(w1s x bv bs:Nat)(v:Value)(zZ:List Value)(Al:List (List (Value×Value)))(st:Ix×List (List xE))(k:Nat)(wr:World):Prop:=
 GV W wr w1s v zZ Al st.2/\Eu wr x bv bs st.1/\st.1.keys.length=st.2.length/\st.1.wR.length<=k*1000/\st.2.length<=k/\w1s<=wr.heap.size/\(∀g∈st.2,g.length<=k)
def ZIw(W)(kv lv)(keys)(l)(gs)(hk:We W kv keys)(Bc:0<keys.length)(zl:keys.length<=1000)(hl:Cq W lv l)(Fa:l.length<=64)(A9:∀f∈l,f.row.length<=1000)(hg:Y9 keys l {} []=some gs):
  Calls prog 187 #[kv,lv] W λe W'=>∃v,e= .returned v/\ZkO W' v gs/\vV W W':=by
 obtain⟨st,JK,yI,hsl⟩:=ZuJ keys l {} [] gs hg;have Ip:=vR yI;have HSL:=vR hsl;have HS0:=vR JK;have HK:=vR hk;have HL:=vR hl;have HRL:=vR A9;obtain⟨⟨ka,kc,rfl,_,_,_⟩,_⟩:=hk;obtain⟨la,lc,rfl,_,_⟩:=hl;obtain⟨i0,zB,hz0,yo,hz2⟩:=oM Tryz.ZjR;obtain⟨i1,Kj,hy0,GK,hy2⟩:=oM Tryz.ZMz;have yU:((keys.length:Int)==0)=false:=by rw[pQ];omega
 have HN:=vR (Zl2 W);clear yI hsl JK A9 hg;unfold vU at HN;go_enter func187,ntmps187;go_wp2_with fail;refine HN.out.mono ?_;rintro e w1 ⟨x,bv,bs,rfl,hI,hB,hx,hv,hs,wF⟩;have Ju:=vR hI;have VW:=vR hB;have Dx:=(wo hI.obj);have ZxJ:bv<w1.heap.size:=by obtain⟨es,c,h1,_⟩:=hI.wR;exact(wo h1)
 have Zxt:bs<w1.heap.size:=by obtain⟨es,c,h1,_⟩:=hI.keys;exact(wo h1)
 clear HN hI hB;go_wp2_with fail;go_loopg [5,18] (l.length+1) (λgk v iv wr=>∃(k:Nat) (zZ:List Value) (Al:List (List (Value×Value))),k<=l.length/\gk=l.length-k+1/\iv= .int .i64 k/\vV W wr/\Hid (TgI W w1.heap.size x bv bs v zZ Al (st k) k wr));case atStart=>
  refine⟨0, [], [],Z,Z,rfl,VW.out,?_⟩;rw[HS0.out];show TgI _ _ _ _ _ _ _ _ _ _ _;exact⟨⟨⟨rfl,.inl ⟨rfl,rfl⟩⟩,rfl,rfl,λi h=>ax,λi j h=>ax⟩,Ju.out,rfl,ae,ae,nV _,ae⟩
 case round=>
  obtain⟨k,zZ,Al,hk,rfl,rfl,hB,hI⟩:=hrel;by_cases hlt:k<l.length
  ·obtain⟨a',c',ee,_,hx3⟩:=HL.out;cases ee;obtain⟨g,o,cu,rv,mv,rfl,hg,c0,c1,Bt,Hy⟩:=hx3 k hlt;have xL:=(wo hg);have d0:=wT hB xL c0;have d1:=wT hB xL c1;obtain⟨vs,IJ,yI⟩:=Ip.out k hlt;obtain⟨AA,hvg⟩:=ZQY IJ;have Mg:=vR Bt;have YA:=vR Hy;have A9:=HRL.out _ (oC hlt);have Nh:=vR (λw' (hw:vV W w')=>ZIu w' rv (.slice ka keys.length kc) l[k].row keys vs (Bt.J7 hw) (HK.out.1.below hw) zl AA hvg A9);have ZrJ:=vR yI;obtain⟨ra,rc,rfl,_⟩:=Bt;obtain⟨ma,mc,rfl,_⟩:=Hy;clear hx3 c0 c1 hg yI IJ hvg;go_wp2_with fail;have zA:vV wr (wr.alloc (.cells #[.slice ra l[k].row.length rc,.slice ma l[k].made.length mc] 214)):=(nW _ _).alloc (nV _) _;refine(Nh.out _ (hB.trans (zA.mono hB.size))).mono ?_;rintro e w2 ⟨pv,rfl,Gj,wK⟩;obtain⟨Zj,hIX,Zjc,ZfX,Xn,Pp,SK⟩:=hI.out;have wH:=zA.trans (wK.mono zA.size);have hen:=(wK.block _ ae).trans (xI wr _);have Zrk:=vR (hIX.below wH);have OB:=vR (Zeh w2 x bv bs (st k).1 pv vs (hIX.below wH) Gj Z Z Z wF);obtain⟨pa,pc,rfl,_⟩:=Gj;have TJ:=vR (oG (Zj.below wH) (oG Zjc (oG ZfX (oG Xn (oG SK AA)))));unfold vU at OB;clear Zj hIX hI Nh zA Zjc ZfX Xn SK AA;go_wp2_with fail;refine OB.out.mono ?_;rintro e w3 ⟨rfl,Zu4,xu⟩;obtain⟨MH,Zjc,ZfX,Xn,SK,AA⟩:=TJ.out;have NV:=(Zrk.out).maps;have WZ:=MH.ox xu NV;have Zwl:=(xu.block _ (wo hen) (λhm=>NV _ hm _ _ _ hen)).trans hen;have Zjr:=ZPr (st k).1 vs;have yl:=Ox.below (hB.trans (wH.mono hB.size)) xu (by have:=hB.size;have:=wH.size;omega) (λg hg=>by have h:g=bv\/g=bs:=bJ;omega);have C8:w1.heap.size<=w3.heap.size:=by have:=wH.size;have:=xu.size;omega
   have Zhn:=ZrJ.out;unfold stepG at Zhn;have hnk:=Zjr.2.2;have ZCx:=vR Zjr;have NW:=Zj6 (st k).1 vs;generalize hn:(((st k).1.number vs).at_ vs).getD 0=n at *;clear hn;have QP:n<=(st k).2.length:=Z
   obtain⟨Ja,UE,JD,hN3,hN4,hN5⟩:∃Ja:List (List xE),st (k+1)=((st k).1.number vs,Ja.modify n (·++ [l[k]]))/\n<Ja.length/\((n=(st k).2.length/\Ja=(st k).2++ [[]])\/(n≠(st k).2.length/\Ja=(st k).2))/\((st k).1.number vs).keys.length=Ja.length/\(∀g∈Ja,g.length<=k):=by
    by_cases Z4:n=(st k).2.length
    ·refine⟨(st k).2++ [[]],?_,ah,.inl ⟨Z4,rfl⟩,?_,?_⟩
     ·rw[Zhn,nY Z4,Z4,ZOX]
     ·rcases NW with h|h
      ·rw[o6,h.2];simp;omega
      ·omega
     ·intro g hg;rcases qH.1 hg with h|h
      ·exact SK g h
      ·simp at h;subst h;simp
    ·refine⟨(st k).2,by rw[Zhn,nU Z4],Z,.inr ⟨Z4,rfl⟩,?_,SK⟩;rcases NW with h|h
     ·omega
     ·omega
   have hgN:Ja.length<=k+1:=by rcases hN3 with⟨_,e⟩|⟨_,e⟩<;>rw[e]<;>first|(simp;omega)|omega
   obtain⟨ga,gc,hgv⟩:=yN WZ.own;subst hgv;have Zry:=vR (oG UE (oG hN4 (oG hN5 (oG Zjr (oG ZfX (show vs.length<=1000 by omega))))));have Yt:=vR WZ;have Zri:=vR Zu4;have ER:=vR yl;have Zrd:=vR Zwl;have HN3:=vR hN3;clear Zjc ZfX SK AA Zjr ZCx NW Zhn ZrJ TJ MH WZ Zu4 UE hN4 hN5 hN3 hen Zwl NV Zrk hnk;go_upto_if 31 with fail
   go_cut [5] (λgv wx=>∃(ZIL:List Value) (ZGF:List (List (Value×Value))) (G zx:Nat),gv= .slice (some ⟨G,0,none⟩) Ja.length zx/\Hid (GV W wx w1.heap.size (.slice (some ⟨G,0,none⟩) Ja.length zx) ZIL ZGF Ja/\Eu wx x bv bs ((st k).1.number vs)/\vV W wx/\wx.heap[wr.heap.size]? =some (.cells #[.slice ra l[k].row.length rc,.slice ma l[k].made.length mc] 214)/\w3.heap.size<=wx.heap.size));case first=>
    rcases HN3.out with⟨hn,he⟩|⟨hn,he⟩
    ·have Jh:((n:Int)==((st k).2.length:Int))=true:=by simp[hn]
     have ZIU:=λob=>(nW w3.heap.size w3).alloc (nV _) ob;have wD:=Yt.out.own;have HE:=vR (oG hn he);clear hn he;go_wp2_with (at_builtin;refine pE _ rfl _ _ 399 rfl w1.heap.size 257 i1 (.slice none 0 0) 1 24 underlying399 Kj hy0 GK hy2 rfl O _ _ _ rfl (wD.alloc _) ⟨w3.heap.size,0,none⟩ 1 1 [.slice none 0 0] rfl rfl (ZcT _ _ _ _ rfl) au aj Z ah ?_;intro v' w6 zm xQ NW);go_meet;have Zi:=(Yt.out.below (ZIU (.cells #[.slice none 0 0] 257))).new xQ zm;have DN:=Zi.own;rw[<-HE.out.2]at Zi DN;obtain⟨G,zx,hGv⟩:∃G zx,v'= .slice (some ⟨G,0,none⟩) Ja.length zx:=by
      rcases DN.2 with⟨_,h0⟩|⟨g,c,cu,e,_⟩
      ·omega
      ·exact⟨g,c,e⟩
     subst hGv;have CK:=λy (hy:y<w1.heap.size)=>(xQ.block y ah (λe=>by have:=(Yt.out.own.lt y e.symm).1;omega)).trans (ow _ _ _ Z);refine⟨_,_,G,zx,rfl,Zi,Zri.out.same (CK x Dx) (CK bv ZxJ) (CK bs Zxt),?_,?_,?_⟩
     ·exact(ER.out.alloc ER.out.size _).grown xQ (by simp;have:=ER.out.size;omega) (λy e=>by have:=(Yt.out.own.lt y e).1;have:=VW.out.size;omega)
     ·have ZL:=Zrd.out;have hel:=(wo ZL);refine(xQ.block wr.heap.size ah (λe=>?_)).trans ((ow _ _ _ hel).trans ZL);rcases Yt.out.own.2 with⟨e1,_⟩|⟨g1,c1,u1,e1,_,DK,_⟩
      ·rw[e1]at e;cases e
      ·rw[e1]at e;have e2:wr.heap.size=g1:=oN e;rw[<-e2,ZL]at DK;cases DK
     ·have:=xQ.size;exact nN
    ·have Jh:((n:Int)==((st k).2.length:Int))=false:=by rw[pQ];omega
     have HE:=vR (oG hn he);clear hn he;go_wp2_with fail;go_meet;have DN:=Yt.out.own;have Zi:=Yt.out;rw[<-HE.out.2]at Zi DN ⊢;obtain⟨G,zx,hGv⟩:∃G zx,Value.slice ga Ja.length gc= .slice (some ⟨G,0,none⟩) Ja.length zx:=by
      rcases DN.2 with⟨_,h0⟩|⟨g,c,cu,e,_⟩
      ·omega
      ·exact⟨g,c,e⟩
     rw[hGv]at Zi ⊢;exact⟨_,_,G,zx,rfl,Zi,Zri.out,ER.out,Zrd.out,nV _⟩
   case rest=>
    obtain⟨WT,Qh,G,zx,rfl,hC⟩:=hcut;obtain⟨wx,Ll⟩:∃wx,wx=wc:=⟨_,rfl⟩;subst Ll;obtain⟨W9,Zu5,OW,hEx,hsx⟩:=hC.out;have h1:n<WT.length:=by rw[W9.l1];exact JD
    have h2:n<Qh.length:=by rw[W9.l2];exact JD
    have hA:=(W9.xB n h1 h2 JD).1;have hGc:=W9.own.cells (g:=G) rfl n WT[n] ae;rw[uY,o9]at hGc;have Qq:∃cu,wx.heap[G]? =some (.cells cu 257)/\w1.heap.size<=G:=by
     rcases W9.own.2 with⟨e,_⟩|⟨g1,c1,u1,e1,yz,DK,_⟩
     ·cases e
     ·cases e1;exact⟨_,DK,yz⟩
    obtain⟨Gcu,Qq,hGb⟩:=Qq;have hGl:=(wo Qq);have ZJe:=λob=>(oD wx ob ⟨G,n,none⟩ hGl).trans hGc;have e0:=xH hEx;have e1:=zS hEx;obtain⟨qa,qc,hqv⟩:=yN hA;have hAl:Qh[n].length<=100:=by
     have q1:=(W9.xB n h1 h2 JD).2.1;have q2:=Zry.out.2.2.1 _ (oC JD);omega
    have Gt:Hid (∀g c w',w'.ownsRow w1.heap.size 214 2 (.slice (some ⟨g,0,none⟩) (Qh[n].length+1) c) (Qh[n].length+1) (G9 Qh[n]++ [.slice ra l[k].row.length rc,.slice ma l[k].made.length mc])->(wx.alloc (.cells #[.slice ra l[k].row.length rc,.slice ma l[k].made.length mc] 214)).grownBy w' WT[n].ownBlock->(WT[n].ownBlock=some g\/g=(wx.alloc (.cells #[.slice ra l[k].row.length rc,.slice ma l[k].made.length mc] 214)).heap.size)->(w'.cell? ⟨G,n,none⟩=some WT[n]/\w'.frozen? ⟨G,n,none⟩=false)/\vV W (w'.setCell ⟨G,n,none⟩ (.slice (some ⟨g,0,none⟩) (Qh[n].length+1) c))/\TgI W w1.heap.size x bv bs (.slice (some ⟨G,0,none⟩) Ja.length zx) (WT.set n (.slice (some ⟨g,0,none⟩) (Qh[n].length+1) c)) (Qh.modify n (·++ [(.slice ra l[k].row.length rc,.slice ma l[k].made.length mc)])) (st (k+1)) (k+1) (w'.setCell ⟨G,n,none⟩ (.slice (some ⟨g,0,none⟩) (Qh[n].length+1) c))):=by
     intro g c w' ho hg Ea;have hnG:some G≠WT[n].ownBlock:=λe=>by
      rcases hA.2 with⟨e1,_⟩|⟨g1,c1,u1,e1,_,DK,_⟩
      ·rw[e1]at e;cases e
      ·rw[e1]at e;have e2:G=g1:=by simpa[Value.ownBlock]using e
       rw[<-e2,Qq]at DK;cases DK
     have hGw:=(hg.block G ah hnG).trans ((ow _ _ _ hGl).trans Qq);have ZLd:∀y,y<w1.heap.size->some y≠WT[n].ownBlock:=λy hy e=>by have:=(hA.lt y e.symm).1;omega
     have CK:∀y,y<w1.heap.size->(w'.setCell ⟨G,n,none⟩ (.slice (some ⟨g,0,none⟩) (Qh[n].length+1) c)).heap[y]? =wx.heap[y]? :=λy hy=>(uX w' ⟨G,n,none⟩ _ y (λe=>by have e':y=G:=e;omega)).trans ((hg.block y ah (ZLd y hy)).trans (ow _ _ _ Z));have hgs:=hg.size;simp at hgs;refine⟨⟨?_,by simp[World.frozen?,hGw]⟩,?_,?_⟩
     ·exact yP (hGw.trans Qq.symm) hGc
     ·refine Below.setCell (p:=⟨G,n,none⟩) ((OW.alloc OW.size _).grown hg (by simp;have:=OW.size;omega) (λy e=>?_)) (by show W.heap.size<=G;have:=VW.out.size;omega) _;have:=(hA.lt y e).1;have:=VW.out.size;omega
     ·have ZvI:=GV.add W9 n h1 h2 JD (.slice ra l[k].row.length rc,.slice ma l[k].made.length mc) l[k] ⟨Mg.out,YA.out⟩ g c ho hg Ea;obtain⟨p1,p2,p3,p4,p5,p6⟩:=Zry.out;rw[p1];refine⟨?_,Zu5.same (CK x Dx) (CK bv ZxJ) (CK bs Zxt),by simpa using p2,by have:=p4.1;simp only;omega,by simpa using hgN,eD,λy hy=>?_⟩
      ·show GV _ _ _ _ _ _ (Ja.modify n _);have e1:Value.slice (some ⟨G,0,none⟩) Ja.length zx= .slice (some ⟨G,0,none⟩) Ja.length zx:=rfl;exact ZvI
      ·obtain⟨i,hi,rfl⟩:=rY hy;have Ck:i<Ja.length:=by simpa using hi
       rw[um];have:=p3 _ (oC Ck);split<;>simp<;>omega
    have Le:=vR hA;rw[hqv]at Gt Le hGc ZJe;clear W9 Zu5 OW hEx hC hA;generalize Qh[n]=csn at *;go_wp2_with fail;go_region_law
     (first
      |(refine qz _ rfl _ _ 257 rfl w1.heap.size 214 i0 (.agg #[.slice none 0 0,.slice none 0 0]) 2 48 underlying257 zB hz0 yo hz2 rfl O (.slice qa csn.length qc) csn.length (G9 csn) rfl (Zmy (Le.out.alloc _)) ⟨wx.heap.size,0,none⟩ 1 1 [.slice ra l[k].row.length rc,.slice ma l[k].made.length mc] rfl rfl (ZpZ _ _ _ _ rfl) au Z aj Z ah _ rfl ?_;intro g6 c6 w6 DN O7 ZKD _;obtain⟨⟨y0,y1⟩,SG⟩:=Gt.out g6 c6 w6 DN (Zmx O7) ZKD))
    all_goals
     go_wp2_with fail;go_roundg (l.length-(k+1)+1);case measure=>omega
     case rel=>exact⟨k+1,_,_,Z,rfl,ak,SG.1,SG.2⟩
  ·obtain rfl:k=l.length:=by omega
   obtain⟨Zj,_,_,_,Xn,_,SK⟩:=hI.out;rw[HSL.out]at Zj Xn SK;have HF:=vR (Zj.at_ (λc l he=>he.same (KT.vZ hB)) Z (λg hg=>by have:=SK g hg;omega));obtain⟨xa,xc,hxv⟩:=yN Zj.own;subst hxv;clear hI Zj Xn SK;go_wp2_with fail;go_ret;exact⟨_,rfl,HF.out,hB⟩
end Go.Proofs.YtncnkiabjhhclaaGreatDoor
