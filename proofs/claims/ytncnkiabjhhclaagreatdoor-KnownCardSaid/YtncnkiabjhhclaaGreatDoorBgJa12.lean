import Derived.Test.YtncnkiabjhhclaaGreatDoorBgJa07
import Derived.Test.YtncnkiabjhhclaaGreatDoorBgJa10
set_option maxRecDepth 100000
set_option maxHeartbeats 8000000
set_option linter.all false
namespace Go.Proofs.YtncnkiabjhhclaaGreatDoor
open Go.Proofs.Tryz
variable{B B':Nat}{W W':World}
def vw{p:Prop}(h:p:=by go_wp2_with fail;go_ret;exact⟨rfl,Below.refl _ _⟩):p:=h
def mJ{p:Prop}(h:p:=by rintro e w1 ⟨rfl,hB⟩;go_wp2;go_ret;exact⟨rfl,hB⟩):p:=h
open Go.RowKit
def valOf(s:vS)(ty:Int):Option wG:=
 if s= [110,117,108,108]then some .null
 else if ty=1 then(match Lib.parseIntB 64 s with| .ok v=>if ze yT (Lib.trimPrefix s [45])=(Lib.trimPrefix s [45]).length then some (.int v)else none|_=>none)
 else if s.head? =some 39 then some (.text (EX s).1)else none
def ZVr(R)(s:vS)(v)(w)(hs:s.length<=90000)(hp:Lib.parseIntB 64 s= .ok v)(hdd:ze yT (Lib.trimPrefix s [45])=(Lib.trimPrefix s [45]).length):
  Calls prog 141 #[.pointer (some ⟨R,0,none⟩),.string ⟨s.toArray⟩] w λe w'=>e= .returned (xe (.int v))/\vV w w':=by
 have HPI:=vR (Tryz.strconv_ParseInt_10_at64_ok ⟨s.toArray⟩ dh v hp w);go_enter func141,ntmps141;go_wp2_with fail;refine(Tryz.strings_TrimPrefix _ _ _).mono ?_;rintro e w' ⟨rfl,hw⟩;obtain rfl:=hw.symm;rw[show(ByteArray.mk s.toArray).data.toList=s from rfl,show(ByteArray.mk #[45]).data.toList= [45] from rfl];have LC:(Lib.trimPrefix s [45]).length<=90000:=by
  unfold Lib.trimPrefix;split
  ·rw[qD];omega
  ·exact hs
 generalize Lib.trimPrefix s [45]=d at *;clear hp;go_wp2_with fail;refine HPI.out.mono ?_;rintro e w1 ⟨rfl,hw⟩;have wE:vV w w1:=by
  rcases hw with rfl|⟨t,rfl⟩
  ·exact nW _ _
  ·exact Lib.bytesWorld_below _ _ _
 clear hw;go_wp2_with fail;refine(ZkG d _ LC).mono ?_;rintro e w2 ⟨rfl,rfl⟩;have hdb:((ze yT d:Int)==(d.length:Int))=true:=by simp[hdd]
 clear hdd;go_wp2_with fail;refine(Vw _ _).mono ?_;rintro e w3 ⟨rfl,rfl⟩;go_wp2;go_ret;exact⟨rfl,wE⟩
def ZVy(R)(ty)(s)(x)(w)(hs:s.length<=90000)(h:valOf s ty=some x):
  Calls prog 92 #[.pointer (some ⟨R,0,none⟩),.string ⟨s.toArray⟩,.int .i64 ty] w λe w'=>e= .returned (xe x)/\vV w w':=by
 unfold valOf at h;by_cases h1:s= [110,117,108,108]
 ·rw[nY h1]at h;cases h;have h1':(s== [110,117,108,108])=true:=by simp[h1]
  clear h1;go_enter func92,ntmps92;exact vw
 ·rw[nU h1]at h;have h1':(s== [110,117,108,108])=false:=by simpa using h1
  clear h1;by_cases h2:ty=1
  ·rw[nY h2]at h;have Zb:(ty==1)=true:=by simp[h2]
   cases hp:Lib.parseIntB 64 s with
   |ok v=>
    rw[hp]at h;simp only at h;split at h
    ·rename_i hd;cases h;have HN:=vR (λw=>ZVr R s v w hs hp hd);unfold xe at HN;clear hp hd h2;go_enter func92,ntmps92;go_wp2_with fail;refine(HN.out _).mono ?_;exact mJ
    ·cases h
   |«syntax»=>rw[hp]at h;cases h
   |range=>rw[hp]at h;cases h
  ·rw[nU h2]at h;have Zb:(ty==1)=false:=by simpa using h2
   clear h2;split at h
   ·rename_i hh;cases h;obtain⟨c,r,rfl⟩:∃c r,s=c::r:=by cases s with|nil=>cases hh|cons c r=>exact⟨c,r,rfl⟩
    have H39:Hid (c=39):=by simpa[Hid]using hh
    clear hh;go_enter func92,ntmps92;go_wp2_with fail;show Calls prog _ #[.pointer (some ⟨R,0,none⟩),.bool ((c.toNat:Int)==39)] w _;rw[show((c.toNat:Int)==39)=true from by rw[H39.out];rfl];refine(Vw _ _).mono ?_;rintro e w1 ⟨rfl,rfl⟩;go_wp2_with fail;refine(ZqP (c::r) _ hs).mono ?_;exact mJ
   ·cases h
structure Qd where
 wu:List (vS×Int)
 rows:List (List wG)
structure Aj where
 done:List (vS×Qd)
 last:Option (vS×Qd)
def Aj.all(st:Aj):List (vS×Qd):=st.done++st.last.toList
def Aj.names(st:Aj):List vS:=st.all.map (·.1)
def Zd2(B:Nat)(W:World)(v:Value)(vs:List wG):Prop:=∃g cap cur,v= .slice (some ⟨g,0,none⟩) vs.length cap/\vs.length<=cap/\cap<=maxLen/\B<=g/\W.heap[g]? =some (.cells cur 80)/\∀i (h:i<vs.length),cur[i]? =some (xe vs[i])
structure Nn (B:Nat) (W:World) (T:Nat) (tb:Qd):Prop where
 ge:B<=T
 obj:∃cv P rv rs,B<=P/\W.heap[T]? =some (.cells #[cv,.map (some P),rv] 232)/\W.ownsRow B 119 2 cv tb.wu.length (Dt tb.wu)/\JS W P tb.wu.length (placesOf (tb.wu.map (·.1)))/\W.ownsRow B 78 1 rv tb.rows.length rs/\rs.length=tb.rows.length/\∀i (h:i<rs.length) (h':i<tb.rows.length),Zd2 B W rs[i] tb.rows[i]
 le:tb.wu.length<=6
 pos:1<=tb.wu.length
 rl:tb.rows.length<=12
def Zd2.wJ{v}{vs}(h:Zd2 B W v vs)(hB:B'<=B)(hx:∀g ob,B<=g->W.heap[g]? =some ob->W'.heap[g]? =some ob):Zd2 B' W' v vs:=by
 obtain⟨g,cap,cur,h1,h2,h3,h4,h5,h6⟩:=h;exact⟨g,cap,cur,h1,h2,h3,om hB h4,hx _ _ h4 h5,h6⟩
def Zzb{e sz n:Nat}{v:Value}{xs:List Value}(h:W.ownsRow B e sz v n xs)(hB:B'<=B)(hx:∀g ob,B<=g->W.heap[g]? =some ob->W'.heap[g]? =some ob):W'.ownsRow B' e sz v n xs:=by
 refine⟨h.1,?_⟩;rcases h.2 with h0|⟨g,cap,cu,e1,hg,hh,r⟩
 ·exact jg
 ·exact .inr ⟨g,cap,cu,e1,om hB hg,hx _ _ hg hh,r⟩
theorem Nn.wJ{T}{tb}(h:Nn B W T tb)(hB:B'<=B)(hx:∀g ob,B<=g->W.heap[g]? =some ob->W'.heap[g]? =some ob):Nn B' W' T tb:=by
 obtain⟨cv,P,rv,rs,h1,h2,h3,h4,h5,h6,h7⟩:=h.obj;obtain⟨es,ck,hm⟩:=h4.obj;exact⟨om hB h.ge,⟨cv,P,rv,rs,om hB h1,hx _ _ h.ge h2,Zzb h3 hB hx,Il h4 ((hx _ _ h1 hm).trans hm.symm),Zzb h5 hB hx,h6,λi p q=>(h7 i p q).wJ hB hx⟩,h.le,h.pos,h.rl⟩
def ZqY(B B1:Nat)(W:World)(T:Nat)(tb:Qd):Prop:=∀W',(∀g ob,B<=g->g<B1->W.heap[g]? =some ob->W'.heap[g]? =some ob)->Nn B W' T tb
def VN(l:List vS)(Ts:List Nat):List (vS×DataW Unit):=(l.zip Ts).map λp=>(p.1,nP p.2)
def YN(B1:Nat)(W:World)(st:Aj)(Ts:List Nat)(v:Value):Prop:=match st.last with
 |none=>v= .pointer none
 |some t=>∃T,v= .pointer (some ⟨T,0,none⟩)/\Ts[st.done.length]? =some T/\Nn B1 W T t.2
structure J5 (B R M Kb:Nat) (xN:List vS) (line:Int) (st:Aj) (Ts:List Nat) (W:World):Prop where
 hR:R<B
 hM:M<B
 hK:Kb<B
 Zu:R≠M
 hMK:M≠Kb
 Zt:R≠Kb
 hB:B<=W.heap.size
 nd:st.names.Nodup
 names:IL W M st.names.length st.names
 keys:IL W Kb 100 xN
 tl:Ts.length=st.names.length
 val:JS W M st.names.length (VN st.names Ts)
 last:∃B1 v,B<=B1/\B1<=W.heap.size/\(∀i (h:i<st.done.length) (h':i<Ts.length),ZqY B B1 W Ts[i] st.done[i].2)/\W.heap[R]? =some (.cells #[.int .i64 line,.map (some M),v,.map (some Kb)] 90)/\YN B1 W st Ts v
def Yb:List vS->List (vS×Int)->Option (List wG)
 |s::l,c::cs=>(valOf s c.2).bind λv=>(Yb l cs).map λvs=>v::vs
 |_,_=>some []
theorem ZA1:∀{l:List vS} {cs:List (vS×Int)} {vs:List wG},l.length=cs.length->Yb l cs=some vs->vs.length=l.length/\∀i (h:i<l.length) (h':i<cs.length) (h'':i<vs.length),valOf l[i] cs[i].2=some vs[i]
 | [], [],vs,_,h=>by rw[Yb]at h;cases h;exact⟨rfl,λi h=>ax⟩;simp
 |s::l,c::cs,vs,hl,h=>by
  rw[Yb]at h;cases h1:valOf s c.2 with
  |none=>rw[h1]at h;cases h
  |some v=>
   rw[h1]at h;cases h2:Yb l cs with
   |none=>rw[h2]at h;cases h
   |some vs'=>
    rw[h2]at h;cases h;obtain⟨k1,k2⟩:=ZA1 dA h2;refine⟨by simp[k1],λi p q r=>?_⟩;cases i with
    |zero=>exact h1
    |succ i=>exact k2 i (by simpa using p) (by simpa using q) (by simpa using r)
def ZVv(B R M Kb)(xN)(line)(st)(Ts)(x)(t)(fv)(l:List vS)(vs)(W)(hl:∀x∈l,x.length<=90000/\x≠ [])(hI:J5 B R M Kb xN line st Ts W)(hn:st.last=some (x,t))(hv:ZA4 W fv l)(h1:l.length=t.wu.length)(h2:t.rows.length<12)(IJ:Yb l t.wu=some vs):
  Calls prog 61 #[.pointer (some ⟨R,0,none⟩),fv] W λe W'=>e= .returned (.tuple #[])/\J5 B R M Kb xN line ⟨st.done,some (x,⟨t.wu,t.rows++ [vs]⟩)⟩ Ts W'/\Mj B R M W W':=by
 obtain⟨B1,v,Ei,Sq,Hq,hR,hv0⟩:=hI.last;unfold YN at hv0;rw[hn]at hv0;obtain⟨T,rfl,hTs,hT⟩:=hv0;have hT:Nn B1 W T t:=hT;obtain⟨cv,P,rv,rs,hPB,hTW,Bl,Br,Bt,Zxp,Pk⟩:=hT.obj;have OY:=hT.ge;have zM:=hT.le;have yV:=hT.pos;have c0:=xH hR;have c2:=KG hR;have t0:=xH hTW;have t2:=KG hTW;obtain⟨a,cap,rfl,Qy⟩:=hv;obtain⟨g0,o0,rfl,U3⟩:=Qy 0 Z;clear U3;obtain⟨gc,Cr,ecv,ZKy,hgc⟩:∃gc Cr,cv= .slice (some ⟨gc,0,none⟩) t.wu.length Cr/\gc<W.heap.size/\∀j u,(Dt t.wu)[j]? =some u->W.cell? ⟨gc,j,none⟩=some u:=by
  rcases Bl.2 with⟨_,h0⟩|⟨gc,Cr,cur,rfl,_,hh,_⟩
  ·omega
  ·exact⟨gc,Cr,rfl,(oz.1 hh).1,λj u hj=>by have:=Bl.cells (g:=gc) rfl j u hj;rw[oV]at this;simpa using this⟩
 obtain⟨a2,yZ,erv⟩:=Zgl Bt;rw[ecv,<-h1]at t0;rw[erv]at t2;have xX:=hI.hB;have HH1:=vR h1;have Zcc:decide ((t.rows.length:Int)<12)=true:=by simp;omega
 have zQ:l.length<=6:=Z
 obtain⟨AA,hvg⟩:=ZA1 h1 IJ;have HVG:=vR hvg;have HVL:=vR AA;clear h1 hvg IJ AA;have Fv:=λw:World=>rJ (P:=prog) 78 80 .nilIface 16 underlying78 Tryz.U6 rfl .i64 .i64 l.length Z Z w;go_enter func61,ntmps61;go_wp2_with fail;refine(Vw _ _).mono ?_;rintro e w3 ⟨rfl,rfl⟩;go_wp2_with fail;go_loopw [6,7,39] (λ_ _ i wr=>∃k:Nat,k<=l.length/\i= .int .i64 k/\Below W.heap.size W wr/\(∃cur:Array Value,cur.size=l.length/\wr.heap[W.heap.size]? =some (.cells cur 80)/\Hid (∀j,j<k->(h:j<vs.length)->cur[j]? =some (xe vs[j]))))
  (λ_ _ i _=>l.length-(intOf i).toNat)
 case atStart=>exact⟨0,Z,rfl,(nW _ W).alloc (nV _) _,⟨_,bY,oK W _,dL⟩⟩
 case round=>
  obtain⟨k,hk,rfl,hB,⟨cur,Fp,DI,wQ⟩⟩:=hrel;by_cases hlt:k<l.length
  ·obtain⟨g1,o1,e1,JE⟩:=Qy k hlt;cases e1;have NN:k<t.wu.length:=by have:=HH1.out;omega
   have LG:k<vs.length:=by have:=HVL.out;omega
   have ZKr:g0<W.heap.size:=oH W _ JE;have Lu:=(oz.1 hTW).1;have KR:=(oz.1 hR).1;have tw0:=(hB.cell (p:=⟨T,0,none⟩) Lu).trans t0;have cw0:=(hB.cell (p:=⟨R,0,none⟩) KR).trans c0;have cf:wr.cell? ⟨g0,o0+k,none⟩=some (.string ⟨l[k].toArray⟩):=(hB.cell (p:=⟨g0,o0+k,none⟩) ZKr).trans JE;have ct:=(hB.cell (p:=⟨gc,k*2+1,none⟩) ZKy).trans (hgc _ _ (by rw[Nat.mul_comm k 2];exact ZtX t.wu k NN));have NS:=hl l[k] (oC hlt);have HZ:=vR (ZVy R t.wu[k].2 l[k] vs[k] wr NS.1 (HVG.out k hlt NN LG));have hvi:∃tt xx,xe vs[k]= .iface tt xx:=by cases vs[k]<;>exact⟨_,_,rfl⟩
   obtain⟨tt,xx,Jj⟩:=hvi;rw[Jj]at HZ;have HVV:=vR Jj;clear Jj;go_wp2_with fail;refine HZ.out.mono ?_;rintro e w1 ⟨rfl,wE⟩;have ZnZ:=(wE.block W.heap.size (oz.1 DI).1).trans DI;have yI:w1.cell? ⟨W.heap.size,k,none⟩=some cur[k]:=by simp[World.cell?,ZnZ,Fp,hlt]
   have Dl:w1.frozen? ⟨W.heap.size,k,none⟩=false:=by simp[World.frozen?,ZnZ]
   clear cf ct tw0 cw0 NS HZ;go_wp2;refine⟨⟨k+1,Z,ak,?_,⟨_,?_,Tj ZnZ,?_⟩⟩,aT⟩
   ·exact(hB.trans (wE.mono hB.size)).setCell (p:=⟨W.heap.size,k,none⟩) (nV _) _
   ·exact mX
   ·intro j hj hjl;by_cases LD:j=k
    ·subst LD;rw[qQ Z,HVV.out]
    ·rw[qL Z];exact wQ.out j Z hjl
  ·have zl:k=l.length:=by omega
   have ET:=vR (λj (h:j<vs.length)=>wQ.out j (by have:=HVL.out;omega) h);have Lu:=(oz.1 hTW).1;have tw2:=(hB.cell (p:=⟨T,2,none⟩) Lu).trans t2;have Ex:=(hB.block T Lu).trans hTW;have Pn:=Zgk Bt hB;have Zv6:=Zgk Bl hB;rw[erv]at Pn;clear zl wQ;obtain⟨i0,hi,hz0,yo,hz2⟩:=oM Tryz.ZMG;have Zvz:=fun(o:Obj)=>(ow wr o T (oz.1 Ex).1).trans Ex;have Zvy:some T≠(Value.slice a2 t.rows.length yZ).ownBlock:=by
    intro e;rcases Pn.2 with⟨e1,_⟩|⟨g,cp,cu,e1,_,hh,_⟩
    ·rw[e1]at e;cases e
    ·rw[e1]at e;cases e;rw[Ex]at hh;injection hh with h1;injection h1 with _ h2;cases h2
   have HTn:=vR Zvz;have ZC3:=vR Zvy;clear Zvz Zvy;go_wp2_with (at_builtin;go_must (refine pE _ rfl _ _ 67 rfl B1 78 i0 (.slice none 0 0) 1 24 underlying67 hi hz0 yo hz2 rfl O _ _ _ rfl (Pn.alloc _) ⟨wr.heap.size,0,none⟩ 1 1 [.slice (some ⟨W.heap.size,0,none⟩) l.length l.length] rfl rfl (rq _ _ _) au aj Z fA ?_);intro v' w1 zm xQ _;go_must (obtain⟨g',zY,rfl⟩:=ZPW zm);go_must (have NB:=(xQ.block T (by simp;have:=hB.size;omega) ZC3.out).trans (HTn.out _));go_must (obtain⟨_,_,q2,f2⟩:=OM NB);have f22:=f2 2);go_end0;have Bq:(Aj.mk st.done (some (x,⟨t.wu,t.rows++ [vs]⟩))).names=st.names:=by unfold Aj.names Aj.all;rw[hn];simp
   have ZbQ:=R6 (hB.mono Sq) (by have:=hB.size;omega) Pn xQ;have hBF:Below B1 W (w1.setCell ⟨T,2,none⟩ (.slice (some ⟨g',0,none⟩) (t.rows.length+1) zY)):=ZbQ.setCell (p:=⟨T,2,none⟩) OY _;have ZeK:=hBF.mono Ei;have ZJ8:=ZcZ (k:=2) (u:=.slice (some ⟨g',0,none⟩) (t.rows.length+1) zY) (ZPN (Zv6.alloc _) xQ (ZPX Zv6 Pn O)) NB O;have ZLE:=ZcZ (k:=2) (u:=.slice (some ⟨g',0,none⟩) (t.rows.length+1) zY) zm NB O;have zI:∀g,some g=(Value.slice a2 t.rows.length yZ).ownBlock->∃cu fr,wr.heap[g]? =some (.cells cu 78 fr):=λg e=>by
    rcases Pn.2 with⟨e1,_⟩|⟨g1,cp,cu,e1,_,hh,_⟩
    ·rw[e1]at e;cases e
    ·rw[e1]at e;cases e;exact⟨cu,_,hh⟩
   have Zw2:∀(g:Nat) (ob:Obj),wr.heap[g]? =some ob->(∀cu fr,ob≠.cells cu 78 fr)->(∀cu fr,ob≠.cells cu 232 fr)->(w1.setCell ⟨T,2,none⟩ (.slice (some ⟨g',0,none⟩) (t.rows.length+1) zY)).heap[g]? =some ob:=λg ob hw wF ZLa=>by
    have Fu:=(oz.1 hw).1;have h1:=(xQ.block g ah (λe=>by
     obtain⟨cu,fr,e2⟩:=zI g e;rw[hw]at e2;exact wF cu fr (oN e2))).trans ((ow wr _ g Fu).trans hw)
    exact(ou w1 ⟨T,2,none⟩ _ g (λe=>by
     have e:g=T:=e;rw[e,Ex]at hw;exact ZLa _ _ (oN hw).symm)).trans h1
   have Hy:=fun(g:Nat) (ob:Obj) (h:W.heap[g]? =some ob) (p1:(∀cu fr,ob≠.cells cu 78 fr)) (p2:(∀cu fr,ob≠.cells cu 232 fr))=>Zw2 g ob ((hB.block g (oz.1 h).1).trans h) p1 p2;have hMl:=hI.hM;have hKl:=hI.hK;have KR:=hI.hR;refine⟨rfl,⟨hI.hR,hI.hM,hI.hK,hI.Zu,hI.hMK,hI.Zt,om xX hBF.size,by rw[Bq];exact hI.nd,by rw[Bq];exact IM hI.names (ZeK.block M hMl),IM hI.keys (ZeK.block Kb hKl),by rw[Bq];exact hI.tl,by rw[Bq];exact Il hI.val (ZeK.block M hMl),B1,_,Ei,om Sq hBF.size,λi p q W' hW'=>Hq i p q W' (λg ob h1 h2 h3=>hW' g ob h1 h2 ((hBF.block g h2).trans h3)),(ZeK.block R KR).trans hR,?_⟩,Mj.vZ ZeK⟩;refine⟨T,rfl,hTs,OY,⟨cv,P,_,rs++ [.slice (some ⟨W.heap.size,0,none⟩) l.length l.length],hPB,Tj NB,ZJ8,?_,?_,by simp[Zxp],λi p q=>?_⟩,zM,yV,by show(t.rows++ [vs]).length<=12;simp;omega⟩
   ·obtain⟨es,ck,hm⟩:=Br.obj;exact Il Br ((Hy _ _ hm (λ_ _ e=>ai) (λ_ _ e=>ai)).trans hm.symm)
   ·show World.ownsRow _ B1 _ 1 _ (t.rows++ [vs]).length _;rw[o6,List.length_singleton];exact ZLE
   ·show Zd2 B1 _ (rs++_)[i] (t.rows++ [vs])[i];by_cases Gg:i<rs.length
    ·have hi3:i<t.rows.length:=by omega
     rw[pJ Gg,pJ hi3];obtain⟨g,cap,cu,e1,e2,e3,e4,e5,e6⟩:=Pk i Gg hi3;exact⟨g,cap,cu,e1,e2,e3,e4,Hy _ _ e5 (λ_ _ e=>ai) (λ_ _ e=>ai),e6⟩
    ·have hi3:i=rs.length:=by simp at p;omega
     subst hi3;have ZMe:=HVL.out;rw[qW Z];simp only[Zxp];rw[qW Z];simp only[tC,List.getElem_cons_zero];exact⟨W.heap.size,l.length,cur,by rw[ZMe],Z,aj,Sq,Zw2 _ _ DI (λ_ _ e=>ai) (λ_ _ e=>ai),ET.out⟩
end Go.Proofs.YtncnkiabjhhclaaGreatDoor
