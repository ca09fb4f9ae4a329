import Derived.Laws.AppendOwnNone
import Derived.Laws.LoneSync
import Derived.Laws.Pointers
import Derived.Lib.AppendZeros
import Derived.RegionCalls
import Derived.RegionTactic
import Derived.Test.YtncnkiabjhhclaaGreatDoorBgKu
set_option maxRecDepth 100000
set_option maxHeartbeats 8000000
set_option linter.all false
namespace Go.Proofs.YtncnkiabjhhclaaGreatDoor
open Go.Proofs.Tryz
variable{cu:Array Value}{cs:List (Value×Nat)}{ts xs:List Value}{B bv cap m m1 m2 pb sz:Nat}{ty:TypeId}{px rv sv tv:Value}{V W W' W0 wb:World}
def uZ:=@Go.bodyPost_ret
def rO:=@Go.results_none
def ku{p:Prop}(h:p:=by go_wp2;go_end0;exact⟨rfl,rfl⟩):p:=h
def u7:=@Go.leaves_cons
def ve{p:Prop}(h:p:=by simp[go_sem]):p:=h
def vg{p:Prop}(h:p:=by
 intro j u h;match j with
 |0=>simp at h;subst h;simp[Addr.add]
 |1=>simp at h;subst h;simp[Addr.add]
 |n+2=>simp at h):p:=h
open Go.RowKit
def ZEv(W0 W)(b x bv bs)(rv tv FE)(bg)(vs)(row)(n k:Nat)(h:Jt W0 W b x bv bs rv tv bg vs)(hr:xD W0 FE row)(hl:row.length<=1000)(AA:bg.ix.wR.length<=90000)(zl:bg.rows.length<=90000)(hn:n≠0)(Jh:n<=1000000)(hN:((bg.ix.number row).at_ row).getD 0=k)(hk:k<bg.rows.length)(BP:k<bg.times.length)(C9:bg.times[k]<=1000000000000):
  Calls prog 175 #[vU b,FE,.int .i64 n] W λe W'=>e= .returned (.tuple #[])/\∃wn,yJ W0.heap.size b (vU x) wn rv tv rv tv bg.rows.length bg.rows.length vs (Ec (bg.times.modify k (·+n))) W'/\Eu wn x bv bs (bg.ix.number row)/\Ox [bv,bs] W wn:=by
 have HN:=vR (Zeh W x bv bs bg.ix FE row h.ix (hr.same (KT.vZ h.low) (ts:= [80]) ae) hl Z (by have:=h.Ve;omega) h.ne);rw[hN]at HN;have Ch:=xH h.obj;have DL:((n:Int)==0)=false:=bO
 have hkn:((k:Int)==(bg.rows.length:Int))=false:=by simp;omega
 have Lf:Hid (∀g∈ [bv,bs],∀cu ty fr,W.heap[g]?≠some (.cells cu ty fr)):=λg hg cu ty fr e=>by
  exact Z0E
 obtain⟨ra,rc,rfl,_⟩:=hr;obtain⟨ga,gc,rfl⟩:=yN h.rows;obtain⟨g8,D5,cu8,rfl,Fs,ZJ⟩:∃g c cu,tv= .slice (some ⟨g,0,none⟩) bg.rows.length c/\W0.heap.size<=g/\W.heap[g]? =some (.cells cu 3):=by
  rcases h.times.2 with⟨e,h0⟩|⟨g,c,cu,e,hb,hh,_⟩
  ·omega
  ·exact⟨g,c,cu,e,hb,hh⟩
 have HB:=vR h;clear h hN;unfold vU at *;go_enter func175,ntmps175;go_wp2_with fail;refine HN.out.mono ?_;rintro e w1 ⟨rfl,zH,xu⟩;have OY:yJ W0.heap.size b (vU x) w1 (.slice ga bg.rows.length gc) (.slice (some ⟨g8,0,none⟩) bg.rows.length D5) (.slice ga bg.rows.length gc) (.slice (some ⟨g8,0,none⟩) bg.rows.length D5) bg.rows.length bg.rows.length vs (Ec bg.times) w1:=by
  exact kT
 have V4:=vR (oG zH xu);obtain⟨yV,Aa,Ci,yj⟩:=OY.cells;have pv:=OY.o2.cells (g:=g8) rfl k (.int .i64 (bg.times[k]:Nat)) (by simp[Ec,BP]);rw[uY,o9]at pv;have Zi2:=(xu.block g8 (wo ZJ) (λhm=>Lf.out g8 hm _ _ _ ZJ)).trans ZJ;have hfz:w1.frozen? ⟨g8,k,none⟩=false:=by simp[World.frozen?,Zi2]
 have GX:=vR OY;have JY:Hid (∀u,u=Value.int .i64 ((bg.times[k]:Int)+n)->yJ W0.heap.size b (vU x) w1 (.slice ga bg.rows.length gc) (.slice (some ⟨g8,0,none⟩) bg.rows.length D5) (.slice ga bg.rows.length gc) (.slice (some ⟨g8,0,none⟩) bg.rows.length D5) bg.rows.length bg.rows.length vs (Ec (bg.times.modify k (·+n))) (w1.setCell ⟨g8,k,none⟩ u)):=vR λu hu=>by
  have h:=GX.out;have ZfS:=Zpx (k:=k) (u:=u) h.o2;refine⟨Ia h.o1 (λe=>?_),?_,(uX _ _ _ _ (λe=>by have e2:b=g8:=e;have h3:=h.Bi;rw[e2,Zi2]at h3;cases h3)).trans h.Bi,λg ob k1 k2=>(uX _ _ _ _ (λe=>by have e2:g=g8:=e;rw[e2,Zi2]at k2;cases k2;exact(k1 _ _ _ rfl).2.1 rfl)).trans k2,(uQ _ _).setCell (p:=⟨g8,k,none⟩) Fs _,by simpa using h.le,h.gb⟩
  ·rcases h.o1.2 with⟨e1,_⟩|⟨g,c,cu,e1,hb,hh,_⟩
   ·rw[e1]at e;cases e
   ·rw[e1]at e;cases e;rw[Zi2]at hh;cases hh
  ·rw[<-ZT8 bg.times k n BP,<-hu];exact ZfS
 clear OY zH xu HN HB Lf;go_wp2_with fail;go_end0;exact⟨rfl,w1,JY.out _ rfl,V4.out.1,V4.out.2⟩
def ZxV{l:List vS}{x:vS}{i:Nat}(h:l.idxOf? x=some i):i<l.length:=by
 unfold List.idxOf? at h;exact(List.findIdx?_eq_some_iff_getElem.1 h).1
def Zj6(ix:Ix)(row):(((ix.number row).at_ row).getD 0=ix.keys.length/\(ix.number row).keys.length=ix.keys.length+1)\/(((ix.number row).at_ row).getD 0<ix.keys.length/\(ix.number row).keys.length=ix.keys.length):=by
 obtain⟨k,hk,he,ha⟩:=ZyY ix row;rw[ha,he];simp only[Option.getD_some];by_cases hm:k∈ix.keys
 ·right;have:∃i,ix.keys.idxOf? k=some i:=by
   cases h:ix.keys.idxOf? k with
   |none=>exact absurd hm (Zf5 h)
   |some i=>exact⟨i,rfl⟩
  obtain⟨i,hi⟩:=this;refine⟨?_,by simp[Bh,hm]⟩;unfold Pw;rw[hi];exact ZxV hi
 ·left;refine⟨?_,by simp[Bh,hm]⟩;unfold Pw;cases h:ix.keys.idxOf? k with
  |none=>rfl
  |some i=>exact absurd (ZjQ h) hm
def ZAR{n b}{w}{r t}{vs}(h:yJ n b px wb r t rv tv m1 m2 vs ts w){x bs}{ix}(hi:Eu wb x bv bs ix):Eu w x bv bs ix:=by
 obtain⟨ev,cv,h2,_⟩:=hi.wR;obtain⟨es,cs,h3,_⟩:=hi.keys;exact hi.same ((h.wJ _ _ (ZSU _) hi.obj).trans hi.obj.symm) ((h.wJ _ _ (ZAr _ _) h2).trans h2.symm) ((h.wJ _ _ (ZAr _ _) h3).trans h3.symm)
def ZAS{n b}{w}{r t}{vs}{bs:Nat}(h:yJ n b px wb r t rv tv m1 m2 vs ts w)(hO:Ox [bv,bs] W wb):∀g ob,Qc ob->g≠bv->g≠bs->W.heap[g]? =some ob->w.heap[g]? =some ob:=
 λg ob hs h1 h2 he=>h.wJ g ob hs ((hO.block g (wo he) (by simp[h1,h2])).trans he)
def Jt.wJ{b x bs}{bg}{vs}(h:Jt W0 W b x bv bs rv tv bg vs)(hB:vV W W'):Jt W0 W' b x bv bs rv tv bg vs:=
 ⟨h.low.trans (hB.mono h.low.size),xq hB h.obj,h.ix.below hB,h.ne,zC h.rows hB,h.wR,zC h.times hB,h.Rn,h.Ve,h.gb,h.gx,h.gv,h.gs⟩
def Zzh{wn}{bs:Nat}(h:vV W0 W)(ho:Ox [bv,bs] W wn)(gv:W0.heap.size<=bv)(gs:W0.heap.size<=bs):vV W0 wn:=
 ⟨ho.os.trans h.os,ho.tape.trans h.tape,ho.output.trans h.output,om h.size ho.size,λg hg=>(ho.block g (oU hg h.size) ah).trans (h.block g hg)⟩
def ZEt(W0 W)(b x bv bs)(rv tv FE)(bg)(vs)(row)(h:Jt W0 W b x bv bs rv tv bg vs)(hr:xD W0 FE row):
  Calls prog 175 #[vU b,FE,.int .i64 0] W λe W'=>e= .returned (.tuple #[])/\W'=W:=by
 obtain⟨ra,rc,rfl,_⟩:=hr;clear h;unfold vU;go_enter func175,ntmps175;go_wp2_with fail;exact uZ (rO rfl _ _ _) rfl ⟨rfl,rfl⟩
structure VO (bg:xk) (row:List wG) (n:Nat):Prop where
 row:row.length<=1000
 wR:bg.ix.wR.length<=90000
 rows:bg.rows.length<=90000
 n:n<=1000000
 times:∀t∈bg.times,t<=1000000000000
def Zl1(W0 W)(b x bv bs)(rv tv FE)(bg)(vs)(row)(n)(h:Jt W0 W b x bv bs rv tv bg vs)(hr:xD W0 FE row)(ok:VO bg row n):
  Calls prog 175 #[vU b,FE,.int .i64 n] W λe W'=>e= .returned (.tuple #[])/\(∃Ri Tn vs',Jt W0 W' b x bv bs Ri Tn (bg.add row n) vs')/\∀g ob,Qc ob->g≠bv->g≠bs->W.heap[g]? =some ob->W'.heap[g]? =some ob:=by
 by_cases hn:n=0
 ·subst hn;refine(ZEt W0 W b x bv bs rv tv FE bg vs row h hr).mono ?_;rintro e w ⟨rfl,rfl⟩;exact⟨rfl,⟨rv,tv,vs,by simpa[xk.add]using h⟩,λ_ _ _ _ _ e=>e⟩
 ·rcases Zj6 bg.ix row with⟨h1,h2⟩|⟨h1,h2⟩
  ·have hN:=h1.trans h.Ve;refine(ZEu W0 W b x bv bs rv tv FE bg vs row n h hr ok.row ok.wR ok.rows hn ok.n hN).mono ?_;rintro e w ⟨rfl,Ri,Tn,wn,hT,hI,hO⟩;refine⟨rfl,⟨Ri,Tn,vs++ [FE],?_⟩,ZAS hT hO⟩;have e:bg.add row n=⟨bg.ix.number row,bg.rows++ [row],bg.times++ [n]⟩:=by simp[xk.add,hn,hN]
   rw[e];refine⟨(Zzh h.low hO h.gv h.gs).trans hT.low,hT.Bi,ZAR hT hI,h.ne,by simpa using hT.o1,⟨by simp[h.wR.1],λi hi Ck=>?_⟩,by simpa[Ec]using hT.o2,by simp[h.Rn],by simp[h2,h.Ve],h.gb,h.gx,h.gv,h.gs⟩;by_cases hl:i<vs.length
   ·have hl':i<bg.rows.length:=by rw[<-h.wR.1];exact hl
    simp only[pJ hl,pJ hl'];exact h.wR.2 i hl hl'
   ·have e1:i=vs.length:=by simp at hi;omega
    subst e1;have e2:=h.wR.1;simp only[List.getElem_concat_length];have:(bg.rows++ [row])[vs.length]'Ck=row:=by simp[e2]
    rw[this];exact hr
  ·have hlt:((bg.ix.number row).at_ row).getD 0<bg.rows.length:=by rw[<-h.Ve];exact h1
   have Zjh:((bg.ix.number row).at_ row).getD 0<bg.times.length:=by rw[h.Rn];exact hlt
   refine(ZEv W0 W b x bv bs rv tv FE bg vs row n _ h hr ok.row ok.wR ok.rows hn ok.n rfl hlt Zjh (ok.times _ (oC _))).mono ?_;rintro e w ⟨rfl,wn,hT,hI,hO⟩;refine⟨rfl,⟨rv,tv,vs,?_⟩,ZAS hT hO⟩;have e:bg.add row n=⟨bg.ix.number row,bg.rows,bg.times.modify (((bg.ix.number row).at_ row).getD 0) (·+n)⟩:=by
    have:¬((bg.ix.number row).at_ row).getD 0=bg.rows.length:=Z
    simp[xk.add,hn,this]
   rw[e];exact⟨(Zzh h.low hO h.gv h.gs).trans hT.low,hT.Bi,ZAR hT hI,h.ne,hT.o1,h.wR,hT.o2,by simp[h.Rn],h2.trans h.Ve,h.gb,h.gx,h.gv,h.gs⟩
def FN(W:World)(v:Value)(rows:List (List wG)):Prop:=
 ∃a cap,v= .slice a rows.length cap/\rows.length<=cap/\cap<=maxLen/\∀i (h:i<rows.length),∃g o cu rv,a=some ⟨g,o,none⟩/\W.heap[g]? =some (.cells cu 78)/\W.cell? ⟨g,o+i,none⟩=some rv/\xD W rv rows[i]
def YP(rows:List (List wG)):Prop:=rows.length<=90000/\∀k (h:k<rows.length),VO (xk.new (rows.take k)) rows[k] 1
def ZPh(rows:List (List wG))(k)(h:k<rows.length):xk.new (rows.take (k+1))=(xk.new (rows.take k)).add rows[k] 1:=by
 unfold xk.new;exact ng
def ZEB{x bs}(hI:Eu W' x bv bs {})(hB:vV W W')(hx:W.heap.size<=x)(hv:W.heap.size<=bv)(hs:W.heap.size<=bs)(wF:bv≠bs):
  Jt W (W'.alloc (.cells #[vU x,.slice none 0 0,.slice none 0 0] 281)) W'.heap.size x bv bs (.slice none 0 0) (.slice none 0 0) {} []:=by
 have hA:vV W' (W'.alloc (.cells #[vU x,.slice none 0 0,.slice none 0 0] 281)):=(uQ _ W').alloc (nV _) _;exact⟨hB.trans (hA.mono hB.size),oK _ _,hI.below hA,wF,⟨rfl,.inl ⟨rfl,rfl⟩⟩,⟨rfl,λi h=>ax⟩,⟨rfl,.inl ⟨rfl,rfl⟩⟩,rfl,rfl,hB.size,hx,hv,hs⟩
def Zeg(W)(v)(rows)(hr:FN W v rows)(ok:YP rows):Calls prog 121 #[v] W λe W'=>∃b x bv bs rv tv vs,e= .returned (vU b)/\Jt W W' b x bv bs rv tv (xk.new rows) vs:=by
 have HN:=vR (Zl2 W);have hl:=ok.1;obtain⟨ra,rc,rfl,h1,h2,h3⟩:=hr;have HR:=vR h3;have ET:=vR ok;clear h3 ok;unfold vU at *;go_enter func121,ntmps121;go_wp2_with fail;refine HN.out.mono ?_;rintro e w1 ⟨x,bv,bs,rfl,hI,hB,hx,hv,hs,wF⟩;have HE:=vR (ZEB hI hB hx hv hs wF);unfold vU at HE;clear hI hB hx hv hs wF HN;generalize hb:w1.heap.size=b at HE;go_wp2_with fail;go_loopg [11] (rows.length+1) (λgk iv wr=>∃k:Nat,k<=rows.length/\gk=rows.length-k+1/\iv= .int .i64 k/\Hid (∃rv tv vs,Jt W wr b x bv bs rv tv (xk.new (rows.take k)) vs));case atStart=>exact⟨0,Z,Z,rfl,vR ⟨_,_,_,HE.out⟩⟩
 case round=>
  obtain⟨k,hk,rfl,rfl,hI⟩:=hrel;by_cases hlt:k<rows.length
  ·obtain⟨rv,tv,vs,Lx⟩:=hI.out;obtain⟨g,o,cu,Ih,rfl,hg,Bl,hvr⟩:=HR.out k hlt;have DI:wr.cell? ⟨g,o+k,none⟩=some Ih:=by
    have:=Lx.low.block g (wo hg);simpa[World.cell?,this]using Bl
   have HA:=vR (Zl1 W wr b x bv bs rv tv Ih (xk.new (rows.take k)) vs rows[k] 1 Lx hvr (ET.out.2 k hlt));rw[<-ZPh rows k hlt]at HA;unfold vU at HA;obtain⟨qa,qc,rfl,_⟩:=hvr;clear Lx Bl hg hI;go_wp2_with fail;refine HA.out.mono ?_;rintro e w2 ⟨rfl,IG,_⟩;have HPo:=vR IG;clear IG;go_wp2_with fail;go_roundg (rows.length-(k+1)+1);case measure=>omega
   case rel=>exact⟨k+1,Z,rfl,ak,HPo⟩
  ·have ek:k=rows.length:=by omega
   subst ek;go_wp2_with fail;go_ret;obtain⟨rv,tv,vs,Lx⟩:=hI.out;rw[tH]at Lx;exact⟨b,x,bv,bs,rv,tv,vs,rfl,Lx⟩
def ZIq(W)(n:Nat)(h0:0<n)(hn:n<=100000):Calls prog 299 #[.slice none 0 0,.int .i64 n] W λe W'=>∃v,e= .returned v/\W'.ownsRow W.heap.size 80 1 v 0 []/\vV W W':=by
 obtain⟨i0,zB,hz0,yo,hz2⟩:=uV Tryz.U6;have ZJQ:=Lib.run_append_nil_zeros (P:=prog) W 78 3 78 80 i0 .nilIface .i64 .i64 underlying78 underlying3 zB hz0 n h0 Z Z (by rw[hz2];omega);have UN:=grownCap_ge W n 0 80;have QB:=grownCap_le_maxLen W n 0 80 aj;generalize hq:grownCap W n 0 80=q at *;clear hq;have hqm:(q:Int)<=9223372036854775807:=by unfold maxLen at QB;omega
 go_enter func299,ntmps299;go_wp2_with (at_builtin;refine Lib.wpList_append_run _ rfl _ _ _ _ rfl _ _ rfl rfl _ _ ZJQ ?_);go_ret;refine⟨_,rfl,⟨rfl,.inr ⟨W.heap.size,q,_,rfl,nV _,oK W.drew _,pI _,QB,?_,ae⟩⟩,(FR (uQ _ W)).alloc ae _⟩;simp only[Array.size_append,size_zeroCells];simp;omega
def Zd1(W:World)(v:Value)(vs:List wG):Prop:=xD W v vs/\(vs= []->v= .slice none 0 0)
def ZqM(vs:List wG):∀u∈vs.map xe,u.oneCell'=true:=λu h=>by
 obtain⟨v,_,rfl⟩:=qm.1 h;cases v<;>rfl
def ZqN{g o c:Nat}{vs:List wG}(h:xD W (.slice (some ⟨g,o,none⟩) vs.length c) vs)(hB:vV W W'):∀j u,(vs.map xe)[j]? =some u->W'.cell? ((⟨g,o,none⟩:Addr).add j)=some u:=by
 obtain⟨a,cap,e,_,_,h3⟩:=h;cases e;intro j u hj;rw[rP]at hj;cases hv:vs[j]? with
 |none=>rw[hv]at hj;cases hj
 |some v=>
  rw[hv]at hj;cases hj;obtain⟨hl,hv'⟩:=qP.1 hv;obtain⟨g',o',cu,e,hg,hc⟩:=h3 j hl;cases e;rw[uY,<-hv'];exact wT hB (wo hg) hc
def ZpA{v:Value}{vs:List wG}(ho:W.ownsRow B 80 1 v vs.length (vs.map xe)):xD W v vs:=by
 rcases ho.2 with⟨rfl,h0⟩|⟨g,cap,cur,rfl,hb,hh,hc,hm,_⟩
 ·exact⟨none,0,bB,Z,Z,λi hi=>Z⟩
 ·refine⟨_,cap,rfl,hc,hm,λi hi=>?_⟩;have h1:=ho.cells (g:=g) rfl i (xe vs[i]) (by simp[hi]);rw[uY]at h1;exact⟨g,0,cur,rfl,hh,h1⟩
def ZIn(W)(sb)(lv rv)(l r)(hs:W.heap[sb]? =some (.cells #[lv,rv] 78))(hl:Zd1 W lv l)(hr:xD W rv r)(h0:0<r.length)(hm:l.length+r.length<=1000):Calls prog 246 #[.slice (some ⟨sb,0,none⟩) 2 2] W λe W'=>∃v,e= .returned v/\xD W' v (l++r)/\vV W W':=by
 obtain⟨i0,zB,hz0,yo,hz2⟩:=uV Tryz.U6;have HL:=vR hl;have HR:=vR hr;have hsl:=(wo hs);obtain⟨⟨la,lc,rfl,_⟩,Kl⟩:=hl;obtain⟨ra,rc,rfl,_,_,BR⟩:=hr;obtain⟨rg,ro,_,rfl,_⟩:=BR 0 h0;have c0:=xH hs;have c1:=zS hs;have HG:=vR (ZIq W (l.length+r.length) Z Z);clear BR Kl hs;go_enter func246,ntmps246;go_wp2_with fail;go_loop [3,11] (λsv iv=>∃k z:Nat,k<=2/\iv= .int .i64 k/\sv= .int .i64 z/\Hid ((k=0->z=0)/\(k=1->z=l.length)/\(k=2->z=l.length+r.length))) (λsv iv=>2-(intOf iv).toNat);case atStart=>exact⟨0,0,Z,rfl,rfl,ae,ae,ae⟩
 case round=>
  obtain⟨k,z,hk,rfl,rfl,hz⟩:=hrel;rcases(by omega:k=0\/k=1\/k=2)with rfl|rfl|rfl
  ·obtain rfl:=hz.out.1 rfl;go_wp2_with fail;exact⟨⟨1,l.length,Z,ak,ak,ae,ae,ae⟩,by simp[intOf]⟩
  ·obtain rfl:=hz.out.2.1 rfl;go_wp2_with fail;exact⟨⟨2,l.length+r.length,Z,ak,ak,ae,ae,ae⟩,by simp[intOf]⟩
  ·obtain rfl:=hz.out.2.2 rfl;go_wp2_with fail;refine HG.out.mono ?_;rintro e w1 ⟨v,rfl,wD,hB⟩;go_wp2_with fail;go_loopg [6,27] 3 (λgk v iv wr=>∃(k:Nat) (xs:List wG),k<=2/\gk=3-k/\iv= .int .i64 k/\wr.ownsRow W.heap.size 80 1 v xs.length (xs.map xe)/\vV W wr/\xs.length<=1000/\Hid ((k=0->xs= [])/\(k=1->xs=l)/\(k=2->xs=l++r)));case atStart=>exact⟨0, [],Z,Z,rfl,wD,hB,ae,ae,ae,ae⟩
   case round=>
    obtain⟨k,xs,hk,rfl,rfl,wD,hB,Dx,hz⟩:=hrel;have yA:=hB.size;rcases(by omega:k=0\/k=1\/k=2)with rfl|rfl|rfl
    ·obtain rfl:=hz.out.1 rfl;have d0:=wT hB hsl c0;by_cases hle:l= []
     ·have ZoA:=HL.out.2 hle;simp only[Value.slice.injEq]at ZoA;obtain⟨rfl,hxx,rfl⟩:=ZoA;clear hxx;have Jg:l.length=0:=by rw[hle];rfl
      rw[Jg]at d0;have HE:=vR hle;clear c0 c1 Jg hle;go_wp2_with (at_builtin;refine wpList_append_own_none rfl _ _ 78 rfl W.heap.size 80 i0 1 underlying78 zB _ 0 [] rfl wD rfl ?_);go_roundg 2;case measure=>omega
      case rel=>exact⟨1, [],Z,rfl,ak,wD,hB,ae,ae,by simp[HE.out],ae⟩
     ·obtain⟨a',c',ee,_,_,h3⟩:=HL.out.1;cases ee;obtain⟨lg,lo,_,rfl,_⟩:=h3 0 (rW.2 hle);have HLs:=vR (ZqN HL.out.1 hB);clear c0 c1 h3;go_wp2_with (at_builtin;refine uW _ rfl _ _ 78 rfl W.heap.size 80 i0 .nilIface 1 16 underlying78 zB hz0 yo hz2 rfl O _ _ _ rfl wD ⟨lg,lo,none⟩ l.length lc (l.map xe) rfl ae HLs.out (ZqM l) (by simp[maxLen];omega) ah yA ?_;intro v' w6 zm xQ _);go_roundg 2;case measure=>omega
      case rel=>exact⟨1,l,Z,rfl,ak,dm,hB.grown xQ yA (λk e=>(wD.lt k e).1),Z,ae,ae,ae⟩
    ·have e1:=hz.out.2.1 rfl;rw[e1]at wD;clear hz Dx e1;have d1:=wT hB hsl c1;have HRs:=vR (ZqN HR.out hB);clear c0 c1;go_wp2_with (at_builtin;refine uW _ rfl _ _ 78 rfl W.heap.size 80 i0 .nilIface 1 16 underlying78 zB hz0 yo hz2 rfl O _ _ _ rfl wD ⟨rg,ro,none⟩ r.length rc (r.map xe) rfl ae HRs.out (ZqM r) aj Z yA ?_;intro v' w6 zm xQ _);go_roundg 1;case measure=>omega
     case rel=>exact⟨2,l++r,Z,rfl,ak,dm,hB.grown xQ yA (λk e=>(wD.lt k e).1),ah,ae,ae,ae⟩
    ·obtain rfl:=hz.out.2.2 rfl;have HV:=vR (ZpA wD);obtain⟨xa,xc,hxv⟩:=yN wD;subst hxv;rw[o6]at HV;clear wD;go_wp2_with fail;go_ret;exact⟨_,rfl,HV.out,hB⟩
def ZBh(w):(callFunc 315 #[]).run prog w= .ok (.value (.tuple #[])) w:=run_call_mark0 func315 uO uO uO .disable uO w
def ZBj(w):(callFunc 317 #[]).run prog w= .ok (.value (.tuple #[])) w:=run_call_mark0 func317 uO uO uO .enable uO w
def ZU5(a)(w):(callFunc 318 #[.pointer (some a)]).run prog w= .ok (.value (.tuple #[])) w:=run_call_marked func318 uO uO uO .acquire uO a w
def ZU6(a)(w):(callFunc 362 #[.pointer (some a)]).run prog w= .ok (.value (.tuple #[])) w:=run_call_marked func362 uO uO uO .releaseMerge uO a w
def ZU8(a)(x)(u)(w)(hc:w.cell? a=some x)(hz:w.frozen? a=false):
  CallsD prog 298 #[.pointer (some a),.bool true] u w λe u' w'=>u'=u/\(e= .returned (.tuple #[])/\w'=w.drew.setCell a (.int .u32 1)):=by
 have LA:w.drew.cell? a=some x:=by go_simp
 have hz':w.drew.frozen? a=false:=by go_simp
 have yI:=run_call_store (P:=prog) func347 uO uO uO uO (k:=.u32) (y:=1) LA hz';go_enter_d func298,ntmps298;go_wp2;go_region_calls;all_goals (go_end0;exact⟨rfl,rfl⟩)
def Zg0(a)(u)(w)(hc:w.cell? a=some (.int .i32 1))(hz:w.frozen? a=false):
  CallsD prog 297 #[.pointer (some a)] u w λe u' w'=>u'=u/\(e= .returned (.tuple #[])/\w'=w.setCell a (.int .i32 0)):=by
 have hd:=ZBh;have he:=ZBj;have hr:=ZU6;have ZvI:=run_call_add (P:=prog) func388 uO uO uO .i32 uO (y:= -1) (s:=0) hc hz (by simp[go_sem];rfl);have Bl:=run_convert_to_unsafe (P:=prog) (src:=593) (dst:=96) underlying593 underlying96 uO hc;go_enter_d func297,ntmps297;go_wp2;go_end0;exact ku
def ZgZ(a)(w)(hc:w.cell? a=some (.int .i32 0))(hz:w.frozen? a=false):
  Calls prog 296 #[.pointer (some a)] w λe w'=>e= .returned (.tuple #[])/\w'=w.setCell a (.int .i32 1):=by
 have hd:=ZBh;have he:=ZBj;have ha:=ZU5;have ZW5:=run_call_cas_hit (P:=prog) func386 uO uO uO .i32 uO (y:=1) hc hz;have LA:(w.setCell a (.int .i32 1)).cell? a=some (.int .i32 1):=World.cell?_setCell_same w a _ hc;have Bl:=run_convert_to_unsafe (P:=prog) (src:=593) (dst:=96) underlying593 underlying96 uO LA;go_enter func296,ntmps296;go_wp2;first|go_end0|(simp only[Exit.inBlock,Exit.then];refine uZ (rO rfl _ _ _) rfl ?_)|refine uZ (rO rfl _ _ _) rfl ?_
 exact ku
def YR(w:World)(b off:Nat)(d l:Int):Prop:=w.cell? ⟨b,off,none⟩=some (.int .u32 d)/\w.cell? ⟨b,off+1,none⟩=some (.int .i32 l)/\w.frozen? ⟨b,off,none⟩=false/\w.frozen? ⟨b,off+1,none⟩=false
def ZU7(b off K)(cap)(w)(R:World->Prop)(h:YR w b off 0 0)(hE:yH K)(hK:Calls prog K cap (w.setCell ⟨b,off+1,none⟩ (.int .i32 1)) λe w2=>e= .returned (.tuple #[])/\YR w2 b off 0 1/\R w2):
  Calls prog 245 #[.pointer (some ⟨b,off,none⟩),.func (.func K) #[] cap] w λe w'=>e= .returned (.tuple #[])/\∃w2,YR w2 b off 0 1/\R w2/\w'=(w2.drew.setCell ⟨b,off,none⟩ (.int .u32 1)).setCell ⟨b,off+1,none⟩ (.int .i32 0):=by
 obtain⟨h0,h1,f0,f1⟩:=h;have hl:=run_call_load (P:=prog) func295 uO uO uO .u32 uO (w:=w.setCell ⟨b,off+1,none⟩ (.int .i32 1)) (a:=⟨b,off,none⟩) (x:=0) ((World.cell?_setCell_other _ ⟨b,off+1,none⟩ ⟨b,off,none⟩ _ ae).trans h0);have Z5:∀(x:Bool) (w:World),(Op.unary .not (.bool x)).run prog w= .ok (.bool (!x)) w:=λ_ _=>rfl;unfold yH at hE;have HK:=vR hK;clear hK;go_enter_defers func245,ntmps245;go_wp2_with (first|(go_at_call 296;refine(ZgZ ⟨b,off+1,none⟩ _ (by go_simp) (by go_simp)).mono ?_;rintro e w' ⟨rfl,rfl⟩)|(go_at_call 244;go_in));refine HK.out.mono ?_;rintro e w2 ⟨rfl,ho,hR⟩;obtain⟨g0,g1,k0,k1⟩:=ho;go_wp2_with fail;refine u7 (f:=298) (args:=#[.pointer (some ⟨b,off,none⟩),.bool true]) ae ve ?_;refine(ZU8 ⟨b,off,none⟩ (.int .u32 0) .returning _ g0 (by simp[k0])).mono ?_;rintro e u' GU ⟨rfl,rfl,rfl⟩;refine u7 (f:=297) (args:=#[.pointer (some ⟨b,off+1,none⟩)]) (by simp[settle]) ve ?_;refine(Zg0 ⟨b,off+1,none⟩ _ _ ?_ (by simp[k1])).mono ?_
 ·refine(World.cell?_setCell_other _ ⟨b,off,none⟩ ⟨b,off+1,none⟩ _ ae).trans ?_;rw[World.cell?_drew];exact g1
 rintro e u' GU ⟨rfl,rfl,rfl⟩;exact⟨_,rO rfl _ _ _,rfl,w2,⟨g0,g1,k0,k1⟩,hR,rfl⟩
def ZBk(b off K)(cap)(w)(R:World->Prop)(h:YR w b off 0 0)(hE:yH K)(hK:Calls prog K cap (w.setCell ⟨b,off+1,none⟩ (.int .i32 1)) λe w2=>e= .returned (.tuple #[])/\YR w2 b off 0 1/\R w2):
  Calls prog 184 #[.pointer (some ⟨b,off,none⟩),.func (.func K) #[] cap] w λe w'=>e= .returned (.tuple #[])/\∃w2,YR w2 b off 0 1/\R w2/\w'=(w2.drew.setCell ⟨b,off,none⟩ (.int .u32 1)).setCell ⟨b,off+1,none⟩ (.int .i32 0):=by
 have HS:=vR (ZU7 b off K cap w R h hE hK);have hl:=run_call_load (P:=prog) func295 uO uO uO .u32 uO h.1;have Z5:∀(x:Bool) (w:World),(Op.unary .not (.bool x)).run prog w= .ok (.bool (!x)) w:=λ_ _=>rfl;clear hK h;go_enter func184,ntmps184;go_wp2_with (first|(go_at_call 245;refine HS.out.mono ?_;rintro e w' ⟨rfl,hw⟩)|(go_at_call 244;go_in));go_end0;exact⟨rfl,hw⟩
def ZBi(a)(fv)(w)(h0:w.cell? a=some (.int .u32 1)):
  Calls prog 184 #[.pointer (some a),fv] w λe w'=>e= .returned (.tuple #[])/\w'=w:=by
 have hl:=run_call_load (P:=prog) func295 uO uO uO .u32 uO h0;have Z5:∀(x:Bool) (w:World),(Op.unary .not (.bool x)).run prog w= .ok (.bool (!x)) w:=λ_ _=>rfl;go_enter func184,ntmps184;exact ku
def Rt(W0:World)(cs:List (Value×Nat))(l:List (List wG×Nat)):Prop:=cs.length=l.length/\∀i (h:i<cs.length) (h':i<l.length),cs[i].2=l[i].2/\xD W0 cs[i].1 l[i].1/\l[i].1.length<=1000
def ZrX(ob:Obj):Prop:=∀cu ty fr,ob= .cells cu ty fr->ty≠191/\ty≠197
structure PB (B:Nat) (W0 W:World):Prop where
 lo:Below B W0 W
 bl:∀(g:Nat) (ob:Obj),W0.heap[g]? =some ob->ZrX ob->W.heap[g]? =some ob
def PB.refl(B)(W):PB B W W:=⟨uQ _ _,λ_ _ e _=>e⟩
theorem PB.trans{a b c}(h:PB B a b)(k:PB B b c):PB B a c:=⟨h.lo.trans k.lo,λg ob e hn=>k.bl g ob (h.bl g ob e hn) hn⟩
def PB.vZ(hB:vV W W')(hs:B<=W.heap.size):PB B W W':=⟨hB.mono hs,λg ob e _=>xq hB e⟩
def PB.set{g o:Nat}{u:Value}{fr:Nat×Nat}(h:PB B W0 W)(hg:B<=g)(e:W.heap[g]? =some (.cells cu ty fr))(ht:ty=191\/ty=197):PB B W0 (W.setCell ⟨g,o,none⟩ u):=
 ⟨h.lo.setCell (p:=⟨g,o,none⟩) hg u,λg' ob e' hn=>(uX W ⟨g,o,none⟩ u g' (λe2=>by
  have e3:g'=g:=e2;have:=h.bl g' ob e' hn;rw[e3,e]at this;cases this;have:=hn _ _ _ rfl;rcases ht with h|h
  ·exact this.1 h
  ·exact this.2 h)).trans (h.bl g' ob e' hn)⟩
def PB.wR(h:PB B W0 W){v}{vs}(hv:xD W0 v vs):xD W v vs:=by
 refine hv.same (ts:= [80]) (λg cu ty ht e=>h.bl g _ e (λ_ _ _ e2=>?_)) ae;cases e2;have:ty=80:=dB
 subst this;exact⟨O,O⟩
structure AU (B:Nat) (V W0 W:World) (pb:Nat) (sv:Value) (cs:List (Value×Nat)) (l:List (List wG×Nat)):Prop where
 low:PB B W0 W
 obj:W.heap[pb]? =some (.cells #[sv] 191)
 own:W.ownsRow B 197 2 sv cs.length (cs.flatMap λc=> [c.1,.int .i64 (c.2:Int)])
 cnt:Rt V cs l
 ge:B<=pb
 vv:KT [80] V W0
theorem ZtS:∀(cs:List (Value×Nat)) i (h:i<cs.length),(cs.flatMap λc=> [c.1,Value.int .i64 (c.2:Int)])[i*2]? =some cs[i].1/\(cs.flatMap λc=> [c.1,Value.int .i64 (c.2:Int)])[i*2+1]? =some (.int .i64 cs[i].2)
 |c::cs,0,h=>ae
 |c::cs,i+1,h=>by
  have ih:=ZtS cs i ay;have e:∀j,((c::cs).flatMap λc=> [c.1,Value.int .i64 (c.2:Int)])[j+2]? =(cs.flatMap λc=> [c.1,Value.int .i64 (c.2:Int)])[j]? :=λj=>ae
  exact nD
theorem AU.slice{l}(h:AU B V W0 W pb sv cs l):∃a c,sv= .slice a l.length c:=by
 rcases h.own.2 with⟨rfl,h0⟩|⟨g,cap,cur,rfl,_⟩
 ·exact⟨none,0,by rw[<-h.cnt.1,h0]⟩
 ·exact⟨_,_,by rw[<-h.cnt.1]⟩
theorem AU.at{l}(h:AU B V W0 W pb sv cs l)(i)(hi:i<l.length):∃g cap,sv= .slice (some ⟨g,0,none⟩) l.length cap/\B<=g/\(∃cu,W.heap[g]? =some (.cells cu 197))/\∃v n,cs[i]? =some (v,n)/\W.cell? ⟨g,i*2,none⟩=some v/\W.cell? ⟨g,i*2+1,none⟩=some (.int .i64 l[i].2)/\xD V v l[i].1/\l[i].1.length<=1000/\n=l[i].2:=by
 have hic:i<cs.length:=by rw[h.cnt.1];exact hi
 rcases h.own.2 with⟨_,h0⟩|⟨g,cap,cur,rfl,hb,hh,_⟩
 ·omega
 ·obtain⟨e1,e2⟩:=ZtS cs i hic;have h1:=h.own.cells (g:=g) rfl _ _ e1;have h2:=h.own.cells (g:=g) rfl _ _ e2;rw[uY,o9]at h1 h2;obtain⟨c1,c2,c3⟩:=h.cnt.2 i hic hi;exact⟨g,cap,by rw[h.cnt.1],hb,⟨cur,hh⟩,cs[i].1,cs[i].2,by rw[oW hic],h1,by rw[h2,c1],c2,c3,c1⟩
def Zqy(W)(a)(n c):Calls prog 77 #[.slice a n c] W λe w'=>e= .returned (.int .i64 n)/\W=w':=by
 go_enter func77,ntmps77;exact uR
def ZgG(B)(V W0 W)(pb)(sv)(cs)(l)(h:AU B V W0 W pb sv cs l)(i j)(hi:i<l.length)(hj:j<l.length)(hl:l.length<=100000):Calls prog 462 #[sv,.int .i64 i,.int .i64 j] W λe w'=>e= .returned (.bool (decide (Ev l[i].1 l[j].1<0)))/\vV W w':=by
 obtain⟨g,cap,rfl,hg,_,v,n1,_,c1,c2,hv,AA,_⟩:=h.at i hi;obtain⟨g',zY,e',_,_,u,n2,_,d1,d2,hu,hul,_⟩:=h.at j hj;cases e';have HO:=vR (fun(w:World) (hB:vV W w)=>ZPy v u l[i].1 l[j].1 w ((h.low.wR (hv.same h.vv ae)).same (KT.vZ hB) (ts:= [80]) ae) ((h.low.wR (hu.same h.vv ae)).same (KT.vZ hB) (ts:= [80]) ae) AA hul);generalize Ev l[i].1 l[j].1=R at *;obtain⟨xa,xc,rfl,_⟩:=hv;obtain⟨ya,yc,rfl,_⟩:=hu;clear h;go_enter func462,ntmps462;go_wp2_with fail;go_region_with (go_at_call 466;refine(HO.out _ (FR (uQ _ _))).mono ?_;rintro e w1 ⟨rfl,rfl⟩);all_goals
  go_wp2;go_ret;exact⟨rfl,FR (uQ _ _)⟩
def Zqx{α:Type}(l:List α)(i j)(hi:i<l.length)(hj:j<l.length):EP l i j=(l.set i l[j]).set j l[i]:=by
 unfold EP;rw[oW hi,oW hj]
def Rt.swap{l}(h:Rt W0 cs l)(i j)(hi:i<l.length)(hj:j<l.length):Rt W0 (EP cs i j) (EP l i j):=by
 have hl:=h.1;rw[Zqx cs i j Z Z,Zqx l i j hi hj];refine⟨by simp[hl],λk hk BP=>?_⟩;have k1:k<cs.length:=bH
 have k2:k<l.length:=by simpa using BP
 simp only[List.getElem_set];by_cases ej:j=k
 ·simp only[ej,pX];exact h.2 i Z hi
 ·by_cases ei:i=k
  ·simp only[ej,ei,pX,qE];exact h.2 j Z hj
  ·simp only[ej,ei,qE];exact h.2 k k1 k2
def ZzM{g k:Nat}{v:Value}(h:W.heap[g]? =some (.cells cu ty))(hc:W.cell? ⟨g,k,none⟩=some v):k<cu.size:=by
 have:cu[k]? =some v:=by simpa[World.cell?,h]using hc
 exact(wo this)
theorem ZmL:∀(cs:List (Value×Nat)) i (c:Value×Nat) (h:i<cs.length),((cs.set i c).flatMap λc=> [c.1,Value.int .i64 (c.2:Int)])=((cs.flatMap λc=> [c.1,Value.int .i64 (c.2:Int)]).set (i*2) c.1).set (i*2+1) (.int .i64 (c.2:Int))
 |a::cs,0,c,h=>ae
 |a::cs,i+1,c,h=>by
  have ih:=ZmL cs i c ay;rw[List.set_cons_succ,sF,ih,sF,show(i+1)*2=i*2+2 from Z,show i*2+2+1=(i*2+1)+2 from Z];rfl
def Zj9{w:World}{e j g:Nat}(h:w.ownsRow B e sz (.slice (some ⟨g,0,none⟩) m cap) m xs)(u):(w.setCell ⟨g,j,none⟩ u).ownsRow B e sz (.slice (some ⟨g,0,none⟩) m cap) m (xs.set j u):=(World.ownsRow.stored h j u).1
def ZgH(B)(V W0 W)(pb)(sv)(cs)(l)(h:AU B V W0 W pb sv cs l)(i j)(hi:i<l.length)(hj:j<l.length)(hl:l.length<=100000):Calls prog 465 #[sv,.int .i64 i,.int .i64 j] W λe w'=>e= .returned (.tuple #[])/\AU B V W0 w' pb sv (EP cs i j) (EP l i j):=by
 obtain⟨g,cap,rfl,hg,⟨cu,KV⟩,v,n1,ZH,c1,c2,hv,AA,Gh⟩:=h.at i hi;obtain⟨g',zY,e',_,_,u,n2,Ke,d1,d2,hu,hul,JI⟩:=h.at j hj;cases e';have HH:=vR h;obtain⟨xa,xc,rfl,_⟩:=hv;obtain⟨ya,yc,rfl,_⟩:=hu;have fz:∀k,W.frozen? ⟨g,k,none⟩=false:=λk=>by simp[World.frozen?,KV]
 clear h;go_enter func465,ntmps465;go_wp2_with fail;have yA:j*2+1<cu.size/\i*2+1<cu.size:=by
  have En:=(ZzM KV d2);have Ay:=(ZzM KV c2);exact⟨En,Ay⟩
 have z1:=λx y=>(IU (zD (k:=i*2+1) (u:=y) (zD (k:=i*2) (u:=x) KV)) (k:=j*2) bZ).1;have z2:=λx y=>(IU (zD (k:=i*2+1) (u:=y) (zD (k:=i*2) (u:=x) KV)) (k:=j*2) bZ).2;have z3:=λx y v=>(IU (zD (k:=j*2) (u:=v) (zD (k:=i*2+1) (u:=y) (zD (k:=i*2) (u:=x) KV))) (k:=j*2+1) bZ).1;have z4:=λx y v=>(IU (zD (k:=j*2) (u:=v) (zD (k:=i*2+1) (u:=y) (zD (k:=i*2) (u:=x) KV))) (k:=j*2+1) bZ).2;have z5:=λx=>(IU (zD (k:=i*2) (u:=x) KV) (k:=i*2+1) bZ).1;have z6:=λx=>(IU (zD (k:=i*2) (u:=x) KV) (k:=i*2+1) bZ).2;have ES:Hid (AU B V W0 (((((W.setCell ⟨g,i*2,none⟩ (.slice ya l[j].1.length yc)).setCell ⟨g,i*2+1,none⟩ (.int .i64 l[j].2)).setCell ⟨g,j*2,none⟩ (.slice xa l[i].1.length xc)).setCell ⟨g,j*2+1,none⟩ (.int .i64 l[i].2)).drew) pb (.slice (some ⟨g,0,none⟩) l.length cap) (EP cs i j) (EP l i j)):=by
  have hp:=HH.out;have zM:=hp.cnt.1;have wF:pb≠g:=λe=>by have h1:=hp.obj;rw[e,KV]at h1;cases h1
  have wD:=hp.own;rw[zM]at wD;have o1:=(Zj9 wD (.slice ya l[j].1.length yc) (j:=i*2));have o2:=(Zj9 o1 (.int .i64 l[j].2) (j:=i*2+1));have o3:=(Zj9 o2 (.slice xa l[i].1.length xc) (j:=j*2));have o4:=(Zj9 o3 (.int .i64 l[i].2) (j:=j*2+1));have q1:=zD (k:=i*2) (u:=.slice ya l[j].1.length yc) KV;have q2:=zD (k:=i*2+1) (u:=.int .i64 l[j].2) q1;have q3:=zD (k:=j*2) (u:=.slice xa l[i].1.length xc) q2;have Aw:=(((hp.low.set hg KV (.inr rfl)).set hg q1 (.inr rfl)).set hg q2 (.inr rfl)).set (o:=j*2+1) (u:=.int .i64 l[i].2) hg q3 (.inr rfl);have ZnT:i<cs.length:=Z
  have ZnV:j<cs.length:=Z
  have ei:cs[i]=(.slice xa l[i].1.length xc,l[i].2):=by rw[oW ZnT]at ZH;rw[oN ZH,Gh]
  have ej:cs[j]=(.slice ya l[j].1.length yc,l[j].2):=by rw[oW ZnV]at Ke;rw[oN Ke,JI]
  refine⟨⟨FR Aw.lo,Aw.bl⟩,((uX _ _ _ _ wF).trans ((uX _ _ _ _ wF).trans ((uX _ _ _ _ wF).trans (uX _ _ _ _ wF)))).trans hp.obj,?_,hp.cnt.swap i j hi hj,hp.ge,hp.vv⟩;rw[Zqx cs i j ZnT ZnV,ei,ej,List.length_set,List.length_set,zM];rw[ZmL _ j _ (by simpa using ZnV),ZmL cs i _ ZnT];exact o4
 go_region_with (fail);all_goals
  go_wp2;go_end0;exact⟨rfl,ES.out⟩
def Tryz.ZMw:(prog.info? 197).map (λi=>(i.zero,i.size,i.bytes))=some (some (.agg #[.slice none 0 0,.int .i64 0]),2,32):=by kernel_rfl
def WJ(v:Value)(n:Nat):Value:=.iface 197 (.agg #[v,.int .i64 (n:Int)])
def ZAF(a)(n c)(k)(w):(Instr.typeAssert (.iface 197 (.agg #[.slice a n c,.int .i64 k])) 20 197 false).run prog w= .ok (.agg #[.slice a n c,.int .i64 k]) w:=by kernel_rfl
def Rt.snoc{l}(h:Rt W0 cs l){v}{n:Nat}{r}(hv:xD W0 v r)(hr:r.length<=1000):Rt W0 (cs++ [(v,n)]) (l++ [(r,n)]):=by
 refine⟨by simp[h.1],λi hi Ck=>?_⟩;by_cases hlt:i<cs.length
 ·exact mZ
 ·have Gg:i=cs.length:=by simp at hi;omega
  subst Gg;have hl:=h.1;simp[hl,hv,hr]
def Rt.init{l}(h:Rt W0 cs l):Rt W0 cs.dropLast l.dropLast:=by
 refine⟨by simp[h.1],λi hi Ck=>?_⟩;have h1:i<cs.length:=by simp at hi;omega
 have h2:i<l.length:=by simp at Ck;omega
 rw[uH,uH];exact h.2 i h1 h2
def Zmy{w:World}{n e:Nat}{v:Value}(h:w.ownsRow n e sz v m xs):w.drew.ownsRow n e sz v m xs:=h
def Zmx{w w':World}{r:Option Nat}(h:w.drew.grownBy w' r):w.grownBy w' r:=⟨h.os,h.tape,h.output,h.size,h.block⟩
def Zzd{w:World}{n e g o:Nat}{v u:Value}(h:w.ownsRow n e sz v m xs)(hn:some g≠v.ownBlock):(w.setCell ⟨g,o,none⟩ u).ownsRow n e sz v m xs:=by
 refine⟨h.1,?_⟩;rcases h.2 with h0|⟨g1,cap,cu,rfl,hb,hh,r⟩
 ·exact jg
 ·exact jl
def ZpZ(w:World)(n)(a b)(hn:w.heap.size=n):∀j u, [a,b][j]? =some u->(w.alloc (.cells #[a,b] ty)).cell? ((⟨n,0,none⟩:Addr).add j)=some u:=by
 subst hn;exact vg
def ZS6(B)(V W0 W)(pb)(sv)(cs)(l)(h:AU B V W0 W pb sv cs l)(v)(n)(r)(hv:xD V v r)(hr:r.length<=1000)(hl:l.length<=90000):Calls prog 464 #[vU pb,WJ v n] W λe w'=>e= .returned (.tuple #[])/\∃M7,AU B V W0 w' pb M7 (cs++ [(v,n)]) (l++ [(r,n)]):=by
 have HV:=vR hv;obtain⟨xa,xc,rfl,_⟩:=hv;have hta:=ZAF xa r.length xc;have Pj:=cF0 h.obj;obtain⟨U0,hpf⟩:=Pj;obtain⟨sa,sc,CL⟩:=h.slice;have hsl:cs.length<=90000:=by rw[h.cnt.1];exact hl
 obtain⟨i0,zB,hz0,yo,hz2⟩:=uV Tryz.ZMw;have HH:=vR h;have wD:=h.own;have hW:B<=W.heap.size:=by have:=(wo h.obj);have:=h.ge;omega
 have Zjx:=(wo h.obj);rw[h.cnt.1]at wD;clear h;subst CL;unfold vU WJ;go_enter func464,ntmps464;go_wp2_with fail;have hpA:=λo=>(uS W o ⟨pb,0,none⟩ Zjx).trans U0;have Gt:Hid (∀g c w',w'.ownsRow B 197 2 (.slice (some ⟨g,0,none⟩) (l.length+1) c) (l.length+1) ((cs.flatMap λc=> [c.1,Value.int .i64 (c.2:Int)])++ [.slice xa r.length xc,.int .i64 n])->(W.alloc (.cells #[.slice xa r.length xc,.int .i64 n] 197)).grownBy w' (Value.slice sa l.length sc).ownBlock->(w'.cell? ⟨pb,0,none⟩=some (.slice sa l.length sc)/\w'.frozen? ⟨pb,0,none⟩=false)/\AU B V W0 (w'.setCell ⟨pb,0,none⟩ (.slice (some ⟨g,0,none⟩) (l.length+1) c)) pb (.slice (some ⟨g,0,none⟩) (l.length+1) c) (cs++ [(.slice xa r.length xc,n)]) (l++ [(r,n)])):=by
  intro g c w' ho hg;have hp:=HH.out;have Zjs:w'.heap[pb]? =some (.cells #[.slice sa l.length sc] 191):=by
   have h0:(W.alloc (.cells #[.slice xa r.length xc,.int .i64 n] 197)).heap[pb]? =some (.cells #[.slice sa l.length sc] 191):=(ow _ _ _ Zjx).trans hp.obj;refine(hg.block pb ah (λe=>?_)).trans h0;rcases wD.2 with⟨e1,_⟩|⟨g1,c1,cu,e1,_,hh,_⟩
   ·rw[e1]at e;cases e
   ·rw[e1]at e;cases e;rw[hp.obj]at hh;cases hh
  have SH:g≠pb:=λe=>by
   rcases ho.2 with⟨e1,_⟩|⟨g1,c1,cu,e1,_,hh,_⟩
   ·cases e1
   ·cases e1;rw[e,Zjs]at hh;cases hh
  have BQ:PB B W0 w':=⟨(hp.low.lo.alloc hW _).grown hg ah (λk e=>(wD.lt k e).1),λy ob e hn=>by
   have h1:=hp.low.bl y ob e hn;have El:=(wo h1);refine(hg.block y ah (λe2=>?_)).trans ((ow _ _ _ El).trans h1);rcases wD.2 with⟨e1,_⟩|⟨g1,c1,cu,e1,_,hh,_⟩
   ·rw[e1]at e2;cases e2
   ·rw[e1]at e2;cases e2;rw[h1]at hh;cases hh;exact(hn _ _ _ rfl).2 rfl⟩
  refine⟨by simp[World.cell?,World.frozen?,Zjs],BQ.set hp.ge Zjs (.inl rfl),(by have:=zD (k:=0) (u:=.slice (some ⟨g,0,none⟩) (l.length+1) c) Zjs;show(w'.setCell ⟨pb,0,none⟩ (.slice (some ⟨g,0,none⟩) (l.length+1) c)).heap[pb]? =_;simpa using this),?_,hp.cnt.snoc HV.out hr,hp.ge,hp.vv⟩;rw[o6,hp.cnt.1,rQ];exact Zzd ho (λe=>SH (by cases e;rfl))
 go_region_law
  (first
   |(refine qz _ rfl _ _ 191 rfl B 197 i0 (.agg #[.slice none 0 0,.int .i64 0]) 2 32 underlying191 zB hz0 yo hz2 rfl O (.slice sa l.length sc) l.length (cs.flatMap fun(c:Value×Nat)=> [c.1,Value.int .i64 (c.2:Int)]) rfl (Zmy (wD.alloc _)) ⟨W.heap.size,0,none⟩ 1 1 [.slice xa r.length xc,.int .i64 n] rfl rfl (ZpZ _ _ _ _ rfl) au Z aj Z ah _ rfl ?_;intro g6 c6 w6 DN O7 _ _;obtain⟨⟨y1,y2⟩,SG⟩:=Gt.out g6 c6 w6 DN (Zmx O7)))
 all_goals
  go_wp2;go_end0;exact⟨rfl,_,SG⟩
def ZPT{w:World}{e k g:Nat}(h:w.ownsRow B e sz (.slice (some ⟨g,0,none⟩) m cap) m xs)(hk:k<=m):w.ownsRow B e sz (.slice (some ⟨g,0,none⟩) k cap) k (xs.take (k*sz)):=by
 obtain⟨h1,h2⟩:=h;have QI:=Nat.mul_le_mul_right sz hk;refine⟨fH,?_⟩;rcases h2 with⟨e1,_⟩|⟨g1,c1,cu,e1,hb,hh,hc,hm,hs,ht⟩
 ·cases e1
 ·cases e1;refine .inr ⟨g,cap,cu,rfl,hb,hh,Z,hm,hs,?_⟩;rw[<-ht,List.take_take,Nat.min_eq_left QI]
theorem Zux:∀(cs:List (Value×Nat)) k,((cs.take k).flatMap λc=> [c.1,Value.int .i64 (c.2:Int)])=(cs.flatMap λc=> [c.1,Value.int .i64 (c.2:Int)]).take (k*2)
 | [],k=>ae
 |c::cs,0=>ae
 |c::cs,k+1=>by
  have ih:=Zux cs k;rw[List.take_succ_cons,sF,ih,sF,show(k+1)*2=k*2+2 from Z];rfl
def ZS5(B)(V W0 W)(pb)(sv)(cs)(l)(h:AU B V W0 W pb sv cs l)(wF:0<l.length)(hl:l.length<=90000):Calls prog 463 #[vU pb] W λe w'=>∃v x M7,l.getLast? =some x/\e= .returned (WJ v x.2)/\xD V v x.1/\AU B V W0 w' pb M7 cs.dropLast l.dropLast:=by
 have SI:l.length-1<l.length:=Z
 obtain⟨g,cap,rfl,hg,⟨cu,KV⟩,v,n1,ZH,c1,c2,hv,AA,Gh⟩:=h.at (l.length-1) SI;have HL:Hid (l.getLast? =some l[l.length-1]):=by
  show _=_;rw[List.getLast?_eq_getElem?,oW SI]
 have HV:=vR hv;obtain⟨xa,xc,rfl,_⟩:=hv;have Pj:=cF0 h.obj;obtain⟨U0,hpf⟩:=Pj;have O3:l.length<=cap/\cap<=maxLen:=by
  have Cv:=h.own;rw[h.cnt.1]at Cv;rcases Cv.2 with⟨e,_⟩|⟨g1,c,cu,e,_,_,h1,h2,_⟩
  ·cases e
  ·cases e;exact⟨h1,h2⟩
 have HH:=vR h;have Zjx:=(wo h.obj);clear h;unfold vU;generalize l[l.length-1]=X at *;go_enter func463,ntmps463;go_wp2_with fail;go_ret;have hp:=HH.out;have wD:=hp.own;rw[hp.cnt.1]at wD;have SH:g≠pb:=λe=>by have h1:=hp.obj;rw[<-e,KV]at h1;cases h1
 have LC:cs.dropLast.length=l.length-1:=by rw[uI,hp.cnt.1]
 have BQ:=hp.low.set (o:=0) (u:=.slice (some ⟨g,0,none⟩) (l.length-1) cap) hp.ge hp.obj (.inl rfl);refine⟨_,X,.slice (some ⟨g,0,none⟩) (l.length-1) cap,HL.out,rfl,HV.out,BQ.trans (PB.vZ ((uQ _ _).alloc (nV _) _) (by rw[Bf];have:=hp.ge;omega)),?_,?_,hp.cnt.init,hp.ge,hp.vv⟩
 ·refine(ow _ _ _ (by rw[Bf];exact Zjx)).trans ?_;have:=zD (k:=0) (u:=.slice (some ⟨g,0,none⟩) (l.length-1) cap) hp.obj;exact nR
 ·have h2:=ZPT wD (show l.length-1<=l.length by omega);have h3:=Zzd (g:=pb) (o:=0) (u:=.slice (some ⟨g,0,none⟩) (l.length-1) cap) h2 (λe=>SH (by cases e;rfl));rw[LC,List.dropLast_eq_take,hp.cnt.1,Zux];exact h3.alloc _
def ZpN(w)(pb)(sv)(h:w.cell? ⟨pb,0,none⟩=some sv):(loadVar 191 ⟨pb,0,none⟩).run prog w= .ok sv w:=by
 have ha:(isAgg 191).run prog w= .ok false w:=uO
 simp[loadVar,uT,ha,load,h,Result.andThen,Sem.run]
def Zj2(w)(pb)(sv)(h:w.cell? ⟨pb,0,none⟩=some sv):(method 760 189 (.pointer (some ⟨pb,0,none⟩)) "Less").run prog w= .ok (462,sv) w:=by
 have e:(method 760 189 (.pointer (some ⟨pb,0,none⟩)) "Less").run prog w=(loadVar 191 ⟨pb,0,none⟩ >>= λv=>pure (462,v)).run prog w:=uO
 exact nu
def Zgd(w)(pb)(sv)(h:w.cell? ⟨pb,0,none⟩=some sv):(method 760 189 (.pointer (some ⟨pb,0,none⟩)) "Swap").run prog w= .ok (465,sv) w:=by
 have e:(method 760 189 (.pointer (some ⟨pb,0,none⟩)) "Swap").run prog w=(loadVar 191 ⟨pb,0,none⟩ >>= λv=>pure (465,v)).run prog w:=uO
 exact nu
def ZyI(w)(pb)(sv)(h:w.cell? ⟨pb,0,none⟩=some sv):(method 760 189 (.pointer (some ⟨pb,0,none⟩)) "Len").run prog w= .ok (77,sv) w:=by
 have e:(method 760 189 (.pointer (some ⟨pb,0,none⟩)) "Len").run prog w=(loadVar 191 ⟨pb,0,none⟩ >>= λv=>pure (77,v)).run prog w:=uO
 exact nu
def ZOF(w)(pb):(method 760 189 (.pointer (some ⟨pb,0,none⟩)) "Push").run prog w= .ok (464,.pointer (some ⟨pb,0,none⟩)) w:=by kernel_rfl
def ZOE(w)(pb):(method 760 189 (.pointer (some ⟨pb,0,none⟩)) "Pop").run prog w= .ok (463,.pointer (some ⟨pb,0,none⟩)) w:=by kernel_rfl
def AU.below{l}(h:AU B V W0 W pb sv cs l)(hb:vV W W'):AU B V W0 W' pb sv cs l:=
 ⟨h.low.trans (PB.vZ hb (by have:=(wo h.obj);have:=h.ge;omega)),xq hb h.obj,zC h.own hb,h.cnt,h.ge,h.vv⟩
theorem AU.cell{l}(h:AU B V W0 W pb sv cs l):W.cell? ⟨pb,0,none⟩=some sv:=by simp[World.cell?,h.obj]
def Ou{α:Type}(l:List α)(i j):(EP l i j).length=l.length:=by
 unfold EP;split<;>simp
def ZUr(fu:Nat)(l:List (List wG×Nat))(k:Nat)(hk:k<l.length)(h0:k≠0):QC (fu+1) l k=if Ev l[k].1 (l[(k-1)/2]' Z).1<0 then QC fu (EP l ((k-1)/2) k) ((k-1)/2)else l:=by
 rw[QC];have e1:l[(k-1)/2]? =some (l[(k-1)/2]' Z):=oW _;have e2:l[k]? =some l[k]:=oW _;have e3:¬((k-1)/2=k\/k=0):=Z
 simp only[e3,qE,e1,e2,EP]
def ZJM(B)(V W0 W)(pb)(sv)(cs)(l)(h:AU B V W0 W pb sv cs l)(j fu)(hj:j<l.length)(hf:j<fu)(hl:l.length<=90000):Calls prog 118 #[.iface 189 (vU pb),.int .i64 j] W λe w'=>e= .returned (.tuple #[])/\∃AY,AU B V W0 w' pb sv AY (QC fu l j):=by
 unfold vU;have HH:=vR h;clear h;go_enter func118,ntmps118;go_wp2_with fail;go_loopg [1] (j+1) (λgk jv wr=>∃(k:Nat) (AY:List (Value×Nat)) (l':List (List wG×Nat)),gk=k+1/\jv= .int .i64 k/\k<l'.length/\l'.length=l.length/\Hid (AU B V W0 wr pb sv AY l'/\∃OT,k<OT/\QC fu l j=QC OT l' k));case atStart=>exact⟨j,cs,l,rfl,rfl,hj,rfl,vR ⟨HH.out,fu,hf,rfl⟩⟩
 case round=>
  obtain⟨k,AY,l',rfl,rfl,hk,zQ,hI⟩:=hrel;by_cases Bc:k=0
  ·subst Bc;go_wp2_with fail;go_end0;obtain⟨h1,f',hf',e⟩:=hI.out;refine⟨rfl,AY,?_⟩;rw[e];cases f' with
   |zero=>omega
   |succ f'=>simpa[QC]using h1
  ·have hki:((k:Int)-1).tdiv 2=(((k-1)/2:Nat):Int):=by
    rw[show(k:Int)-1=((k-1:Nat):Int) from Z];rfl
   have wF:((((k-1)/2:Nat):Int)==(k:Int))=false:=by simp;omega
   have hq:(((k-1:Nat):Int)/2==(k:Int))=false:=by simp;omega
   have hcp:=xH hI.out.1.obj;have HL:=vR (ZgG B V W0 wr pb sv AY l' hI.out.1 k ((k-1)/2) hk Z Z);have Hu:=Zj2 wr pb sv hcp;have hdiv:(((k-1)/2:Nat):Int)=((k-1:Nat):Int)/2:=Z
   rw[hdiv]at HL;go_wp2_with fail;refine HL.out.mono ?_;rintro e w1 ⟨rfl,hB⟩;have CZ:=hI.out.1.below hB;obtain⟨OT,hfu,DJ⟩:=hI.out.2;obtain⟨fq,rfl⟩:∃fq,OT=fq+1:=⟨OT-1,Z⟩;rw[ZUr fq l' k hk Bc]at DJ;by_cases hc:Ev l'[k].1 (l'[(k-1)/2]' Z).1<0
   ·simp only[hc,rX];rw[nY hc]at DJ;have HS:=vR (ZgH B V W0 w1 pb sv AY l' CZ ((k-1)/2) k Z hk Z);rw[hdiv]at HS;have hms:=Zgd w1 pb sv CZ.cell;clear CZ;go_wp2_with fail;refine HS.out.mono ?_;rintro e w2 ⟨rfl,yY⟩;have TL:=vR yY;clear yY;go_wp2_with fail;go_roundg ((k-1)/2+1)
    ·exact⟨(k-1)/2,EP AY ((k-1)/2) k,EP l' ((k-1)/2) k,rfl,by rw[hdiv],dC,by rw[Ou];exact zQ,vR ⟨TL.out,fq,Z,DJ⟩⟩
    all_goals omega
   ·simp only[hc,tJ];rw[nU hc]at DJ;have HP1:=vR CZ;clear CZ;go_wp2_with fail;go_end0;exact⟨rfl,AY,DJ▸HP1.out⟩
def ZGY(fu)(l)(i n)(h:n<=2*i+1):NK (fu+1) l i n=l:=by
 rw[NK];simp[h]
def Zmw(fu:Nat)(l:List (List wG×Nat))(i n j:Nat)(h:¬n<=2*i+1)(hn:n<=l.length)(hj:j<l.length)(hi:i<l.length)(UQ:j=if h2:2*i+2<n then(if Ev (l[2*i+2]' Z).1 (l[2*i+1]' Z).1<0 then 2*i+2 else 2*i+1)else 2*i+1):
  NK (fu+1) l i n=if Ev l[j].1 l[i].1<0 then NK fu (EP l i j) j n else l:=by
 have e1:l[i]? =some l[i]:=oW _;have e2:l[j]? =some l[j]:=oW _;have e3:l[2*i+1]? =some (l[2*i+1]' Z):=oW _;rw[NK];by_cases h2:2*i+2<n
 ·have e4:l[2*i+1+1]? =some (l[2*i+2]' Z):=oW _;have Zb:2*i+1+1<n:=h2;rw[dif_pos h2]at UQ;simp only[h,qE,e3,e4,Zb,sP];have e5:(if Ev (l[2*i+2]' Z).1 (l[2*i+1]' Z).1<0 then 2*i+1+1 else 2*i+1)=j:=UQ.symm;simp only[e5,e1,e2,EP]
 ·have Zb:¬2*i+1+1<n:=h2;rw[dif_neg h2]at UQ;subst UQ;cases e4:l[2*i+1+1]? with
  |none=>simp only[h,qE,e3,e4,e1,EP]
  |some b=>simp only[h,qE,e3,e4,Zb,false_and,e1,EP]
def ZZX{p:Prop}(h:p:=by
 by_cases hd:Ev (l'[2*k+1]' Z).1 l'[k].1<0
 ·simp only[hd,rX];rw[nY hd]at DJ;have HS:=vR (ZgH B V W0 w2 pb sv AY l' yY k (2*k+1) hk Z Z);rw[show((2*k+1:Nat):Int)=2*(k:Int)+1 from Z]at HS;have hms:=Zgd w2 pb sv yY.cell;clear yY;go_wp2_with fail;refine HS.out.mono ?_;rintro e w3 ⟨rfl,hp3⟩;have P9:=vR hp3;clear hp3;go_wp2_with fail;go_roundg (l.length-(2*k+1)+1)
  ·exact⟨2*k+1,EP AY k (2*k+1),EP l' k (2*k+1),rfl,by rw[show((2*k+1:Nat):Int)=2*(k:Int)+1 from Z],dC,by rw[Ou];exact zQ,vR ⟨P9.out,fq,Z,Z,DJ⟩⟩
  all_goals omega
 ·simp only[hd,tJ];rw[nU hd]at DJ;have TL:=vR yY;clear yY;go_wp2_with fail;go_ret;exact⟨⟨_,rfl⟩,AY,DJ▸TL.out⟩):p:=h
def ZJI(B)(V W0 W)(pb)(sv)(cs)(l)(h:AU B V W0 W pb sv cs l)(i0 n fu)(hi:i0<l.length)(hn:n<=l.length)(hf:n<fu+i0)(IA:0<fu)(hl:l.length<=90000):Calls prog 119 #[.iface 189 (vU pb),.int .i64 i0,.int .i64 n] W λe w'=>(∃v,e= .returned v)/\∃AY,AU B V W0 w' pb sv AY (NK fu l i0 n):=by
 unfold vU;have HH:=vR h;clear h;go_enter func119,ntmps119;go_wp2_with fail;go_loopg [7] (l.length-i0+1) (λgk jv wr=>∃(k:Nat) (AY:List (Value×Nat)) (l':List (List wG×Nat)),gk=l.length-k+1/\jv= .int .i64 k/\k<l'.length/\l'.length=l.length/\Hid (AU B V W0 wr pb sv AY l'/\∃OT,n<OT+k/\0<OT/\NK fu l i0 n=NK OT l' k n));case atStart=>exact⟨i0,cs,l,rfl,rfl,hi,rfl,vR ⟨HH.out,fu,hf,IA,rfl⟩⟩
 case round=>
  obtain⟨k,AY,l',rfl,rfl,hk,zQ,hI⟩:=hrel;obtain⟨OT,hfu,ZW9,DJ⟩:=hI.out.2;obtain⟨fq,rfl⟩:∃fq,OT=fq+1:=⟨OT-1,Z⟩;by_cases he:n<=2*k+1
  ·have ZKA:decide ((n:Int)<=2*(k:Int)+1)=true:=by simp;omega
   rw[ZGY fq l' k n he]at DJ;go_wp2_with fail;go_ret;exact⟨⟨_,rfl⟩,AY,DJ▸hI.out.1⟩
  ·have ZKA:decide ((n:Int)<=2*(k:Int)+1)=false:=by simp;omega
   have ZXt:decide (2*(k:Int)+1<0)=false:=by simp;omega
   by_cases h2:2*k+2<n
   ·have ZK1:decide (2*(k:Int)+1+1<n)=true:=by simp;omega
    have hcp:=hI.out.1.cell;have HL:=vR (ZgG B V W0 wr pb sv AY l' hI.out.1 (2*k+2) (2*k+1) Z Z Z);have Hu:=Zj2 wr pb sv hcp;rw[show((2*k+2:Nat):Int)=2*(k:Int)+1+1 from Z,show((2*k+1:Nat):Int)=2*(k:Int)+1 from Z]at HL;go_wp2_with fail;refine HL.out.mono ?_;rintro e w1 ⟨rfl,hB⟩;have CZ:=hI.out.1.below hB;have Dm:=Zj2 w1 pb sv CZ.cell;by_cases hc:Ev (l'[2*k+2]' Z).1 (l'[2*k+1]' Z).1<0
    ·simp only[hc,rX];rw[Zmw fq l' k n (2*k+2) he Z Z hk (by rw[dif_pos h2,nY hc])]at DJ;have HM:=vR (ZgG B V W0 w1 pb sv AY l' CZ (2*k+2) k Z hk Z);rw[show((2*k+2:Nat):Int)=2*(k:Int)+1+1 from Z]at HM;go_wp2_with fail;refine HM.out.mono ?_;rintro e w2 ⟨rfl,wK⟩;have yY:=CZ.below wK;by_cases hd:Ev (l'[2*k+2]' Z).1 l'[k].1<0
     ·simp only[hd,rX];rw[nY hd]at DJ;have HS:=vR (ZgH B V W0 w2 pb sv AY l' yY k (2*k+2) hk Z Z);rw[show((2*k+2:Nat):Int)=2*(k:Int)+1+1 from Z]at HS;have hms:=Zgd w2 pb sv yY.cell;clear yY;go_wp2_with fail;refine HS.out.mono ?_;rintro e w3 ⟨rfl,hp3⟩;have P9:=vR hp3;clear hp3;go_wp2_with fail;go_roundg (l.length-(2*k+2)+1)
      ·exact⟨2*k+2,EP AY k (2*k+2),EP l' k (2*k+2),rfl,by rw[show((2*k+2:Nat):Int)=2*(k:Int)+1+1 from Z],dC,by rw[Ou];exact zQ,vR ⟨P9.out,fq,Z,Z,DJ⟩⟩
      all_goals omega
     ·simp only[hd,tJ];rw[nU hd]at DJ;have TL:=vR yY;clear yY;go_wp2_with fail;go_ret;exact⟨⟨_,rfl⟩,AY,DJ▸TL.out⟩
    ·simp only[hc,tJ];rw[Zmw fq l' k n (2*k+1) he Z Z hk (by rw[dif_pos h2,nU hc])]at DJ;have HM:=vR (ZgG B V W0 w1 pb sv AY l' CZ (2*k+1) k Z hk Z);rw[show((2*k+1:Nat):Int)=2*(k:Int)+1 from Z]at HM;go_wp2_with fail;refine HM.out.mono ?_;rintro e w2 ⟨rfl,wK⟩;have yY:=CZ.below wK;exact ZZX
   ·have ZK1:decide (2*(k:Int)+1+1<n)=false:=by simp;omega
    rw[Zmw fq l' k n (2*k+1) he Z Z hk (by rw[dif_neg h2])]at DJ;have Dm:=Zj2 wr pb sv hI.out.1.cell;have HM:=vR (ZgG B V W0 wr pb sv AY l' hI.out.1 (2*k+1) k Z hk Z);rw[show((2*k+1:Nat):Int)=2*(k:Int)+1 from Z]at HM;go_wp2_with fail;refine HM.out.mono ?_;rintro e w2 ⟨rfl,wK⟩;have yY:=hI.out.1.below wK;exact ZZX
def Zwh(fu):∀l i n,(NK fu l i n).length=l.length:=by
 induction fu with
 |zero=>intro l i n;rfl
 |succ fu ih=>
  intro l i n;rw[NK];by_cases h:n<=2*i+1
  ·simp[h]
  ·simp only[h,qE];split
   ·split
    ·rw[ih];simp
    ·rfl
   ·rfl
def ZJL(B)(V W0 W)(pb)(sv)(cs)(l)(h:AU B V W0 W pb sv cs l)(v)(n)(r)(hv:xD V v r)(hr:r.length<=1000)(hl:l.length<=80000):Calls prog 76 #[.iface 189 (vU pb),WJ v n] W λe w'=>e= .returned (.tuple #[])/\∃M7 AY,AU B V W0 w' pb M7 AY (Zfo l (r,n)):=by
 have HP:=vR (ZS6 B V W0 W pb sv cs l h v n r hv hr Z);clear h;have NV:=λw=>ZOF w pb;unfold vU at *;go_enter func76,ntmps76;go_wp2_with fail;refine HP.out.mono ?_;rintro e w1 ⟨rfl,sv1,CZ⟩;have Hu:=ZyI w1 pb sv1 CZ.cell;obtain⟨a1,c1,es⟩:=CZ.slice;have HL:=vR (Zqy w1 a1 (l++ [(r,n)]).length c1);rw[<-es]at HL;clear es;have HU:=vR (ZJM B V W0 w1 pb sv1 _ _ CZ l.length (l.length+1) ae Z ah);unfold vU at HU;clear CZ;go_wp2_with fail;refine HL.out.mono ?_;rintro e w2 ⟨rfl,rfl⟩;have Kl:(((l++ [(r,n)]).length:Nat):Int)-1=(l.length:Int):=ae
 go_wp2_with fail;refine HU.out.mono ?_;rintro e w3 ⟨rfl,cs3,hp3⟩;have P9:=vR hp3;clear hp3;go_wp2_with fail;go_end0;exact⟨rfl,sv1,cs3,P9.out⟩
def ZJK(B)(V W0 W)(pb)(sv)(cs)(l)(h:AU B V W0 W pb sv cs l)(wF:0<l.length)(hl:l.length<=80000):Calls prog 78 #[.iface 189 (vU pb)] W λe w'=>∃v x r M7 AY,heapPop l=some (x,r)/\e= .returned (WJ v x.2)/\xD V v x.1/\AU B V W0 w' pb M7 AY r:=by
 have Hu:=ZyI W pb sv h.cell;obtain⟨a1,c1,es⟩:=h.slice;have HL:=vR (Zqy W a1 l.length c1);rw[<-es]at HL;clear es;have NV:=λw=>ZOE w pb;have HH:=vR h;have hms:=Zgd W pb sv h.cell;have HS:=vR (ZgH B V W0 W pb sv cs l h 0 (l.length-1) wF Z Z);clear h;unfold vU at *;have Kl:((l.length:Nat):Int)-1=((l.length-1:Nat):Int):=Z
 have hz:((0:Nat):Int)=0:=rfl;rw[hz]at HS;go_enter func78,ntmps78;go_wp2_with fail;refine HL.out.mono ?_;rintro e w2 ⟨rfl,rfl⟩;go_wp2_with fail;refine HS.out.mono ?_;rintro e w3 ⟨rfl,hp3⟩;have HD:=vR (ZJI B V W0 w3 pb sv _ _ hp3 0 (l.length-1) (l.length+1) (by rw[Ou];exact wF) dC Z Z dC);rw[hz]at HD;unfold vU at HD;clear hp3;go_wp2_with fail;refine HD.out.mono ?_;rintro e w4 ⟨⟨v4,rfl⟩,cs4,hp4⟩;have ZXq:(NK (l.length+1) (EP l 0 (l.length-1)) 0 (l.length-1)).length=l.length:=by rw[Zwh,Ou]
 have HQ:=vR (ZS5 B V W0 w4 pb sv _ _ hp4 Z Z);unfold vU at HQ;clear hp4;go_wp2_with fail;refine HQ.out.mono ?_;rintro e w5 ⟨v,x,M7,SI,rfl,hv,GJ⟩;have HV:=vR hv;have YC:=vR GJ;have HLA:=vR SI;clear hv GJ SI;unfold WJ;go_wp2_with fail;go_ret;refine⟨v,x,_,M7,_,?_,rfl,HV.out,YC.out⟩;simp only[heapPop,HLA.out,Option.map_some]
end Go.Proofs.YtncnkiabjhhclaaGreatDoor
