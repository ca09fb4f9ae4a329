import Derived.Conc.EventLaws
import Derived.Laws.Externs
import Derived.Laws.IdiomCopy
import Derived.Laws.Twins
import Derived.Lib.SliceRun
import Derived.Test.YtncnkiabjhhclaaGreatDoorBgJa03
import Derived.Test.YtncnkiabjhhclaaGreatDoorBgJa10
set_option maxRecDepth 100000
set_option maxHeartbeats 8000000
set_option linter.all false
namespace Go.Proofs.YtncnkiabjhhclaaGreatDoor
open Go.Proofs.Tryz
variable{ops:Array Oper}{buf tmps:Array Value}{cl tm:Bool}{Q:Exit->Act->World->Prop}{fn:Func}{bf:FuncId}{cs:List (Value×Nat)}{B BO Bx bv cap pb:Nat}{rv sv tv:Value}{A A' U V W W' W0 w' w0:World}{bg:xk}
def kN{p:Prop}(h:p:=by go_wp2_with fail;go_ret;exact⟨rfl,rfl⟩):p:=h
def kH{p:Prop}(h:p:=by go_wp2_with fail;go_ret;exact⟨W.heap.size,rfl,(Below.refl _ W).alloc (Nat.le_refl _) _,heap_alloc_new _ _,Nat.le_refl _⟩):p:=h
def kI{p:Prop}(h:p:=by go_wp2_with fail;go_ret;exact⟨ae,rfl⟩):p:=h
def kM{p:Prop}(h:p:=by go_wp2_with fail;go_ret;exact⟨rfl,hB⟩):p:=h
def kL{p:Prop}(h:p:=by go_wp2_with fail;go_ret;exact⟨rfl,Below.refl _ _⟩):p:=h
def vk:=@Go.RoundIn.mono
def vo{p:Prop}(h:p:=by
 obtain⟨fn,tmps,I8,bd,U4,hR⟩:=hy;refine⟨fn,tmps,I8,bd,U4,vk hR ?_⟩;rintro e W' (⟨rfl,h1,h4,h5⟩|h)
 ·exact .inl ⟨rfl,h1,h4,h5⟩
 ·exact .inr h):p:=h
def qA:=@Go.wpIn_seq
def qX:=@Go.wpIn_block
def og:=@Go.wpAnyH_ready
def nZ:=@Go.AllReadyH.cons
def oh:=@Go.AllReadyH.nil
def oP:=@Go.wpAnyH_done
section
open Go.RowKit
def Ga{g k:Nat}{v:Value}(h:W.cell? ⟨g,k,none⟩=some v)(hB:vV W W'):W'.cell? ⟨g,k,none⟩=some v:=by
 have hg:g<W.heap.size:=by
  apply Classical.byContradiction;intro hn;have:=uA (Nat.le_of_not_lt hn);simp[World.cell?,this]at h
 have:=hB.block g hg;simpa[World.cell?,this]using h
def YU(W:World)(v:Value)(ts:List Nat):Prop:=
 ∃a cap,v= .slice a ts.length cap/\ts.length<=cap/\cap<=maxLen/\∀i (h:i<ts.length),∃g,a=some ⟨g,0,none⟩/\W.cell? ⟨g,i,none⟩=some (.int .i64 (ts[i]:Nat))
def YU.below{v}{ts}(h:YU W v ts)(hB:vV W W'):YU W' v ts:=by
 obtain⟨a,c,e,h1,h2,h3⟩:=h;exact⟨a,c,e,h1,h2,λi hi=>let⟨g,e1,e2⟩:=h3 i hi;⟨g,e1,Ga e2 hB⟩⟩
def xD.J7{v}{vs}(h:xD W v vs)(hB:vV W W'):xD W' v vs:=h.same (KT.vZ hB) (ts:= [80]) ae
def FN.below{v}{rows}(h:FN W v rows)(hB:vV W W'):FN W' v rows:=by
 obtain⟨a,c,e,h1,h2,h3⟩:=h;exact⟨a,c,e,h1,h2,λi hi=>let⟨g,o,cu,rv,e1,e2,e3,e4⟩:=h3 i hi;⟨g,o,cu,rv,e1,xq hB e2,Ga e3 hB,e4.J7 hB⟩⟩
def CV(W:World)(b:Nat)(bg:xk):Prop:=
 (∃x bv bs rv tv,W.heap[b]? =some (.cells #[vU x,rv,tv] 281)/\Eu W x bv bs bg.ix/\FN W rv bg.rows/\YU W tv bg.times)/\bg.times.length=bg.rows.length/\bg.ix.keys.length=bg.rows.length
theorem CV.below{b}(h:CV W b bg)(hB:vV W W'):CV W' b bg:=by
 obtain⟨⟨x,bv,bs,rv,tv,h1,h2,h3,h4⟩,h5⟩:=h;exact⟨⟨x,bv,bs,rv,tv,xq hB h1,h2.below hB,h3.below hB,h4.below hB⟩,h5⟩
def Jt.read{b x bs}{vs}(h:Jt W0 W b x bv bs rv tv bg vs):CV W b bg:=by
 refine⟨⟨x,bv,bs,rv,tv,h.obj,h.ix,?_,?_⟩,h.Rn,h.Ve⟩
 ·rcases h.rows.2 with⟨e,h0⟩|⟨g,cap,cu,e,hg,hh,hc,hm,_⟩
  ·exact⟨none,0,by rw[e,h0],Z,aj,λi hi=>Z⟩
  ·refine⟨_,cap,e,hc,hm,λi hi=>?_⟩;have hl:i<vs.length:=by rw[h.wR.1];exact hi
   have zM:=(e▸h.rows:W.ownsRow _ _ _ (.slice (some ⟨g,0,none⟩) bg.rows.length cap) _ _).cells (g:=g) rfl i vs[i] (by simp[hl]);rw[uY]at zM;exact⟨g,0,cu,vs[i],rfl,hh,zM,(h.wR.2 i hl hi).same (KT.vZ h.low) (ts:= [80]) ae⟩
 ·have zW:=h.Rn;rcases h.times.2 with⟨e,h0⟩|⟨g,cap,cu,e,hg,hh,hc,hm,_⟩
  ·exact⟨none,0,by rw[e,zW,h0],Z,aj,λi hi=>Z⟩
  ·refine⟨_,cap,by rw[zW];exact e,Z,hm,λi hi=>?_⟩;have zM:=(e▸h.times:W.ownsRow _ _ _ (.slice (some ⟨g,0,none⟩) bg.rows.length cap) _ _).cells (g:=g) rfl i (.int .i64 (bg.times[i]:Nat)) (by simp[Ec,hi]);rw[uY,o9]at zM;exact⟨g,rfl,zM⟩
def ZsQ(W)(b)(bg)(h:CV W b bg):Calls prog 436 #[vU b] W λe W'=>e= .returned (.bool (decide (bg.rows.length=0)))/\vV W W':=by
 obtain⟨⟨x,bv,bs,rv,tv,h1,h2,h3,h4⟩,h5⟩:=h;obtain⟨a,c,rfl,_⟩:=h3;have hc:=zS h1;have he:((bg.rows.length:Int)==0)=decide (bg.rows.length=0):=by
  by_cases h:bg.rows.length=0<;>simp[h]
 clear h1 h2 h4 h5;unfold vU;go_enter func436,ntmps436;go_wp2_with fail;go_ret;exact⟨ae,nW _ _⟩
def ZsS(W)(b)(bg)(h:CV W b bg)(ok:YP bg.rows):Calls prog 129 #[vU b] W λe W'=>∃b',e= .returned (vU b')/\vV W W'/\CV W' b' (xk.new bg.rows):=by
 obtain⟨⟨x,bv,bs,rv,tv,h1,h2,h3,h4⟩,h5⟩:=h;have HN:=vR (Zeg W rv bg.rows h3 ok);have hc:=zS h1;obtain⟨a,c,rfl,_⟩:=h3;clear h1 h2 h4 h5;unfold vU at *;go_enter func129,ntmps129;go_wp2_with fail;refine HN.out.mono ?_;rintro e w1 ⟨b',x',bv',bs',Ri,Tn,vs',rfl,hb⟩;have HB:=vR hb;clear hb;go_wp2_with fail;go_ret;exact⟨b',rfl,HB.out.low,HB.out.read⟩
def ZsT(W)(b)(bg)(FE)(row)(h:CV W b bg)(hr:xD W FE row)(hl:row.length<=1000)(AA:bg.ix.wR.length<=100000)(zl:bg.rows.length<=100000):Calls prog 176 #[vU b,FE] W λe W'=>e= .returned (.int .i64 (bg.count row:Nat))/\vV W W':=by
 obtain⟨⟨x,bv,bs,rv,tv,h1,h2,h3,h4⟩,h5,h6⟩:=h;have HF:=vR (ZhJ W x bv bs bg.ix FE row h2 hr hl AA);have hc:=xH h1;have Xm:∀w,vV W w->w.cell? ⟨b,2,none⟩=some tv:=λw hw=>Ga dw hw;have HT:=vR h4;obtain⟨qa,qc,rfl,_⟩:=hr;clear h1 h2 h3 h4;unfold vU at *;go_enter func176,ntmps176;go_wp2_with fail;refine HF.out.mono ?_;rintro e w1 ⟨rfl,hB⟩;have Aa:=Xm w1 hB;have HB:=vR hB;clear Xm;cases ha:bg.ix.at_ row with
 |none=>
  simp only[Option.isSome_none,Option.getD_none];have Xl:bg.count row=0:=by simp[xk.count,ha]
  have HC:=vR Xl;clear Xl;clear hB;go_wp2_with fail;go_ret;exact⟨dZ,HB.out⟩
 |some k=>
  simp only[Option.isSome_some,Option.getD_some];have hk:k<bg.times.length:=by
   unfold Ix.at_ at ha;cases hq:EB bg.ix.wR row with
   |none=>rw[hq]at ha;cases ha
   |some key=>rw[hq]at ha;have:=ZxV ha;omega
  have Xl:bg.count row=bg.times[k]:=by simp[xk.count,ha,hk]
  have HC:=vR Xl;clear Xl;obtain⟨ta,tc,rfl,q1,q2,q3⟩:=HT.out.below hB;obtain⟨g,rfl,Zi0⟩:=q3 k hk;have EH:k<bg.rows.length:=Z
  clear hB q3;go_wp2_with fail;go_ret;exact⟨dZ,HB.out⟩
end
section
open Go.RowKit
def ZIu(W)(FE pv)(row)(ps)(out)(hr:xD W FE row)(hp:YU W pv ps)(hl:ps.length<=1000)(ho:out.length=ps.length)(hg:∀i (h:i<ps.length) (h':i<out.length),∃hq:ps[i]<row.length,row[ps[i]]=out[i])(A9:row.length<=1000):
  Calls prog 247 #[FE,pv] W λe W'=>∃rv,e= .returned rv/\xD W' rv out/\vV W W':=by
 have HR:=vR hr;have HP:=vR hp;have HG:=vR hg;obtain⟨ra,rc,rfl,r1,r2,_⟩:=hr;obtain⟨pa,pc,rfl,p1,p2,_⟩:=hp;have Fv:=λw:World=>rJ (P:=prog) 78 80 .nilIface 16 underlying78 Tryz.U6 rfl .i64 .i64 ps.length Z Z w;clear hg;go_enter func247,ntmps247;go_wp2_with fail;go_loopg [13] (ps.length+1) (λgk iv wr=>∃k:Nat,k<=ps.length/\gk=ps.length-k+1/\iv= .int .i64 k/\vV W wr/\W.heap.size<wr.heap.size/\(∃cur:Array Value,cur.size=ps.length/\wr.heap[W.heap.size]? =some (.cells cur 80)/\Hid (∀j (hj:j<out.length),j<k->cur[j]? =some (xe out[j]))));case atStart=>exact⟨0,Z,Z,rfl,(nW _ _).alloc (nV _) _,ae,⟨_,bY,xI W _,λj hj hk=>Z⟩⟩
 case round=>
  obtain⟨k,hk,rfl,rfl,hB,yA,⟨cur,Fp,DI,Ke⟩⟩:=hrel;by_cases hlt:k<ps.length
  ·obtain⟨pa',pc',ee,_,_,hx⟩:=HP.out.below hB;cases ee;obtain⟨gp,rfl,hcp⟩:=hx k hlt;have hko:k<out.length:=by omega
   obtain⟨hq,hrq⟩:=HG.out k hlt hko;obtain⟨ra',rc',ee,_,_,hy⟩:=HR.out.J7 hB;cases ee;obtain⟨g,o,cu,rfl,_,Bl⟩:=hy ps[k] hq;rw[hrq]at Bl;have NN:k<cur.size:=Z
   obtain⟨yI,Dl⟩:=IU DI NN;have HRQ:=vR hrq;obtain⟨n1,y1,yB⟩:=Dp out[k];rw[yB]at Bl;have Et:=vR yB;clear hx hy hrq yB;unfold maxLen at *;go_wp2_with fail;go_roundg (ps.length-(k+1)+1);case measure=>omega
   case rel=>
    refine⟨k+1,Z,rfl,ak,hB.setCell (p:=⟨W.heap.size,k,none⟩) (nV _) _,by rw[Bf];omega,⟨_,?_,zD DI,?_⟩⟩
    ·exact mX
    ·intro j hj LD;by_cases Zoj:j=k
     ·subst Zoj;rw[qQ NN,Et.out]
     ·exact mW
  ·obtain rfl:k=ps.length:=by omega
   have TQ:Hid (xD wr (.slice (some ⟨W.heap.size,0,none⟩) ps.length ps.length) out):=by
    refine⟨some ⟨W.heap.size,0,none⟩,ps.length,by rw[ho],Z,aj,λi hi=>⟨W.heap.size,0,cur,rfl,DI,?_⟩⟩;have h1:=Ke.out i hi Z;simp only[World.cell?,DI,o9,h1];rfl
   clear Ke;go_wp2_with fail;go_ret;exact⟨_,rfl,TQ.out,hB⟩
end
section
open Go.RowKit
def ZS3(W):Calls prog 47 #[.slice none 0 0] W λe W'=>e= .returned (.int .i64 2000)/\W'=W:=by
 go_enter func47,ntmps47;exact kN
def ZS4(W)(b):Calls prog 48 #[vU b] W λe W'=>∃Bx,e= .returned (.func (.func 74) #[] #[.pointer (some ⟨Bx,0,none⟩)])/\vV W W'/\W'.heap[Bx]? =some (.cells #[vU b] 69)/\W.heap.size<=Bx:=by
 unfold vU;go_enter func48,ntmps48;exact kH
def ZyJ(W)(v):Calls prog 250 #[xe v] W λe W'=>e= .returned (.bool (decide (v= .null)))/\W'=W:=by
 have e1:=Zuk;have e2:=Zuj;have e3:=Zul;cases v;all_goals
  unfold xe;go_enter func250,ntmps250;exact kI
def MW:List wG->Nat->Option Nat
 | [],_=>none
 |v::r,k=>if v= .null then some k else MW r (k+1)
def Zf4:Option Nat->Int
 |some k=>(k:Int)
 |none=> -1
def ZIr(W)(xv)(vs)(hx:xD W xv vs)(hl:vs.length<=1000):Calls prog 301 #[xv,.func (.func 250) #[] #[]] W λe W'=>e= .returned (.int .i64 (Zf4 (MW vs 0)))/\W'=W:=by
 obtain⟨a,c,rfl,h1,h2,h3⟩:=hx;have HX:=vR h3;have hE:∀(args:Array Value) (w:World),(callFunc 250 args).run prog w= .ok (.enter 250 args) w:=λ_ _=>rfl;clear h3;unfold maxLen at *;go_enter func301,ntmps301;go_wp2_with fail;go_loop [8] (λi=>∃k:Nat,k<=vs.length/\i= .int .i64 k/\Hid (MW vs 0=MW (vs.drop k) k)) (λi=>vs.length-(intOf i).toNat);case atStart=>exact⟨0,pI _,rfl,rfl⟩
 case round=>
  obtain⟨k,hk,rfl,hI⟩:=hrel;by_cases hlt:k<vs.length
  ·obtain⟨g,o,cu,rfl,_,Av⟩:=HX.out k hlt;have HN:Hid (MW vs 0=if vs[k]= .null then some k else MW (vs.drop (k+1)) (k+1)):=by
    show _=_;rw[hI.out,pM hlt,MW]
   have LJ:=vR (ZyJ W vs[k]);obtain⟨n1,y1,yB⟩:=Dp vs[k];rw[yB]at Av LJ;clear yB hI;go_wp2_with fail;refine LJ.out.mono ?_;rintro e w' ⟨rfl,rfl⟩;by_cases hc:vs[k]= .null
   ·have hd:decide (vs[k]= .null)=true:=by simpa using hc
    have HC:=vR hc;clear hc;rw[hd];go_wp2_with fail;go_ret;rw[HN.out,nY HC.out];exact jS
   ·have hd:decide (vs[k]= .null)=false:=by simpa using hc
    have HC:=vR hc;clear hc;rw[hd];go_wp2_with fail;exact⟨⟨k+1,Z,ak,by show _=_;rw[HN.out,nU HC.out]⟩,bE⟩
  ·obtain rfl:k=vs.length:=by omega
   have HN:Hid (MW vs 0=none):=by
    show _=_;rw[hI.out,sG];rfl
   go_wp2_with fail;go_ret;rw[HN.out];exact jS
end
section
open Go.RowKit
theorem ZAf(g)(e)(fr:Nat×Nat):∀vs o (w:World) cu,w.heap[g]? =some (.cells cu e fr)->∃BA,(w.setCells g o vs).heap[g]? =some (.cells BA e fr)
 | [],_,_,cu,h=>⟨cu,h⟩
 |v::vs,o,w,cu,h=>ZAf g e fr vs (o+1) (w.setCell ⟨g,o,none⟩ v) _ (zD h)
theorem ZAe(g)(w0):∀vs o w,Below g w0 w->Below g w0 (w.setCells g o vs)
 | [],_,_,h=>h
 |v::vs,o,w,h=>ZAe g w0 vs (o+1) (w.setCell ⟨g,o,none⟩ v) (h.setCell (p:=⟨g,o,none⟩) (nV _) v)
theorem ZyX:∀{vs:List wG} {k:Nat},MW vs k=none->∀v∈vs,v≠.null
 | [],_,_,v,hm=>by cases hm
 |a::r,k,h,v,hm=>by
  unfold MW at h;by_cases e:a= .null
  ·rw[nY e]at h;cases h
  ·rw[nU e]at h;rcases oQ.1 hm with rfl|hm
   ·exact e
   ·exact ZyX h v hm
theorem ZyW:∀{vs:List wG} {k j:Nat},MW vs k=some j->∃i,∃h:i<vs.length,j=k+i/\vs[i]= .null/\∀v∈vs.take i,v≠.null
 | [],_,_,h=>aS
 |a::r,k,j,h=>by
  unfold MW at h;by_cases e:a= .null
  ·rw[nY e]at h;cases h;exact⟨0,ae,rfl,e,λv hm=>by simp at hm⟩
  ·rw[nU e]at h;obtain⟨i,hi,e1,e2,e3⟩:=ZyW h;refine⟨i+1,ah,Z,by simpa using e2,λv hm=>?_⟩;rw[List.take_succ_cons]at hm;rcases oQ.1 hm with rfl|hm
   ·exact e
   ·exact e3 v hm
def ZPq{vs}{j:Nat}(h:MW vs 0=some j):∃hj:j<vs.length,vs[j]= .null/\∀v∈vs.take j,v≠.null:=by
 obtain⟨i,hi,e,e2,e3⟩:=ZyW h;obtain rfl:i=j:=Z
 exact⟨hi,e2,e3⟩
def ZIo(W:World)(g:Nat)(vs:List wG)(cur:Array Value)(hg:W.heap[g]? =some (.cells cur 80))(hs:vs.length<=cur.size)(hv:∀i (h:i<vs.length),cur[i]? =some (xe vs[i]))(hl:vs.length<=1000):
  Calls prog 249 #[.slice (some ⟨g,0,none⟩) vs.length vs.length,.func (.func 250) #[] #[]] W λe W'=>∃rv,e= .returned rv/\xD W' rv (vs.filter (·≠.null))/\Below g W W':=by
 have hX:xD W (.slice (some ⟨g,0,none⟩) vs.length vs.length) vs:=⟨_,_,rfl,nV _,aj,λi hi=>⟨g,0,cur,rfl,hg,by simp[World.cell?,hg,hv i hi]⟩⟩;have HX:=vR hX;have HI:=vR (ZIr W _ vs hX hl);have hE:∀(args:Array Value) (w:World),(callFunc 250 args).run prog w= .ok (.enter 250 args) w:=λ_ _=>rfl;have HG:=vR hg;have HV:=vR hv;clear hX hg hv;go_enter func249,ntmps249;go_wp2_with fail;refine HI.out.mono ?_;rintro e w' ⟨rfl,rfl⟩;cases hn:MW vs 0 with
 |none=>
  have hf:vs.filter (·≠.null)=vs:=uo.2 (λv hm=>by simpa using ZyX hn v hm);have hq:(Zf4 none== -1)=true:=rfl;have HF:=vR hf;clear hf hn;go_wp2_with fail;go_ret;exact⟨_,rfl,by rw[HF.out];exact HX.out,nW _ _⟩
 |some k0=>
  obtain⟨Bc,QP,ZfO⟩:=ZPq hn;have hq:(Zf4 (some k0)== -1)=false:=by simp[Zf4]
  have zB:Zf4 (some k0)=(k0:Int):=rfl;have Zll:=vR ZfO;clear hn ZfO;simp only[zB]at *;go_wp2_with fail;go_loopg [5,6] (vs.length-(k0+1)+1) (λgk iv jv wr=>∃i j:Nat,j<=vs.length/\i<j/\gk=vs.length-j+1/\iv= .int .i64 i/\jv= .int .i64 j/\Below g w' wr/\(∃cu:Array Value,vs.length<=cu.size/\wr.heap[g]? =some (.cells cu 80)/\Hid (((vs.take j).filter (·≠.null)).length=i/\(∀t (h:t<((vs.take j).filter (·≠.null)).length),cu[t]? =some (xe ((vs.take j).filter (·≠.null))[t]))/\∀t (h:t<vs.length),j<=t->cu[t]? =some (xe vs[t]))));case atStart=>
   have Jf:(vs.take (k0+1)).filter (·≠.null)=vs.take k0:=by
    rw[o8 Bc,uq,QP,uo.2 (λv hm=>by simpa using Zll.out v hm)];simp
   refine⟨k0,k0+1,Z,Z,rfl,rfl,ak,nW _ _,⟨cur,hs,HG.out,?_⟩⟩;show _/\_;rw[Jf];refine⟨ah,λt h=>?_,λt h _=>HV.out t h⟩;have ht:t<vs.length:=by simp at h;omega
   rw[HV.out t ht];simp
  case round=>
   obtain⟨i,j,hj,ZR,rfl,rfl,rfl,hB,⟨cu,Fp,DI,hI⟩⟩:=hrel;by_cases hlt:j<vs.length
   ·have Ke:wr.cell? ⟨g,j,none⟩=some (xe vs[j]):=by simp[World.cell?,DI,hI.out.2.2 j hlt (nV _)]
    have hic:i<cu.size:=Z
    obtain⟨yI,Dl⟩:=IU DI hic;have LJ:=vR (ZyJ wr vs[j]);obtain⟨n1,y1,yB⟩:=Dp vs[j];rw[yB]at Ke LJ;have Et:=vR yB;clear yB;go_wp2_with fail;refine LJ.out.mono ?_;rintro e w2 ⟨rfl,rfl⟩;by_cases hc:vs[j]= .null
    ·have hd:decide (vs[j]= .null)=true:=by simpa using hc
     have HC:=vR hc;clear hc;rw[hd];go_wp2_with fail;go_roundg (vs.length-(j+1)+1);case measure=>omega
     case rel=>
      refine⟨i,j+1,Z,Z,rfl,rfl,ak,hB,⟨cu,Fp,DI,?_⟩⟩;have Jf:(vs.take (j+1)).filter (·≠.null)=(vs.take j).filter (·≠.null):=by
       rw[o8 hlt,uq,HC.out];simp
      show _/\_;rw[Jf];exact⟨hI.out.1,hI.out.2.1,λt h h'=>hI.out.2.2 t h Z⟩
    ·have hd:decide (vs[j]= .null)=false:=by simpa using hc
     have HC:=vR hc;clear hc;rw[hd];go_wp2_with fail;go_roundg (vs.length-(j+1)+1);case measure=>omega
     case rel=>
      refine⟨i+1,j+1,Z,Z,rfl,ak,ak,hB.setCell (p:=⟨g,i,none⟩) (nV _) _,⟨_,?_,zD DI,?_⟩⟩
      ·exact mX
      ·have Jf:(vs.take (j+1)).filter (·≠.null)=(vs.take j).filter (·≠.null)++ [vs[j]]:=by
        rw[o8 hlt,uq];simp[HC.out]
       have hli:=hI.out.1;show _/\_;rw[Jf];refine⟨by rw[o6,hli];rfl,λt h=>?_,λt h h'=>?_⟩
       ·by_cases ht:t<((vs.take j).filter (·≠.null)).length
        ·rw[qL Z,hI.out.2.1 t ht,pJ ht]
        ·have e:t=i:=by rw[o6]at h;simp only[List.length_singleton]at h;omega
         subst e;rw[qQ hic,qW Z];simp[hli,Et.out]
       ·rw[qL Z];exact hI.out.2.2 t h Z
   ·obtain rfl:j=vs.length:=by omega
    have zM:=Lib.run_clear_slice (P:=prog) wr 78 80 0 .nilIface underlying78 (λ_=>af) rfl rfl g i (vs.length-i) (vs.length-i) Z (λt ht=>by rw[(IU DI (show i+t<cu.size by omega)).1];rfl) (λt ht=>(IU DI (show i+t<cu.size by omega)).2);have HF:Hid ((vs.take vs.length).filter (·≠.null)=vs.filter (·≠.null)):=by show _=_;rw[tH]
    have ZoA:¬vs.length-i=0:=Z
    have TQ:Hid (xD (wr.setCells g i (List.replicate (vs.length-i) .nilIface)) (.slice (some ⟨g,0,none⟩) i vs.length) (vs.filter (·≠.null))):=by
     obtain⟨cz,hcz⟩:=ZAf g 80 (0,0) (List.replicate (vs.length-i) .nilIface) i wr cu DI;obtain⟨hli,zP,_⟩:=hI.out;rw[HF.out]at hli;simp only[HF.out]at zP;refine⟨some ⟨g,0,none⟩,vs.length,by rw[hli],Z,aj,λt ht=>⟨g,0,cz,rfl,hcz,?_⟩⟩;rw[World.cell?_setCells_out _ _ _ _ _ (λ_ _=>.inl (by show 0+t<i;omega)),o9];simp only[World.cell?,DI,zP t ht];rfl
    have HBE:=vR (ZAe g w' (List.replicate (vs.length-i) .nilIface) i wr hB);clear hI;go_wp2_with fail;go_ret;have ZG9:(λx:wG=> !decide (x= .null))=(λx=>decide (x≠.null)):=by funext x;simp
    refine⟨_,rfl,?_,HBE.out⟩;first|exact TQ.out|(rw[ZG9];exact TQ.out)
end
section
open Go.RowKit
def ZIx(W)(ka)(kc)(la)(ln lc):Calls prog 187 #[.slice ka 0 kc,.slice la ln lc] W λe W'=>e= .returned (.slice (some ⟨W.heap.size,0,none⟩) 1 1)/\W'.heap[W.heap.size]? =some (.cells #[.slice la ln lc] 257)/\vV W W':=by
 go_enter func187,ntmps187;go_wp2_with fail;go_ret;exact⟨rfl,oK _ _,(nW _ W).alloc (nV _) _⟩
end
section
open Go.RowKit
def ZVf(x y c:Nat)(hc:c<=1)(w):(callFunc 412 #[.int .u64 x,.int .u64 y,.int .u64 c]).run prog w= .ok (.value (.tuple #[.int .u64 (((x+y+c)%18446744073709551616:Nat):Int),.int .u64 (((x+y+c)/18446744073709551616:Nat):Int)])) w:=by
 rw[qF func412 af af af (e:=add64Entry) af,run_add64 x y c Z Z Z Z];simp only[Result.andThen];congr 5<;>omega
def ZVh(args)(w):(callFunc 392 args).run prog w= .ok (.enter 352 args) w:=by
 kernel_rfl
def ZVj(x y c:Nat)(hc:c<=1)(hx:x<18446744073709551616)(hy:y<18446744073709551616)(w):Calls prog 395 #[.int .u64 x,.int .u64 y,.int .u64 c] w λe w'=>e= .returned (.tuple #[.int .u64 (((x+y+c)%18446744073709551616:Nat):Int),.int .u64 (((x+y+c)/18446744073709551616:Nat):Int)])/\w'=w:=by
 have h:=ZVf x y c hc;generalize (x+y+c)%18446744073709551616=s at *;generalize (x+y+c)/18446744073709551616=k at *;go_enter func395,ntmps395;go_wp2;go_ret2;exact jS
def ZBq(W):(Instr.makeSlice 543 (.int .i64 1) (.int .i64 1)).run prog W= .ok (.slice (some ⟨W.heap.size,0,none⟩) 1 1) (W.alloc (.cells #[.int .u64 0] 572)):=by kernel_rfl
def ZBr(W):(Instr.makeSlice 543 (.int .i64 2) (.int .i64 6)).run prog W= .ok (.slice (some ⟨W.heap.size,0,none⟩) 2 6) (W.alloc (.cells #[.int .u64 0,.int .u64 0,.int .u64 0,.int .u64 0,.int .u64 0,.int .u64 0] 572)):=by kernel_rfl
def ZZY{p:Prop}(h:p:=by
 have Dm:=ZBq;have QN:=ZBr;go_enter func391,ntmps391;go_wp2;go_ret;exact⟨rfl,rfl⟩):p:=h
def ZVm(W):Calls prog 391 #[.slice none 0 0,.int .i64 1] W λe w'=>e= .returned (.slice (some ⟨W.heap.size,0,none⟩) 1 1)/\w'=W.alloc (.cells #[.int .u64 0] 572):=by
 exact ZZY
def ZVn(W)(g c)(hc:c<2):Calls prog 391 #[.slice (some ⟨g,0,none⟩) 1 c,.int .i64 2] W λe w'=>e= .returned (.slice (some ⟨W.heap.size,0,none⟩) 2 6)/\w'=W.alloc (.cells #[.int .u64 0,.int .u64 0,.int .u64 0,.int .u64 0,.int .u64 0,.int .u64 0] 572):=by
 exact ZZY
def ZVo(W)(g c)(hc:2<=c)(hm:c<=maxLen):Calls prog 391 #[.slice (some ⟨g,0,none⟩) 1 c,.int .i64 2] W λe w'=>e= .returned (.slice (some ⟨g,0,none⟩) 2 c)/\w'=W:=by
 unfold maxLen at hm;go_enter func391,ntmps391;exact kC
def ZVi(W)(zg zc xg xc yg yc x y s c:Nat)(hx:W.cell? ⟨xg,0,none⟩=some (.int .u64 x))(hy:W.cell? ⟨yg,0,none⟩=some (.int .u64 y))(hz:∃u,W.cell? ⟨zg,0,none⟩=some u)(hf:W.frozen? ⟨zg,0,none⟩=false)(IK:x<18446744073709551616)(GK:y<18446744073709551616)(hs:(x+y)%18446744073709551616=s)(hc:(x+y)/18446744073709551616=c):
  Calls prog 352 #[.slice (some ⟨zg,0,none⟩) 1 zc,.slice (some ⟨xg,0,none⟩) 1 xc,.slice (some ⟨yg,0,none⟩) 1 yc] W λe w'=>e= .returned (.int .u64 c)/\w'=(W.setCell ⟨zg,0,none⟩ (.int .u64 s)).drew:=by
 obtain⟨u,hz⟩:=hz;have HZ:=vR (ZVj x y 0 Z IK GK);simp only[Nat.add_zero]at HZ;rw[hs,hc]at HZ;have En:(s:Int)<=18446744073709551615:=Z
 have yV:(c:Int)<=1:=Z
 clear hs hc IK GK;go_enter func352,ntmps352;go_wp2_with fail;go_loopg [6,25] 2 (λgk cv iv wr=>(gk=2/\iv= .int .i64 0/\cv= .int .u64 0/\wr=W)\/(gk=1/\iv= .int .i64 1/\cv= .int .u64 c/\wr=(W.setCell ⟨zg,0,none⟩ (.int .u64 s)).drew));case atStart=>exact .inl ⟨rfl,rfl,rfl,rfl⟩
 case round=>
  rcases hrel with⟨rfl,rfl,rfl,rfl⟩|⟨rfl,rfl,rfl,rfl⟩
  ·go_wp2_with fail;go_region_with (go_at_call 395;refine(HZ.out _).mono ?_;rintro e w1 ⟨rfl,rfl⟩);all_goals
    go_wp2_with fail;go_roundg 1;case measure=>omega
    case rel=>exact .inr ⟨rfl,ak,rfl,rfl⟩
  ·exact kN
end
section
open Go.RowKit
def ZVq(W)(g cap a b:Nat)(O3:2<=cap)(hm:cap<=maxLen)(c0:W.cell? ⟨g,0,none⟩=some (.int .u64 a))(c1:W.cell? ⟨g,1,none⟩=some (.int .u64 b))(h:b=0->a≠0)(r)(hr:(b=0/\r=1)\/(b≠0/\r=2)):
  Calls prog 394 #[.slice (some ⟨g,0,none⟩) 2 cap] W λe w'=>e= .returned (.slice (some ⟨g,0,none⟩) r cap)/\vV W w':=by
 unfold maxLen at hm;have hm':(cap:Int)<=9223372036854775807:=Z
 go_enter func394,ntmps394;go_wp2_with fail;go_loopg [3] 3 (λgk iv wr=>vV W wr/\((gk=3/\iv= .int .i64 2)\/(gk=2/\iv= .int .i64 1/\b=0)));case atStart=>exact⟨nW _ _,.inl ⟨rfl,rfl⟩⟩
 case round=>
  obtain⟨hB,hrel⟩:=hrel;have xL:g<W.heap.size:=oH W _ c0;have d0:=wT hB xL c0;have d1:=wT hB xL c1;rcases hrel with⟨rfl,rfl⟩|⟨rfl,rfl,hb⟩
  ·by_cases hb:b=0
   ·have HB:=vR hb;have Ey:((b:Int)==0)=true:=by simp[hb]
    clear hb h c0 c1 hr;go_wp2_with fail;go_roundg 2;case measure=>omega
    case rel=>exact⟨hB,.inr ⟨rfl,ak,HB.out⟩⟩
   ·obtain rfl:r=2:=by omega
    have Ey:((b:Int)==0)=false:=by simp;omega
    clear hb h c0 c1 hr;exact kM
  ·obtain rfl:r=1:=by omega
   have ha:=h hb;have ZC:((a:Int)==0)=false:=by simp;omega
   clear hb h c0 c1 hr ha;exact kM
def ZVw(W)(xg xc x:Nat)(hx:W.cell? ⟨xg,0,none⟩=some (.int .u64 x)):
  Calls prog 390 #[.slice none 0 0,.slice (some ⟨xg,0,none⟩) 1 xc] W λe w'=>e= .returned (.slice (some ⟨W.heap.size,0,none⟩) 1 1)/\w'.heap[W.heap.size]? =some (.cells #[.int .u64 x] 572)/\vV W w':=by
 have HM:=vR (ZVm W);have Dx:xg<W.heap.size:=oH W _ hx;have hcp:=run_copy_cells (P:=prog) (W.alloc (.cells #[.int .u64 0] 572)) 543 543 3 572 W.heap.size 0 1 1 ⟨xg,0,none⟩ 1 xc [.int .u64 x] underlying543 af rfl (λj v hj=>by
  cases j with
  |zero=>simp at hj;subst hj;exact(oD W _ ⟨xg,0,none⟩ Dx).trans hx
  |succ j=>simp at hj) (λj hj=>by
  have:j=0:=by simpa using hj
  subst this;simp) (λj hj=>by have ha:=xI W (.cells #[.int .u64 0] 572);simp only[World.frozen?,ha];simp) au
 go_enter func390,ntmps390;go_wp2_with fail;refine HM.out.mono ?_;rintro e w1 ⟨rfl,rfl⟩;go_wp2_with fail;go_ret;refine⟨rfl,?_,?_⟩
 ·have:=zD (k:=0) (u:=.int .u64 x) (xI W (.cells #[.int .u64 0] 572));simpa[World.setCells]using this
 ·simp only[World.setCells];exact((nW _ _).alloc (nV _) _).setCell (p:=⟨W.heap.size,0,none⟩) (nV _) _
def Zbi(W:World)(B:Nat)(v:Value)(t:Nat):Prop:=∃g cap cu,v= .slice (some ⟨g,0,none⟩) (if t<18446744073709551616 then 1 else 2) cap/\B<=g/\W.heap[g]? =some (.cells cu 572)/\cu.size=cap/\cap<=maxLen/\(18446744073709551616<=t->2<=cap)/\cu[0]? =some (.int .u64 ((t%18446744073709551616:Nat):Int))/\0<t/\t<36893488147419103232
def ZVd(W)(yg yc y)(hy:W.cell? ⟨yg,0,none⟩=some (.int .u64 y))(h0:0<y)(h1:y<18446744073709551616)(B)(hB:B<=W.heap.size):
  Calls prog 358 #[.slice none 0 0,.slice none 0 0,.slice (some ⟨yg,0,none⟩) 1 yc] W λe w'=>∃v,e= .returned v/\Zbi w' B v y/\vV W w':=by
 have HS:=vR (ZVw W yg yc y hy);have HR:Hid (Calls prog 358 #[.slice none 0 0,.slice (some ⟨yg,0,none⟩) 1 yc,.slice none 0 0] W λe w'=>e= .returned (.slice (some ⟨W.heap.size,0,none⟩) 1 1)/\w'.heap[W.heap.size]? =some (.cells #[.int .u64 y] 572)/\vV W w'):=by
  show Calls _ _ _ _ _;go_enter func358,ntmps358;go_wp2_with fail;refine HS.out.mono ?_;rintro e w1 ⟨rfl,h2,h3⟩;go_wp2_with fail;go_ret;exact⟨rfl,h2,h3⟩
 go_enter func358,ntmps358;go_wp2_with fail;refine HR.out.mono ?_;rintro e w1 ⟨rfl,h2,h3⟩;go_wp2_with fail;go_ret;exact⟨_,rfl,⟨W.heap.size,1,#[.int .u64 y],by simp only[nY h1];rfl,hB,h2,rfl,aj,λh=>Z,by rw[tK h1];rfl,h0,Z⟩,h3⟩
end
section
open Go.RowKit
structure Gr (B:Nat) (W w':World):Prop where
 low:Below B W w'
 kp:∀(y:Nat) (cu:Array Value) (ty:TypeId),ty≠572->W.heap[y]? =some (.cells cu ty)->w'.heap[y]? =some (.cells cu ty)
def Gr.refl(B)(W):Gr B W W:=⟨nW _ _,λ_ _ _ _ e=>e⟩
theorem Gr.trans{a b c}(h:Gr B a b)(k:Gr B b c):Gr B a c:=⟨h.low.trans k.low,λy cu ty ht e=>k.kp y cu ty ht (h.kp y cu ty ht e)⟩
def Gr.of(h:vV W w')(hB:B<=W.heap.size):Gr B W w':=⟨h.mono hB,λy cu ty _ e=>xq h e⟩
theorem Gr.drew(h:Gr B W w'):Gr B W w'.drew:=⟨FR h.low,h.kp⟩
def Gr.set{g k:Nat}{cu:Array Value}{u:Value}(h:Gr B W w')(hg:w'.heap[g]? =some (.cells cu 572))(hB:B<=g):Gr B W (w'.setCell ⟨g,k,none⟩ u):=
 ⟨h.low.setCell (p:=⟨g,k,none⟩) hB _,λy BA ty ht e=>(uX w' ⟨g,k,none⟩ u y (λe1=>by
  have e2:=h.kp y BA ty ht e;have e3:y=g:=e1;rw[e3,hg]at e2;cases e2;exact ht rfl)).trans (h.kp y BA ty ht e)⟩
def ZVe(W)(B g cap yg yc)(cu)(t y:Nat)(hg:W.heap[g]? =some (.cells cu 572))(hs:cu.size=cap)(hm:cap<=maxLen)(Ch:cu[0]? =some (.int .u64 t))(LV:0<t)(ht:t<18446744073709551616)(hy:W.cell? ⟨yg,0,none⟩=some (.int .u64 y))(h0:0<y)(h1:y<18446744073709551616)(hyc:1<=yc)(ZxO:yc<=maxLen)(hBg:B<=g)(hB:B<=W.heap.size):
  Calls prog 358 #[.slice (some ⟨g,0,none⟩) 1 cap,.slice (some ⟨g,0,none⟩) 1 cap,.slice (some ⟨yg,0,none⟩) 1 yc] W λe w'=>∃v,e= .returned v/\Zbi w' B v (t+y)/\Gr B W w':=by
 have Jj:=ZVh;have xL:=(wo hg);have hyl:yg<W.heap.size:=oH W _ hy;have hx:W.cell? ⟨g,0,none⟩=some (.int .u64 t):=by simp[World.cell?,hg,Ch]
 have ZW7:1<=cap:=by have:=(wo Ch);omega
 obtain⟨s,hS⟩:∃s,(t+y)%18446744073709551616=s:=⟨_,rfl⟩;obtain⟨c,hC⟩:∃c,(t+y)/18446744073709551616=c:=⟨_,rfl⟩;obtain⟨r,hr⟩:∃r,(c=0/\r=1)\/(c≠0/\r=2):=by
  by_cases h:c=0
  ·exact⟨1,.inl ⟨h,rfl⟩⟩
  ·exact⟨2,.inr ⟨h,rfl⟩⟩
 have HM:Hid (Calls prog 391 #[.slice (some ⟨g,0,none⟩) 1 cap,.int .i64 2] W λe w'=>∃(n0 Cr:Nat) (Au:Array Value),e= .returned (.slice (some ⟨n0,0,none⟩) 2 Cr)/\w'.heap[n0]? =some (.cells Au 572)/\Au.size=Cr/\2<=Cr/\Cr<=maxLen/\B<=n0/\Gr B W w'/\w'.cell? ⟨g,0,none⟩=some (.int .u64 t)/\w'.cell? ⟨yg,0,none⟩=some (.int .u64 y)):=by
  show Calls _ _ _ _ _;by_cases O3:cap<2
  ·refine(ZVn W g cap O3).mono ?_;rintro e w1 ⟨rfl,rfl⟩;have hA:vV W (W.alloc (.cells #[.int .u64 0,.int .u64 0,.int .u64 0,.int .u64 0,.int .u64 0,.int .u64 0] 572)):=(nW _ _).alloc (nV _) _;exact⟨W.heap.size,6,_,rfl,xI W _,rfl,Z,aj,hB,Gr.of hA hB,wT hA xL hx,wT hA hyl hy⟩
  ·refine(ZVo W g cap Z hm).mono ?_;rintro e w1 ⟨rfl,rfl⟩;exact⟨g,cap,cu,rfl,hg,hs,Z,hm,hBg,Gr.refl _ _,hx,hy⟩
 have hm':(cap:Int)<=9223372036854775807:=by unfold maxLen at hm;omega
 have ZYb:(yc:Int)<=9223372036854775807:=by unfold maxLen at ZxO;omega
 have HT:=vR (oG hS hC);have HR:=vR hr;clear hm hx hy hs Ch hg ZxO hS hC hr;go_enter func358,ntmps358;go_wp2_with fail;refine HM.out.mono ?_;rintro e w1 ⟨n0,Cr,Au,rfl,hn,En,h2,Dm,Qp,xX,hx,hy⟩;have Zjj:(Cr:Int)<=9223372036854775807:=by unfold maxLen at Dm;omega
 have QP:=(wo hn);have yz:=zD (k:=0) (u:=.int .u64 s) hn;obtain⟨EZ,Zi3⟩:∃c,c=Au.setIfInBounds 0 (.int .u64 s):=⟨_,rfl⟩;have Ay:EZ.size=Cr:=by rw[Zi3];simp[En]
 have h20:EZ[0]? =some (.int .u64 s):=by rw[Zi3];exact qQ Z
 rw[<-Zi3]at yz;have HV:Hid (Calls prog 352 #[.slice (some ⟨n0,0,none⟩) 1 Cr,.slice (some ⟨g,0,none⟩) 1 cap,.slice (some ⟨yg,0,none⟩) 1 yc] w1.drew λe w'=>e= .returned (.int .u64 c)/\(∃u,w'.cell? ⟨n0,1,none⟩=some u)/\w'.frozen? ⟨n0,1,none⟩=false/\w'.heap[n0]? =some (.cells EZ 572)/\Gr B W w'):=by
  show Calls _ _ _ _ _;refine(ZVi w1.drew n0 Cr g cap yg yc t y s c hx hy ⟨_,(IU (k:=0) hn Z).1⟩ (IU (k:=0) hn Z).2 ht h1 HT.out.1 HT.out.2).mono ?_;rintro e w' ⟨rfl,rfl⟩;have hq:(((w1.drew).setCell ⟨n0,0,none⟩ (.int .u64 s)).drew).heap[n0]? =some (.cells EZ 572):=yz;exact⟨rfl,⟨_,(IU (k:=1) hq Z).1⟩,(IU (k:=1) hq Z).2,hq,(Gr.set (w':=w1.drew) xX.drew hn Qp).drew⟩
 have HN:Hid (∀w2:World,w2.heap[n0]? =some (.cells (EZ.setIfInBounds 1 (.int .u64 c)) 572)->Calls prog 394 #[.slice (some ⟨n0,0,none⟩) 2 Cr] w2 λe w'=>e= .returned (.slice (some ⟨n0,0,none⟩) r Cr)/\vV w2 w'):=by
  intro w2 DR;refine ZVq w2 n0 Cr s c h2 Dm ?_ ?_ ?_ r HR.out
  ·simp only[World.cell?,DR];simp[h20]
  ·simp only[World.cell?,DR];exact qQ Z
  ·intro hc JK;have:=HT.out;omega
 clear yz Zi3 hx hy Dm xX;go_wp2_with fail;go_region_with (with_reducible refine HV.out.mono ?_;rintro e w2 ⟨rfl,⟨u,q1⟩,q2,q3,q4⟩);all_goals
  go_wp2_with fail;have q5:=zD (k:=1) (u:=.int .u64 c) q3;refine(HN.out _ q5).mono ?_;rintro e w4 ⟨rfl,q6⟩;go_wp2_with fail;go_ret;have q7:Gr B W (w2.setCell ⟨n0,1,none⟩ (.int .u64 c)):=q4.set q3 Qp;have q8:=xq q6 q5;have hT:=HT.out;have hR:=HR.out;refine⟨_,rfl,⟨n0,Cr,_,?_,Qp,q8,by simp[Ay],aj,λ_=>h2,?_,Z,Z⟩,q7.trans (Gr.of q6 (om hB q7.low.size))⟩
  ·rcases hR with⟨e1,rfl⟩|⟨e1,rfl⟩
   ·rw[nY Z];rfl
   ·rw[nU Z];rfl
  ·rw[hT.1];simp[h20]
end
section
open Go.RowKit
def Rs(W:World)(B b t:Nat):Prop:=∃v,W.heap[b]? =some (.cells #[.bool false,v] 545)/\B<=b/\((t=0/\v= .slice none 0 0)\/Zbi W B v t)
theorem Zbi.slice{v}{t}(h:Zbi W B v t):∃a l c,v= .slice a l c/\0<l:=by
 obtain⟨g,cap,cu,rfl,_⟩:=h;exact⟨_,_,_,rfl,by split<;>omega⟩
def ZVp(W)(n:Nat)(h0:0<n)(h1:n<9223372036854775808):Calls prog 307 #[.int .i64 n] W λe w'=>∃yb yg,e= .returned (.pointer (some ⟨yb,0,none⟩))/\w'.heap[yb]? =some (.cells #[.bool false,.slice (some ⟨yg,0,none⟩) 1 1] 545)/\w'.heap[yg]? =some (.cells #[.int .u64 n] 572)/\vV W w':=by
 have DL:((n:Int)==0)=false:=by simp;omega
 have NW:decide ((n:Int)<0)=false:=ae
 go_enter func307,ntmps307;go_wp2_with fail;go_ret;obtain⟨a1,a2⟩:=J6 W (.cells #[.int .u64 n] 572) (.cells #[.bool false,.slice (some ⟨W.heap.size,0,none⟩) 1 1] 545);exact⟨_,_,rfl,a2,a1,((nW _ _).alloc (nV _) _).alloc ae _⟩
def ZBp(W)(g cap l t:Nat)(hl:0<l)(hx:W.cell? ⟨g,0,none⟩=some (.int .u64 t)):Calls prog 361 #[.slice (some ⟨g,0,none⟩) l cap] W λe w'=>e= .returned (.int .u64 t)/\w'=W:=by
 have DL:((l:Int)==0)=false:=by simp;omega
 go_enter func361,ntmps361;exact kN
def ZZZ{p:Prop}(h:p:=by
 go_wp2_with fail;refine HL.out.mono ?_;rintro e w1 ⟨rfl,rfl⟩;go_wp2_with fail;go_ret;exact⟨rfl,nW _ _⟩):p:=h
def ZVk(W)(B b t)(h:Rs W B b t)(h0:0<t)(h1:t<9223372036854775808):Calls prog 309 #[.pointer (some ⟨b,0,none⟩)] W λe w'=>e= .returned (.int .i64 t)/\vV W w':=by
 obtain⟨v,hb,_,h2⟩:=h;rcases h2 with⟨h2,_⟩|⟨g,cap,cu,rfl,_,hg,_,_,_,hc,_,_⟩
 ·omega
 rw[nY Z]at hb;rw[tK Z]at hc;have d0:=xH hb;have d1:=zS hb;have HL:=vR (ZBp W g cap 1 t Z (by simp[World.cell?,hg,hc]));have Bl:IntKind.i64.wrap (t:Int)=t:=by rw[IntKind.wrap_i64];omega
 clear hb hg hc;go_enter func309,ntmps309;exact ZZZ
def ZVl(W)(B b t)(h:Rs W B b t)(h0:0<t):Calls prog 308 #[.pointer (some ⟨b,0,none⟩)] W λe w'=>e= .returned (.bool (decide (t<9223372036854775808)))/\vV W w':=by
 obtain⟨v,hb,_,h2⟩:=h;rcases h2 with⟨h2,_⟩|⟨g,cap,cu,rfl,_,hg,_,_,_,hc,_,_⟩
 ·omega
 have d0:=xH hb;by_cases h3:t<18446744073709551616
 ·rw[nY h3]at hb;rw[tK Z]at hc;have d1:=zS hb;have HL:=vR (ZBp W g cap 1 t Z (by simp[World.cell?,hg,hc]));by_cases h4:t<9223372036854775808
  ·have hd:decide (t<9223372036854775808)=true:=by simpa using h4
   rw[hd];clear hb hg hc hd;go_enter func308,ntmps308;exact ZZZ
  ·have hd:decide (t<9223372036854775808)=false:=by simpa using h4
   rw[hd];clear hb hg hc hd;have hw:¬(0<=wrap64 (t:Int)):=by unfold wrap64;omega
   have hwd:decide (0<=wrap64 (t:Int))=false:=by simpa using hw
   go_enter func308,ntmps308;exact ZZZ
 ·rw[nU h3]at hb;have d1:=zS hb;have hd:decide (t<9223372036854775808)=false:=by simp;omega
  rw[hd];clear hb hg hc hd;go_enter func308,ntmps308;exact kL
def ZVg(W)(B b)(yb yg:Nat)(t)(n:Nat)(h:Rs W B b t)(ht:t<18446744073709551616)(hyb:W.heap[yb]? =some (.cells #[.bool false,.slice (some ⟨yg,0,none⟩) 1 1] 545))(hyg:W.heap[yg]? =some (.cells #[.int .u64 n] 572))(h0:0<n)(h1:n<9223372036854775808)(hB:B<=W.heap.size):
  Calls prog 306 #[.pointer (some ⟨b,0,none⟩),.pointer (some ⟨b,0,none⟩),.pointer (some ⟨yb,0,none⟩)] W λe w'=>(∃p,e= .returned (.pointer p))/\Rs w' B b (t+n)/\Below B W w':=by
 obtain⟨v,hb,Uv,h2⟩:=h;have hy:=xH hyg;have d0:=xH hb;have d1:=zS hb;have e0:=xH hyb;have e1:=zS hyb;obtain⟨va,vl,vc,hv⟩:∃a l c,v= .slice a l c:=by
  rcases h2 with⟨_,rfl⟩|⟨g,cap,cu,rfl,_⟩<;>exact⟨_,_,_,rfl⟩
 have HA:Hid (∀n0,Calls prog 358 #[v,v,.slice (some ⟨yg,0,none⟩) 1 1] (W.drewN n0) λe w'=>∃u,e= .returned u/\(∃ua ul uc,u= .slice ua ul uc/\0<ul)/\Hid (Zbi w' B u (t+n)/\Below B W w'/\(w'.heap[b]? =some (.cells #[.bool false,v] 545)))/\w'.cell? ⟨b,1,none⟩=some v/\w'.frozen? ⟨b,1,none⟩=false/\w'.cell? ⟨b,0,none⟩=some (.bool false)/\w'.frozen? ⟨b,0,none⟩=false):=by
  intro n0;rcases h2 with⟨rfl,rfl⟩|⟨g,cap,cu,rfl,hBg,hg,hs,hm,_,hc,LV,_⟩
  ·refine(ZVd (W.drewN n0) yg 1 n hy h0 Z B hB).mono ?_;rintro e w1 ⟨u,rfl,k1,k2⟩;have kk:w1.heap[b]? =_:=xq k2 hb;exact⟨u,rfl,k1.slice,⟨by rw[o9];exact k1,(yF (nW _ W) n0).trans (k2.mono hB),kk⟩,ed,eu,ed,eu⟩
  ·rw[nY ht]at hb ⊢;rw[tK ht]at hc;refine(ZVe (W.drewN n0) B g cap yg 1 cu t n hg hs hm hc LV ht hy h0 Z Z aj hBg hB).mono ?_;rintro e w1 ⟨u,rfl,k1,k2⟩;have kk:=k2.kp b _ _ O hb;exact⟨u,rfl,k1.slice,⟨k1,(yF (nW _ W) n0).trans k2.low,kk⟩,ed,eu,ed,eu⟩
 subst hv;have HB:=vR hb;have NJ:∀p,W.drew.cell? p=W.cell? p:=λ_=>rfl;clear h2 hb hyb hyg hy;go_enter func306,ntmps306;go_wp2_with fail;go_quiet (fail);go_wp2_with fail;go_region_with (go_at_call 358;refine(HA.out _).mono ?_;rintro e w1 ⟨u,rfl,⟨ua,ul,uc,rfl,hul⟩,k1,c1,c2,c3,c4⟩);all_goals
  go_wp2_with fail;go_ret;refine⟨⟨_,rfl⟩,⟨.slice ua ul uc,?_,Uv,.inr ?_⟩,(k1.out.2.1.setCell (p:=⟨b,1,none⟩) Uv _).setCell (p:=⟨b,0,none⟩) Uv _⟩
  ·have q:=zD (k:=0) (u:=.bool false) (zD (k:=1) (u:=.slice ua ul uc) k1.out.2.2);simpa using q
  ·obtain⟨g,cap,cu,e1,e2,e3,e4⟩:=k1.out.1;have GH:g≠b:=λe=>by have:=k1.out.2.2;rw[<-e,e3]at this;cases this
   refine⟨g,cap,cu,e1,e2,?_,e4⟩;exact(uX _ ⟨b,0,none⟩ _ g GH).trans ((uX _ ⟨b,1,none⟩ _ g GH).trans e3)
end
section
open Go.RowKit
def KZ(ns:List Nat):List wG:=ns.map fun(n:Nat)=>wG.int (n:Int)
structure ZlR (ns:List Nat):Prop where
 pos:∀n∈ns,0<n/\n<9223372036854775808
 ne:0<ns.length
 len:ns.length<=1000
 part:∀k,k<ns.length->(ns.take k).sum<18446744073709551616
def ZH9(f)(hf:∀a n,f a (.int n)=a+n)(ns):∀a:Int,(KZ ns).foldl f a=a+(ns.sum:Nat):=by
 induction ns with
 |nil=>intro a;simp[KZ]
 |cons n ns ih=>
  intro a;have e:KZ (n::ns)=wG.int (n:Int)::KZ ns:=rfl;rw[e,List.foldl_cons,ih,List.sum_cons,hf];omega
def ZSZ(ns):Ot (KZ ns)=if ns.sum<9223372036854775808 then(.int (ns.sum:Nat),0)else(.null,7):=by
 unfold Ot;simp only[];rw[ZH9 _ (λ_ _=>rfl)];simp only[Pt,Int.zero_add];by_cases h:ns.sum<9223372036854775808
 ·rw[nY h,nY ⟨Z,Z⟩]
 ·rw[nU h,nU Z]
def ZAu(ns:List Nat)(k)(h:k<ns.length):(ns.take (k+1)).sum=(ns.take k).sum+ns[k]:=by
 rw[o8 h,tL];simp
def Rs.below{b t}(h:Rs W B b t)(hB:vV W W'):Rs W' B b t:=by
 obtain⟨v,h1,h2,h3⟩:=h;refine⟨v,xq hB h1,h2,h3.imp id ?_⟩;rintro⟨g,cap,cu,e1,e2,e3,e4⟩;exact⟨g,cap,cu,e1,e2,xq hB e3,e4⟩
def ZSh(W)(xv)(ns)(hx:xD W xv (KZ ns))(ok:ZlR ns):Calls prog 254 #[xv] W λe W'=>e= .returned (.tuple #[xe (Ot (KZ ns)).1,.int .i64 (Ot (KZ ns)).2])/\Below W.heap.size W W':=by
 have Kl:(KZ ns).length=ns.length:=by simp[KZ]
 obtain⟨xa,xc,rfl,_,_,h3⟩:=hx;rw[Kl];have hta:=ZkD;have HV:Hid (∀i (h:i<ns.length),∃g o cu,xa=some ⟨g,o,none⟩/\W.heap[g]? =some (.cells cu 80)/\W.cell? ⟨g,o+i,none⟩=some (.iface 142 (.int .i64 (ns[i]:Nat)))):=by
  intro i hi;obtain⟨g,o,cu,e1,e2,e3⟩:=h3 i (by rw[Kl];exact hi);exact⟨g,o,cu,e1,e2,by rw[e3];simp[KZ,xe]⟩
 have ET:=vR ok;have V8:=vR (ZSZ ns);have hlen:=ok.len;clear h3 ok Kl;generalize Ot (KZ ns)=sv at *;go_enter func254,ntmps254;go_wp2_with fail;generalize hb:W.heap.size=tb at *;go_loopg [12] (ns.length+1) (λgk iv wr=>∃(k t:Nat),k<=ns.length/\gk=ns.length-k+1/\iv= .int .i64 k/\Below tb W wr/\Hid (Rs wr tb tb t/\(ns.take k).sum=t));case atStart=>
  subst hb;exact⟨0,0,Z,Z,rfl,(nW _ _).alloc (nV _) _,⟨_,xI W _,nV _,.inl ⟨rfl,rfl⟩⟩,rfl⟩
 case round=>
  obtain⟨k,t,hk,rfl,rfl,hB,hI⟩:=hrel;have yA:=hB.size;have ZoV:tb<=wr.heap.size:=Z
  by_cases hlt:k<ns.length
  ·obtain⟨g,o,cu,rfl,hg,hc⟩:=HV.out k hlt;have d0:=(hB.cell (p:=⟨g,o+k,none⟩) (by have:=(oz.1 hg).1;show g<tb;omega)).trans hc;have hp:=ET.out.pos _ (oC hlt);have HN:=vR (ZVp wr ns[k] hp.1 hp.2);have Ip:=vR (ZAu ns k hlt);have Zxf:=ET.out.part k hlt;rw[hI.out.2]at Zxf Ip;have HI:=vR hI.out.1;generalize ns[k]=n at *;clear hc hg hI;go_wp2_with fail;refine HN.out.mono ?_;rintro e w1 ⟨yb,yg,rfl,hyb,hyg,wE⟩;have HI1:=vR (Rs.below HI.out wE);have HAd:=vR (ZVg w1 tb tb yb yg t n HI1.out Zxf hyb hyg hp.1 hp.2 (by have:=wE.size;omega));have En:=wE.size;clear hyb hyg HN;go_wp2_with fail;refine HAd.out.mono ?_;rintro e w2 ⟨⟨p,rfl⟩,hbig,wK⟩;go_wp2_with fail;go_roundg (ns.length-(k+1)+1);case measure=>omega
   case rel=>exact⟨k+1,t+n,Z,rfl,ak,(hB.trans (wE.mono Z)).trans wK,hbig,Ip.out⟩
  ·obtain rfl:k=ns.length:=by omega
   have ht:=hI.out.2;rw[oO (nV _)]at ht;have LV:0<t:=by
    have h1:=ET.out.ne;have h2:=(ET.out.pos _ (oC h1)).1;have h3:ns[0]<=ns.sum:=by
     have:=ZAu ns 0 h1;have h5:(ns.take 1).sum<=ns.sum:=by
      conv=>rhs;rw[<-sS 1 ns,tL]
      omega
     exact nN
    omega
   have HIS:=vR (ZVl wr tb tb t hI.out.1 LV);have HI:=vR hI.out.1;rw[ht]at V8;clear ht hI HV;go_wp2_with fail;refine HIS.out.mono ?_;rintro e w1 ⟨rfl,wE⟩;have Z5:∀(x:Bool) (w:World),(Op.unary .not (.bool x)).run prog w= .ok (.bool (!x)) w:=λ_ _=>rfl;by_cases OU:t<9223372036854775808
   ·have hd:decide (t<9223372036854775808)=true:=by simpa using OU
    have CL:=V8.out;rw[nY OU]at CL;have OE:=vR CL;have H64:=vR (ZVk w1 tb tb t (Rs.below HI.out wE) LV OU);rw[hd];clear hd OU CL V8;go_wp2_with fail;refine H64.out.mono ?_;rintro e w2 ⟨rfl,wK⟩;go_wp2_with fail;go_ret2;exact⟨by rw[OE.out];rfl,hb.symm▸(hB.trans (wE.mono ZoV)).trans (wK.mono (om ZoV wE.size))⟩
   ·have hd:decide (t<9223372036854775808)=false:=by simpa using OU
    have CL:=V8.out;rw[nU OU]at CL;have OE:=vR CL;rw[hd];clear hd OU CL V8;go_wp2_with fail;go_ret2;exact⟨by rw[OE.out];rfl,hb.symm▸hB.trans (wE.mono ZoV)⟩
end
section
open Go.RowKit
def ZOV(vs:List wG)(k)(h0:0<k)(hk:k<vs.length):Oi (vs.take (k+1))=if G7 vs[k] (Oi (vs.take k))<0 then vs[k]else Oi (vs.take k):=by
 rw[o8 hk];cases vs with
 |nil=>simp at hk
 |cons v r=>
  cases k with
  |zero=>omega
  |succ k=>
   simp only[List.take_succ_cons,List.cons_append,Oi,qN,List.foldl_cons,List.foldl_nil];rfl
def ZZ0{p:Prop}(h:p:=by
 rw[nY zM]at HS;go_wp2_with fail;refine⟨⟨k+1,Z,Z,ak,?_⟩,bE⟩;rw[HS.out,Et.out]):p:=h
def ZZ1{p:Prop}(h:p:=by
 rw[nU zM]at HS;go_wp2_with fail;refine⟨⟨k+1,Z,Z,ak,?_⟩,bE⟩;rw[HS.out,YH.out]):p:=h
def ZZ2{p:Prop}(h:p:=by
 refine⟨1,Z,Z,rfl,?_⟩;cases vs with
 |nil=>simp at h0
 |cons v r=>exact Gv.out.symm):p:=h
def ZIt(W)(xv)(vs)(hx:xD W xv vs)(hl:vs.length<=1000)(h0:0<vs.length):Calls prog 251 #[xv,.func (.func 252) #[] #[]] W λe W'=>e= .returned (xe (Oi vs))/\W'=W:=by
 obtain⟨a,c,rfl,h1,h2,h3⟩:=hx;obtain⟨g,o,cu,rfl,_,Ch⟩:=h3 0 h0;have HX:=vR h3;obtain⟨n0,y0,hv0⟩:=Dp vs[0];rw[hv0,Nat.add_zero]at Ch;have Gv:=vR hv0;have hE:∀(args:Array Value) (w:World),(callFunc 252 args).run prog w= .ok (.enter 252 args) w:=λ_ _=>rfl;have El:decide ((vs.length:Int)<1)=false:=by simp;omega
 have Fu:¬vs.length=0:=Z
 clear h3 hv0;unfold maxLen at *;go_enter func251,ntmps251;go_wp2_with fail;go_loop [5,6] (λmv i=>∃k:Nat,k<=vs.length/\0<k/\i= .int .i64 k/\mv=xe (Oi (vs.take k))) (λ_ i=>vs.length-(intOf i).toNat);case atStart=>
  exact ZZ2
 case round=>
  obtain⟨k,hk,Bc,rfl,rfl⟩:=hrel;by_cases hlt:k<vs.length
  ·obtain⟨g',o',BA,ee,_,Av⟩:=HX.out k hlt;cases ee;have HS:=vR (ZOV vs k Bc hlt);generalize hm:Oi (vs.take k)=m at *;generalize hv:vs[k]=v at *;have LJ:=vR (Zj7 v m W);have Cv:(G7 v m<0\/G7 v m=0\/0<G7 v m):=by omega
   generalize QB:G7 v m=cv at *;obtain⟨n1,y1,yB⟩:=Dp v;obtain⟨n2,y2,Fx⟩:=Dp m;rw[yB,Fx]at LJ;rw[yB]at Av;have Et:=vR yB;rw[Fx];have YH:=vR Fx;clear yB Fx hm hv QB;go_wp2_with fail;refine LJ.out.mono ?_;rintro e w' ⟨rfl,rfl⟩;by_cases zM:cv<0
   ·have hd:decide (cv<0)=true:=by simpa using zM
    exact ZZ0
   ·have hd:decide (cv<0)=false:=by simpa using zM
    exact ZZ1
  ·obtain rfl:k=vs.length:=by omega
   exact kI
def ZOM(vs:List wG)(k)(h0:0<k)(hk:k<vs.length):Oh (vs.take (k+1))=if 0<G7 vs[k] (Oh (vs.take k))then vs[k]else Oh (vs.take k):=by
 rw[o8 hk];cases vs with
 |nil=>simp at hk
 |cons v r=>
  cases k with
  |zero=>omega
  |succ k=>
   simp only[List.take_succ_cons,List.cons_append,Oh,qN,List.foldl_cons,List.foldl_nil];rfl
def ZIs(W)(xv)(vs)(hx:xD W xv vs)(hl:vs.length<=1000)(h0:0<vs.length):Calls prog 253 #[xv,.func (.func 252) #[] #[]] W λe W'=>e= .returned (xe (Oh vs))/\W'=W:=by
 obtain⟨a,c,rfl,h1,h2,h3⟩:=hx;obtain⟨g,o,cu,rfl,_,Ch⟩:=h3 0 h0;have HX:=vR h3;obtain⟨n0,y0,hv0⟩:=Dp vs[0];rw[hv0,Nat.add_zero]at Ch;have Gv:=vR hv0;have hE:∀(args:Array Value) (w:World),(callFunc 252 args).run prog w= .ok (.enter 252 args) w:=λ_ _=>rfl;have El:decide ((vs.length:Int)<1)=false:=by simp;omega
 have Fu:¬vs.length=0:=Z
 clear h3 hv0;unfold maxLen at *;go_enter func253,ntmps253;go_wp2_with fail;go_loop [5,6] (λmv i=>∃k:Nat,k<=vs.length/\0<k/\i= .int .i64 k/\mv=xe (Oh (vs.take k))) (λ_ i=>vs.length-(intOf i).toNat);case atStart=>
  exact ZZ2
 case round=>
  obtain⟨k,hk,Bc,rfl,rfl⟩:=hrel;by_cases hlt:k<vs.length
  ·obtain⟨g',o',BA,ee,_,Av⟩:=HX.out k hlt;cases ee;have HS:=vR (ZOM vs k Bc hlt);generalize hm:Oh (vs.take k)=m at *;generalize hv:vs[k]=v at *;have LJ:=vR (Zj7 v m W);have Cv:(G7 v m<0\/G7 v m=0\/0<G7 v m):=by omega
   generalize QB:G7 v m=cv at *;obtain⟨n1,y1,yB⟩:=Dp v;obtain⟨n2,y2,Fx⟩:=Dp m;rw[yB,Fx]at LJ;rw[yB]at Av;have Et:=vR yB;rw[Fx];have YH:=vR Fx;clear yB Fx hm hv QB;go_wp2_with fail;refine LJ.out.mono ?_;rintro e w' ⟨rfl,rfl⟩;by_cases zM:0<cv
   ·have hd:decide (0<cv)=true:=by simpa using zM
    exact ZZ0
   ·have hd:decide (0<cv)=false:=by simpa using zM
    exact ZZ1
  ·obtain rfl:k=vs.length:=by omega
   exact kI
end
section
open Go.RowKit
open Go.Shelf
attribute [local go_sem] Oper.semAt_some
structure ZaQ (W:World) (b:Nat) (px rv tv:Value) (bg:xk):Prop where
 obj:W.heap[b]? =some (.cells #[px,rv,tv] 281)
 rows:FN W rv bg.rows
 times:YU W tv bg.times
 Rn:bg.times.length=bg.rows.length
theorem ZaQ.below{b}{px}(h:ZaQ W b px rv tv bg)(hB:vV W W'):ZaQ W' b px rv tv bg:=
 ⟨xq hB h.obj,h.rows.below hB,h.times.below hB,h.Rn⟩
def ZDS(l Bx b)(px rv tv)(bg)(W0 W)(hF:ZaQ W0 b px rv tv bg)(hm:bg.rows.length<=90000)(J:Nat->World->Prop)(Jp:List PanicEntry->World->Prop)(Je:∀k A n,J k A->J k (A.drewN n))(Xa:∀k A,J k A->A.cell? ⟨Bx,0,none⟩=some (vU b)/\vV W0 A)(hY:∀k W1 Ih (h:k<bg.rows.length) (h':k<bg.times.length),J k W1->xD W0 Ih bg.rows[k]->YieldAt Fence.wide 2 prog l #[Ih,.int .i64 (bg.times[k]:Nat)] W1 λe W'=>
   (e= .returned (.bool true)/\J (k+1) W')\/(∃ch,e= .panicked ch/\Jp ch W'))(LU:J 0 W):
  CallsIn Fence.wide 3 prog 117 #[.func (.yield l) #[] #[],.pointer (some ⟨Bx,0,none⟩)] W λe W'=>
   (∃v,e= .returned v/\J bg.rows.length W')\/(∃ch,e= .panicked ch/\Jp ch W'):=by
 refine callsIn_of_wp func117 rfl trivial ?_ rfl;simp only[ntmps117,qf,List.length_cons,List.length_nil,Nat.reduceAdd,Nat.reduceSub,qg,Array.replicate_zero,qh,qj,List.nil_append,List.cons_append];have TS:=vR hY;have HJd:=vR Je;have HJb:=vR Xa;obtain⟨Ch,ZwZ⟩:=Xa 0 W LU;have IA:=hF.below ZwZ;have HF0:=vR hF;have HS:=vR LU;clear hY Je Xa LU;unfold vU at Ch;have yV:=zS IA.obj;obtain⟨ra,rc,rfl,q1,q2,q3⟩:=IA.rows;have HF:=vR IA;clear IA q3 hF ZwZ;gi_wp2;gi_loopw [10] (λi wr=>∃k:Nat,k<=bg.rows.length/\i= .int .i64 (k:Nat)/\J k wr) (λi _=>bg.rows.length-(intOf i).toNat);case atStart=>exact⟨0,Z,rfl,HS.out⟩
 case round=>
  clear Ch yV;obtain⟨k,hk,rfl,hj⟩:=hrel;by_cases hlt:k<bg.rows.length
  ·obtain⟨Ch,BQ⟩:=HJb.out k wr hj;have hf:=HF0.out.below BQ;unfold vU at Ch;have Aa:=KG hf.obj;have zW:=hf.Rn;have Zjh:k<bg.times.length:=by omega
   obtain⟨ra',rc',ee,_,_,hx⟩:=HF0.out.rows;cases ee;obtain⟨g,o,cu,Ih,rfl,hg,Zv5,hvr⟩:=hx k hlt;have Bl:=Ga Zv5 BQ;clear Zv5;obtain⟨ta,tc,rfl,p1,p2,p3⟩:=hf.times;obtain⟨gt,rfl,Xm⟩:=p3 k Zjh;have ZMf:=hvr;obtain⟨qa,qc,rfl,_⟩:=ZMf;have HVR:=vR hvr;have HJ:=vR hj;clear hx p3 hf hg hvr hj BQ;unfold maxLen at *;obtain⟨fn,tmps,assign,body,hy,hR⟩:=TS.out k wr _ hlt Zjh HJ.out HVR.out;have HR:=vR hR;clear hR;gi_wp2;refine vk HR.out ?_;rintro e W3 (⟨rfl,He⟩|⟨ch,rfl,hp⟩)
   ·have HJ3:=vR He;clear He hy;gi_wp2;refine⟨⟨k+1,Z,?_,HJ3.out⟩,?_⟩
    ·exact congrArg (Value.int .i64) Z
    ·simp[intOf];omega
   ·have HP:=vR hp;clear hp;gi_wp2;exact⟨rfl,.inr ⟨ch,rfl,HP.out⟩⟩
  ·gi_wp2;go_end0;obtain rfl:k=bg.rows.length:=by omega
   exact .inl ⟨_,rfl,hj⟩
end
section
open Go.RowKit
def ZhI(W)(b):Calls prog 75 #[vU b] W λe W'=>∃Bx,e= .returned (.func (.func 117) #[] #[.pointer (some ⟨Bx,0,none⟩)])/\vV W W'/\W'.heap[Bx]? =some (.cells #[vU b] 69)/\W.heap.size<=Bx:=by
 unfold vU;go_enter func75,ntmps75;exact kH
def ZkH{Y5:Func}{a:Act}{w}{g:Operand}{ps:Array Tmp}{assign body}(Bx:Nat)(b)(px rv tv)(bg)(J:Nat->World->Prop)(Jp)(Bo:prog.funcs[bf]? =some Y5)(hg:a.eval g= .func (.func 117) #[] #[.pointer (some ⟨Bx,0,none⟩)])(II:ps.size=2)(W0)(hF:ZaQ W0 b px rv tv bg)(hm:bg.rows.length<=90000)(Je:∀k A n,J k A->J k (A.drewN n))(Xa:∀k A,J k A->A.cell? ⟨Bx,0,none⟩=some (vU b)/\vV W0 A)(Ny:J 0 (Dz w bf a.tmps ps assign body))(Zad:∀k A rb A2 Ih (h:k<bg.rows.length) (h':k<bg.times.length),J k A->xD W0 Ih bg.rows[k]->(∃r0,A.heap[w.heap.size+1]? =some (.loop r0))->FM (w.heap.size+1) A A2->A2.heap[w.heap.size+1]? =some (.loop rb)->A2.heap[w.heap.size]? =some (.deferred (some []))->
   assign.wpIn (Fence.wide.inRound (w.heap.size+1)) 2 prog (Exit.then (λa₁ w₁=>w₁=A/\body.wpIn (Fence.wide.inRound (w.heap.size+1)) 2 prog
    (Zem (w.heap.size+1) w.heap.size rb (λA'=>J (k+1) A') Jp) a₁ A2) (λ_ _ _=>False))
    {tmps:=(ps.zip #[Ih,.int .i64 (bg.times[k]:Nat)]).foldl (λtmps (t,a)=>tmps.setIfInBounds t a) a.tmps,defers:= []} A)(Hq:∀A A2,J bg.rows.length A->(∃r0,A.heap[w.heap.size+1]? =some (.loop r0))->FM (w.heap.size+1) A A2->A2.heap[w.heap.size]? =some (.deferred (some []))->
   Q .normal {a with defers:={target:=.collected w.heap.size,args:=#[]}::a.defers} A2)(Z8:∀ch A,Jp ch A->Q (.panic ch) {a with defers:={target:=.collected w.heap.size,args:=#[]}::a.defers} A):
  Js bf prog (Code.rangeFunc g ps assign body) Q a w:=by
 refine ZgX (gf:=117) hg (λ_ _=>rfl) ?_;refine Calls.mono ((qK (n:=3)).1 (ZDS (w.heap.size+1) Bx b px rv tv bg W0 (Dz w bf a.tmps ps assign body) hF hm
  (λk A=>J k A/\A.heap[w.heap.size+1]? =some (.loop (PD bf a.tmps ps assign body w.heap.size .ready))/\A.heap[w.heap.size]? =some (.deferred (some []))) Jp ?_ ?_ ?_ ?_)) ?_
 ·exact mQ
 ·rintro k A ⟨h1,_,_⟩;exact Xa k A h1
 ·rintro k A Ih hk BP ⟨hj,hL,hD⟩ hv;have hy:=Zg1 (P:=prog) (n:=2) (l:=w.heap.size+1) (D:=w.heap.size) (args:=#[Ih,.int .i64 (bg.times[k]:Nat)]) hL hD Z (by show 2=ps.size;omega) rfl rfl Bo (λrb A2 h1 h2 h3=>Zad k A rb A2 Ih hk BP hj hv ⟨_,hL⟩ h1 h2 h3);exact vo
 ·exact⟨Ny,Zgw ..,Zgv ..⟩
 ·rintro e W' (⟨v,rfl,hj,hL,hD⟩|⟨ch,rfl,hp⟩)
  ·exact⟨hL,Hq W' _ hj ⟨_,hL⟩ (FM.put ..) ((pF Z).trans hD)⟩
  ·exact Z8 ch W' hp
end
section
open Go.RowKit
def ZrV(fv:Value)(h:Nat->Nat->Nat):Prop:=
 ∃k,fv= .func (.func k) #[] #[]/\(∀(args:Array Value) (w:World),(callFunc k args).run prog w= .ok (.enter k args) w)/\∀(w:World) (l r:Nat),l<=1000000000->r<=1000000000->Calls prog k #[.int .i64 l,.int .i64 r] w λe w'=>e= .returned (.int .i64 (h l r:Nat))/\w'=w
def sUA:vS:= [117,110,105,111,110,32,97,108,108]
def sIA:vS:= [105,110,116,101,114,115,101,99,116,32,97,108,108]
def sEA:vS:= [101,120,99,101,112,116,32,97,108,108]
def sU:vS:= [117,110,105,111,110]
def sI:vS:= [105,110,116,101,114,115,101,99,116]
def sE:vS:= [101,120,99,101,112,116]
def ZZ3{p:Prop}(h:p:=by
 have HE:=vR e;clear e;go_wp2_with fail;all_goals
  go_ret;refine⟨congrArg (λx=>Ending.returned (Value.int .i64 x)) ?_,rfl⟩;rw[HE.out];omega):p:=h
def ZLh(w)(l r:Nat)(hl:l<=1000000000)(hr:r<=1000000000):Calls prog 177 #[.int .i64 l,.int .i64 r] w λe w'=>e= .returned (.int .i64 (EJ sUA l r:Nat))/\w'=w:=by
 go_enter func177,ntmps177;have e:EJ sUA l r=l+r:=by simp[EJ,sUA]
 exact ZZ3
def ZLi(w)(l r:Nat)(hl:l<=1000000000)(hr:r<=1000000000):Calls prog 178 #[.int .i64 l,.int .i64 r] w λe w'=>e= .returned (.int .i64 (EJ sIA l r:Nat))/\w'=w:=by
 go_enter func178,ntmps178;have e:EJ sIA l r=min l r:=by simp[EJ,sIA]
 exact ZZ3
def ZLj(w)(l r:Nat)(hl:l<=1000000000)(hr:r<=1000000000):Calls prog 179 #[.int .i64 l,.int .i64 r] w λe w'=>e= .returned (.int .i64 (EJ sEA l r:Nat))/\w'=w:=by
 go_enter func179,ntmps179;have e:EJ sEA l r=l-r:=by simp[EJ,sEA]
 exact ZZ3
def ZLk(w)(l r:Nat)(hl:l<=1000000000)(hr:r<=1000000000):Calls prog 180 #[.int .i64 l,.int .i64 r] w λe w'=>e= .returned (.int .i64 (EJ sU l r:Nat))/\w'=w:=by
 go_enter func180,ntmps180;have e:EJ sU l r=min (l+r) 1:=by simp[EJ,sU]
 exact ZZ3
def ZLl(w)(l r:Nat)(hl:l<=1000000000)(hr:r<=1000000000):Calls prog 181 #[.int .i64 l,.int .i64 r] w λe w'=>e= .returned (.int .i64 (EJ sI l r:Nat))/\w'=w:=by
 go_enter func181,ntmps181;have e:EJ sI l r=min (min l r) 1:=by simp[EJ,sI]
 exact ZZ3
def ZLm(w)(l r:Nat)(hl:l<=1000000000)(hr:r<=1000000000):Calls prog 182 #[.int .i64 l,.int .i64 r] w λe w'=>e= .returned (.int .i64 (EJ sE l r:Nat))/\w'=w:=by
 go_enter func182,ntmps182;have e:EJ sE l r=min l 1-r:=by simp[EJ,sE]
 exact ZZ3
def ZJJ(w)(s)(hs:s=sUA\/s=sIA\/s=sEA\/s=sU\/s=sI\/s=sE):Calls prog 123 #[.string ⟨s.toArray⟩] w λe w'=>∃fv,e= .returned fv/\ZrV fv (EJ s)/\w'=w:=by
 rcases hs with rfl|rfl|rfl|rfl|rfl|rfl;all_goals
  go_enter func123,ntmps123;simp only[sUA,sIA,sEA,sU,sI,sE];go_wp2_with fail;go_ret;first
   |exact⟨_,rfl,⟨_,rfl,λ_ _=>rfl,ZLh⟩,rfl⟩
   |exact⟨_,rfl,⟨_,rfl,λ_ _=>rfl,ZLi⟩,rfl⟩
   |exact⟨_,rfl,⟨_,rfl,λ_ _=>rfl,ZLj⟩,rfl⟩
   |exact⟨_,rfl,⟨_,rfl,λ_ _=>rfl,ZLk⟩,rfl⟩
   |exact⟨_,rfl,⟨_,rfl,λ_ _=>rfl,ZLl⟩,rfl⟩
   |exact⟨_,rfl,⟨_,rfl,λ_ _=>rfl,ZLm⟩,rfl⟩
end
section
open Go.RowKit
open Go.Shelf
attribute [local go_sem] Oper.semAt_some
def Jt.move{b x bs}{vs}(h:Jt W0 A b x bv bs rv tv bg vs)(hB:Below W0.heap.size A A')(hk:∀(g:Nat) ob,(∀r,ob≠Obj.loop r)->(∀d,ob≠Obj.deferred d)->A.heap[g]? =some ob->A'.heap[g]? =some ob):Jt W0 A' b x bv bs rv tv bg vs:=by
 obtain⟨ev,cv,h2,_⟩:=h.ix.wR;obtain⟨es,cs,h3,_⟩:=h.ix.keys;have own:∀{e sz n:Nat} {v:Value} {xs:List Value},A.ownsRow W0.heap.size e sz v n xs->A'.ownsRow W0.heap.size e sz v n xs:=λho=>by
  refine⟨ho.1,?_⟩;rcases ho.2 with h0|⟨g,cap,cur,e,hg,hh,r⟩
  ·exact jg
  ·exact .inr ⟨g,cap,cur,e,hg,hk _ _ (λ_ e=>ai) (λ_ e=>ai) hh,r⟩
 exact⟨h.low.trans hB,hk _ _ (λ_ e=>ai) (λ_ e=>ai) h.obj,h.ix.same ((hk _ _ (λ_ e=>ai) (λ_ e=>ai) h.ix.obj).trans h.ix.obj.symm) ((hk _ _ (λ_ e=>ai) (λ_ e=>ai) h2).trans h2.symm) ((hk _ _ (λ_ e=>ai) (λ_ e=>ai) h3).trans h3.symm),h.ne,own h.rows,h.wR,own h.times,h.Rn,h.Ve,h.gb,h.gx,h.gv,h.gs⟩
structure Jw (w0:World) (BO Bx b x bv bs pb:Nat) (bg:xk) (A:World):Prop where
 Bi:∃rv tv vs,Jt w0 A b x bv bs rv tv bg vs
 o:A.heap[BO]? =some (.cells #[vU b] 69)
 c:A.heap[Bx]? =some (.cells #[vU pb] 69)
theorem Jw.move{b x bs}(h:Jw w0 BO Bx b x bv bs pb bg A)(hB:Below w0.heap.size A A')(hk:∀(g:Nat) ob,(∀r,ob≠Obj.loop r)->(∀d,ob≠Obj.deferred d)->A.heap[g]? =some ob->A'.heap[g]? =some ob):Jw w0 BO Bx b x bv bs pb bg A':=by
 obtain⟨rv,tv,vs,hb⟩:=h.Bi;exact⟨⟨rv,tv,vs,hb.move hB hk⟩,hk _ _ (λ_ e=>ai) (λ_ e=>ai) h.o,hk _ _ (λ_ e=>ai) (λ_ e=>ai) h.c⟩
theorem Jw.low{b x bs}(h:Jw w0 BO Bx b x bv bs pb bg A):vV w0 A:=by
 obtain⟨rv,tv,vs,hb⟩:=h.Bi;exact hb.low
def Jw.off{b x bs l}{r:Loop}(h:Jw w0 BO Bx b x bv bs pb bg A)(hO:FM l A A')(hl:w0.heap.size<=l)(hL:A.heap[l]? =some (.loop r)):Jw w0 BO Bx b x bv bs pb bg A':=
 h.move ⟨hO.os,hO.tape,hO.output,qp hO.size.symm,λg hg=>hO.block g Z⟩ (λg ob hn _ he=>(hO.block g (λe=>iA)).trans he)
def Jw.below{b x bs}(h:Jw w0 BO Bx b x bv bs pb bg A)(hB:vV A A'):Jw w0 BO Bx b x bv bs pb bg A':=
 h.move (hB.mono h.low.size) (λg ob _ _ he=>xq hB he)
def ZpQ{h:Array Obj}{o:Obj}{b:Nat}(hb:b<h.size):(h.push o)[b]? =h[b]? :=by rw[tu];simp[Nat.ne_of_lt hb]
def ZpP{h:Array Obj}{o:Obj}{b:Nat}(hb:b=h.size):(h.push o)[b]? =some o:=by subst hb;simp
def ZsW{b x bs}{vs}(hb:Jt w0 A b x bv bs rv tv bg vs)(hk:∀g ob,Qc ob->g≠bv->g≠bs->A.heap[g]? =some ob->A'.heap[g]? =some ob):∀(g:Nat) ob,Qc ob->(∀es c,ob≠Obj.map es c)->A.heap[g]? =some ob->A'.heap[g]? =some ob:=λg ob hs hm he=>
 hk g ob hs (λe=>by subst e;obtain⟨es,c,h,_⟩:=hb.ix.wR;rw[h]at he;cases he;exact hm _ _ rfl) (λe=>by subst e;obtain⟨es,c,h,_⟩:=hb.ix.keys;rw[h]at he;cases he;exact hm _ _ rfl) he
def Zkt(cu):Qc (.cells cu 69):=λ_ _ _ e=>by cases e;exact⟨O,O,O⟩
def ZAq(r):Qc (.loop r):=λ_ _ _ e=>ai
def Zqs(d):Qc (.deferred d):=λ_ _ _ e=>ai
def ZOl{P:Program}{R:Ending->World->Prop}{D E:Nat}{w:World}{v:Value}(hD:w.heap[D]? =some (.deferred (some [])))(hE:(w.putObj D (.deferred none)).heap[E]? =some (.deferred (some [])))(xz:∀w',(results fn tmps).run P w'= .ok v w')(hR:R (.returned v) ((w.putObj D (.deferred none)).putObj E (.deferred none))):
  bodyPostM Fence.wide 0 P fn R .ret {tmps:=tmps,defers:= [{target:=.collected D,args:=#[]},{target:=.collected E,args:=#[]}]} w:=by
 show LeavesInM Fence.wide 0 P fn tmps R [{target:=.collected D,args:=#[]},{target:=.collected E,args:=#[]}] .returning w;unfold LeavesInM;refine⟨ae,.inl ⟨D,_,rfl,run_takeDeferred hD,?_⟩⟩;unfold LeavesInM;refine⟨ae,.inl ⟨E,_,rfl,run_takeDeferred hE,?_⟩⟩;unfold LeavesInM LeavesIn;exact⟨v,xz _,hR⟩
def ZjU{a w}(h:Below B a w)(n):Below B a (w.drewN n):=h.trans ⟨rfl,rfl,rfl,ae,λk _=>ae⟩
def Sm(h:Array Obj)(o0 o1 o2):(((h.push o0).push o1).push o2)[h.size]? =some o0/\(((h.push o0).push o1).push o2)[h.size+1]? =some o1/\(((h.push o0).push o1).push o2)[h.size+2]? =some o2:=by
 refine⟨?_,?_,?_⟩
 ·rw[ZpQ aC,ZpQ aC,ZpP rfl]
 ·rw[ZpQ aC,ZpP aM]
 ·rw[ZpP aM]
def Ql(h:Nat->Nat->Nat)(l r:xk)(k:Nat):xk:=((l.rows.zip l.times).take k).foldl (λb p=>b.add p.1 (h p.2 (r.count p.1))) {}
def ZH8(h)(l r)(k)(hk:k<l.rows.length)(BP:k<l.times.length):Ql h l r (k+1)=(Ql h l r k).add l.rows[k] (h l.times[k] (r.count l.rows[k])):=by
 unfold Ql;have hz:k<(l.rows.zip l.times).length:=by simp;omega
 rw[o8 hz,qN];simp
def MB(h:Nat->Nat->Nat)(l r:xk)(k:Nat):xk:=((r.rows.zip r.times).take k).foldl (λb p=>if l.count p.1=0 then b.add p.1 (h 0 p.2)else b) (Ql h l r l.rows.length)
def Zuy(h)(l r)(k)(hk:k<r.rows.length)(BP:k<r.times.length):MB h l r (k+1)=if l.count r.rows[k]=0 then(MB h l r k).add r.rows[k] (h 0 r.times[k])else MB h l r k:=by
 unfold MB;have hz:k<(r.rows.zip r.times).length:=by simp;omega
 rw[o8 hz,qN];simp
structure ZdW (h:Nat->Nat->Nat) (l r:xk):Prop where
 l1:l.rows.length<=90000
 r1:r.rows.length<=90000
 lv:l.ix.wR.length<=90000
 rv:r.ix.wR.length<=90000
 lr:∀row∈l.rows,row.length<=1000
 rr:∀row∈r.rows,row.length<=1000
 lt:∀t∈l.times,t<=1000000000
 rt:∀t∈r.times,t<=1000000000
 rc:∀row,r.count row<=1000000000
 a1:∀k (hk:k<l.rows.length) (BP:k<l.times.length),VO (Ql h l r k) l.rows[k] (h l.times[k] (r.count l.rows[k]))
 a2:∀k (hk:k<r.rows.length) (BP:k<r.times.length),l.count r.rows[k]=0->VO (MB h l r k) r.rows[k] (h 0 r.times[k])
def CV.fix{b}(h:CV W b bg):∃px rv tv,ZaQ W b px rv tv bg:=by
 obtain⟨⟨x,bv,bs,rv,tv,h1,h2,h3,h4⟩,h5⟩:=h;exact⟨_,rv,tv,h1,h3,h4,h5.1⟩
def ZEy(W)(lb rb)(l r)(fv)(h)(hl:CV W lb l)(hr:CV W rb r)(hf:ZrV fv h)(ok:ZdW h l r):
  Calls prog 122 #[vU lb,vU rb,fv] W λe W'=>∃b,e= .returned (vU b)/\Below W.heap.size W W'/\CV W' b (MB h l r r.rows.length):=by
 obtain⟨kf,rfl,JE,ZwE⟩:=hf;have BD:∀(fn:Fn) (first cap:Array Value) (w:World),(Instr.makeFunc fn first cap).run prog w= .ok (.func fn first cap) w:=λ_ _ _ _=>rfl;unfold vU;refine WE func122 rfl ?_;simp only[ntmps122,qf,List.length_cons,List.length_nil,Nat.reduceAdd,Nat.reduceSub,qg,Array.replicate_zero,qh,qj,List.nil_append,List.cons_append];refine Ag (AJ ?_);go_wp2;obtain⟨w0,Bd⟩:∃w0,(((W.alloc (Obj.cells #[Value.pointer (some ⟨lb,0,none⟩)] 69)).alloc (Obj.cells #[Value.pointer (some ⟨rb,0,none⟩)] 69)).alloc (Obj.cells #[Value.func (Fn.func kf) #[] #[]] 27))=w0:=⟨_,rfl⟩;rw[Bd];have JK:w0.heap.size=W.heap.size+3:=by rw[<-Bd];simp
 have x8:Below W.heap.size W w0:=by
  exact nG
 have k0:w0.heap[W.heap.size]? =some (.cells #[vU lb] 69):=by rw[<-Bd];exact(Sm W.heap _ _ _).1
 have k1:w0.heap[W.heap.size+1]? =some (.cells #[vU rb] 69):=by rw[<-Bd];exact(Sm W.heap _ _ _).2.1
 have k2:w0.heap[W.heap.size+2]? =some (.cells #[Value.func (Fn.func kf) #[] #[]] 27):=by rw[<-Bd];exact(Sm W.heap _ _ _).2.2
 clear Bd;have HN:=vR (Zeg w0 (.slice none 0 0) [] ⟨none,0,rfl,nV _,aj,λi hi=>dD⟩ ⟨ae,λk hk=>by simp at hk⟩);unfold vU at HN;refine Ag (AJ ?_);go_wp2_with fail;refine HN.out.mono ?_;rintro e w1 ⟨b,x,bv,bs,rv,tv,vs,rfl,yz⟩;have VW:=vR yz;have NQ:=yz.low;clear yz HN;go_wp2_with fail;obtain⟨w2,DR⟩:∃w2,w1.alloc (Obj.cells #[Value.pointer (some ⟨b,0,none⟩)] 69)=w2:=⟨_,rfl⟩;rw[DR];have ZeH:Below w1.heap.size w1 w2:=by rw[<-DR];exact(nW _ w1).alloc (nV _) _
 have Ay:w2.heap.size=w1.heap.size+1:=by rw[<-DR];simp
 have NA:w2.heap[w1.heap.size]? =some (.cells #[vU b] 69):=by rw[<-DR];exact oK _ _
 clear DR;have Ch:w2.cell? ⟨W.heap.size,0,none⟩=some (.pointer (some ⟨lb,0,none⟩)):=by
  have e1:=NQ.block W.heap.size Z;have e2:=ZeH.block W.heap.size (by have:=NQ.size;omega);simp[World.cell?,e2,e1,k0,vU]
 have HA:=vR (ZhI w2 lb);unfold vU at HA;refine Ag (Ag (AJ ?_));go_wp2_with fail;refine HA.out.mono ?_;rintro e w3 ⟨Bx,rfl,wH,NH,Zo6⟩;go_wp2_with fail;refine VM ?_;have hP3:Jw w0 w1.heap.size Bx b x bv bs lb {} w3:=⟨⟨rv,tv,vs,(VW.out.wJ ZeH).wJ wH⟩,(wH.block _ Z).trans NA,NH⟩;obtain⟨pxl,rvl,tvl,Jd⟩:=(hl.below x8).fix;have C8:w0.heap.size<=w3.heap.size:=by have:=NQ.size;have:=wH.size;omega
 refine ZkH Bx lb pxl rvl tvl l (λk A=>Jw w0 w1.heap.size Bx b x bv bs lb (Ql h l r k) A) (λ_ _=>False) func122 rfl rfl w0 Jd ok.l1 ?_ ?_ ?_ ?_ ?_ (λ_ _ h=>h.elim)
 ·exact lH
 ·intro k A hp;exact⟨eB,hp.low⟩
 ·exact jr
 ·rintro k A rbk A2 Ih hk BP hp hv ⟨r0,Gd⟩ xK hL hD;have zQ:w0.heap.size<=w3.heap.size+1:=by omega
  have yY:=hp.off xK zQ Gd;have HP:=vR yY;have LQ:=ok.lr _ (oC hk);have htm:=ok.lt _ (oC BP);obtain⟨qa,qc,rfl,_⟩:=id hv;have HV:=vR hv;have ZX:=yY.low;have q0:A2.cell? ⟨w1.heap.size,0,none⟩=some (.pointer (some ⟨b,0,none⟩)):=fT
  have q1:A2.cell? ⟨W.heap.size+1+1,0,none⟩=some (.func (.func kf) #[] #[]):=by
   have e1:=ZX.block (W.heap.size+1+1) Z;simp[World.cell?,e1,k2]
  have q2:A2.cell? ⟨W.heap.size+1,0,none⟩=some (.pointer (some ⟨rb,0,none⟩)):=by
   have e1:=ZX.block (W.heap.size+1) Z;simp[World.cell?,e1,k1,vU]
  have HL:=vR hL;have HD:=vR hD;have HRB:=vR ((hr.below x8).below ZX);clear hv hp yY xK Gd hL hD;refine qA ?_;refine Ie rfl aA ?_;go_wp2;refine Ie rfl aA ?_;go_wp2;refine⟨trivial,?_⟩;refine qX ?_;refine XW (S:=λw'=>w'.cell? ⟨w1.heap.size,0,none⟩=some (.pointer (some ⟨b,0,none⟩))/\w'.cell? ⟨W.heap.size+1+1,0,none⟩=some (.func (.func kf) #[] #[])/\w'.cell? ⟨W.heap.size+1,0,none⟩=some (.pointer (some ⟨rb,0,none⟩))) af af aA ⟨by exact q0,by exact q1,by exact q2⟩ (λwL=>?_);refine tk 0 ?_;refine tk 1 ?_;refine tk 2 ?_;refine tk 3 ?_;refine tk 4 ?_;refine tk 5 ?_;refine og (rs:= [6]) af ae (nZ rfl (λK hK=>?_) oh);go_simp;have NJ:Below A2.heap.size A2 A2.drew:=⟨rfl,rfl,rfl,nV _,λ_ _=>rfl⟩;refine(ZsT A2.drew rb r _ l.rows[k] (HRB.out.below NJ) ((HV.out.J7 ZX).J7 NJ) LQ (by have:=ok.rv;omega) (by have:=ok.r1;omega)).mono ?_;rintro e w5 ⟨rfl,yl⟩;have ZbO:Below A2.heap.size A2 w5:=⟨yl.os,yl.tape,yl.output,yl.size,yl.block⟩;refine hK.out _ _ ⟨Ga q0 ZbO,Ga q1 ZbO,Ga q2 ZbO⟩ (λwL=>?_);clear hK K;refine og (rs:= [7]) af ae (nZ rfl (λK hK=>?_) oh);go_simp;refine(ZwE w5 l.times[k] (r.count l.rows[k]) htm (ok.rc _)).mono ?_;rintro e w6 ⟨rfl,rfl⟩;refine hK.out _ _ wL (λwL=>?_);clear hK K;refine og (rs:= [8]) af ae (nZ rfl (λK hK=>?_) oh);go_simp;have GJ:=HP.out.below ZbO;obtain⟨rv5,tv5,vs5,CJ⟩:=GJ.Bi;refine(Zl1 w0 w6 b x bv bs rv5 tv5 _ (Ql h l r k) vs5 l.rows[k] _ CJ HV.out (ok.a1 k hk BP)).mono ?_;rintro e w7 ⟨rfl,ZiV,Zol⟩;have CK:=ZsW CJ Zol;rw[<-ZH8 h l r k hk BP]at ZiV;have o7:=CK _ _ (Zkt _) (λ_ _ e=>ai) GJ.o;have hp7:Jw w0 w1.heap.size Bx b x bv bs lb (Ql h l r (k+1)) w7:=⟨ZiV,o7,CK _ _ (Zkt _) (λ_ _ e=>ai) GJ.c⟩;have Zp:=CK _ _ (ZAq _) (λ_ _ e=>ai) ((ZbO.block _ (oz.1 HL.out).1).trans HL.out);have hD7:=CK _ _ (Zqs _) (λ_ _ e=>ai) ((ZbO.block _ (oz.1 HD.out).1).trans HD.out);have Zjf:=hp7.low;refine hK.out _ _ ⟨by simp[World.cell?,o7,vU],?_,?_⟩ (λwL=>?_)
  ·have e1:=Zjf.block (W.heap.size+1+1) Z;simp[World.cell?,e1,k2]
  ·have e1:=Zjf.block (W.heap.size+1) Z;simp[World.cell?,e1,k1,vU]
  clear hK K;refine oP af ?_ _;exact⟨Zp,hD7,λA' hO=>hp7.off hO zQ Zp⟩
 ·rintro A A2 hp ⟨r0,Gd⟩ xK hD;have zQ:w0.heap.size<=w3.heap.size+1:=by omega
  have yY:=hp.off xK zQ Gd;have HP:=vR yY;have HD:=vR hD;have ZX:=yY.low;have q2:A2.cell? ⟨W.heap.size+1,0,none⟩=some (.pointer (some ⟨rb,0,none⟩)):=by
   have e1:=ZX.block (W.heap.size+1) Z;simp[World.cell?,e1,k1,vU]
  have HA:=vR (ZhI A2 rb);unfold vU at HA;clear hp yY xK Gd hD;refine Ag (Ag (AJ ?_));go_wp2_with fail;refine HA.out.mono ?_;rintro e w4 ⟨By,rfl,xw,hcy,ZYc⟩;go_wp2_with fail;refine VM ?_;have hD4:=(xw.block _ (oz.1 HD.out).1).trans HD.out;have Am:Jw w0 w1.heap.size By b x bv bs rb (MB h l r 0) w4:=by
   obtain⟨rvq,tvq,vsq,Xk⟩:=HP.out.Bi;exact⟨⟨rvq,tvq,vsq,Xk.wJ xw⟩,(xw.block _ (oz.1 HP.out.o).1).trans HP.out.o,hcy⟩
  obtain⟨pxr,rvr,tvr,Sv⟩:=(hr.below x8).fix;have hs4:w0.heap.size<=w4.heap.size:=by have:=ZX.size;have:=xw.size;omega
  have h34:=(oz.1 hD4).1;have hL0:=vR (hl.below x8);refine ZkH By rb pxr rvr tvr r (λk A=>Jw w0 w1.heap.size By b x bv bs rb (MB h l r k) A/\A.heap[w3.heap.size]? =some (.deferred (some []))) (λ_ _=>False) func122 rfl rfl w0 Sv ok.r1 ?_ ?_ ?_ ?_ ?_ (λ_ _ h=>h.elim)
  ·rintro k A n ⟨hp,hd⟩;exact⟨hp.below (ZjU (nW A.heap.size A) n),by rw[heap_drewN];exact hd⟩
  ·rintro k A ⟨hp,hd⟩;exact⟨eB,hp.low⟩
  ·have OV:=(((nW _ w4).alloc (nV _) (.deferred (some []))).alloc ae (.loop (PD 122 #[] #[] .skip .skip 0 .ready)));exact⟨Am.below (((nW _ w4).alloc (nV _) _).alloc ae _),(Rc h34).trans hD4⟩
  ·rintro k A rbk B2 Ih hk BP ⟨hp,hd⟩ hv ⟨r0,Gd⟩ xK hL hD;have zQ:w0.heap.size<=w4.heap.size+1:=by omega
   have IE:=hp.off xK zQ Gd;have HPb:=vR IE;have hdb:=(xK.block _ Z).trans hd;have Yq:=vR hdb;have LQ:=ok.rr _ (oC hk);have htm:=ok.rt _ (oC BP);obtain⟨qa,qc,rfl,_⟩:=id hv;have HV:=vR hv;have Zjg:=IE.low;have q0:B2.cell? ⟨w1.heap.size,0,none⟩=some (.pointer (some ⟨b,0,none⟩)):=by simp[World.cell?,IE.o,vU]
   have q1:B2.cell? ⟨W.heap.size+1+1,0,none⟩=some (.func (.func kf) #[] #[]):=by
    have e1:=Zjg.block (W.heap.size+1+1) Z;simp[World.cell?,e1,k2]
   have q3:B2.cell? ⟨W.heap.size,0,none⟩=some (.pointer (some ⟨lb,0,none⟩)):=by
    have e1:=Zjg.block W.heap.size Z;simp[World.cell?,e1,k0,vU]
   have HL:=vR hL;have FL:=vR hD;have HT:=vR (ZsT B2 lb l _ r.rows[k] (hL0.out.below Zjg) (hv.J7 Zjg) LQ (by have:=ok.lv;omega) (by have:=ok.l1;omega));unfold vU at HT;clear hv hp IE xK Gd hL hD hd hdb;refine qA ?_;refine Ie rfl aA ?_;go_wp2;refine Ie rfl aA ?_;go_wp2;refine⟨trivial,?_⟩;refine qX ?_;refine qA ?_;refine Ie rfl aA ?_;go_wp2_with fail;refine HT.out.mono ?_;rintro e B5 ⟨rfl,yl⟩;by_cases hc:l.count r.rows[k]=0
   ·have UK:(((l.count r.rows[k]:Nat):Int)==0)=true:=by simp[hc]
    have HC:=vR hc;have ER:=vR yl;clear hc yl;go_wp2_with fail;refine wpIn_cond_true rfl ?_;have GJ:=HPb.out.below ER.out;have ZXr:=GJ.low;have r0':=Ga q0 ER.out;have r1':=Ga q1 ER.out;refine XW (S:=λw'=>w'.cell? ⟨w1.heap.size,0,none⟩=some (.pointer (some ⟨b,0,none⟩))/\w'.cell? ⟨W.heap.size+1+1,0,none⟩=some (.func (.func kf) #[] #[])) af af aA ⟨by exact r0',by exact r1'⟩ (λwL=>?_);refine tk 0 ?_;refine tk 1 ?_;refine tk 2 ?_;refine tk 3 ?_;refine og (rs:= [4]) af ae (nZ rfl (λK hK=>?_) oh);go_simp;have hz:((0:Nat):Int)=0:=rfl;refine Calls.mono (by have:=ZwE B5.drew 0 r.times[k] Z htm;rw[hz]at this;exact this) ?_;rintro e w6 ⟨rfl,rfl⟩;refine hK.out _ _ wL (λwL=>?_);clear hK K;refine og (rs:= [5]) af ae (nZ rfl (λK hK=>?_) oh);go_simp;have NJ:Below B5.heap.size B5 B5.drew:=⟨rfl,rfl,rfl,nV _,λ_ _=>rfl⟩;have hp6:=GJ.below NJ;obtain⟨rv5,tv5,vs5,CJ⟩:=hp6.Bi;refine(Zl1 w0 B5.drew b x bv bs rv5 tv5 _ (MB h l r k) vs5 r.rows[k] _ CJ HV.out (ok.a2 k hk BP HC.out)).mono ?_;rintro e w7 ⟨rfl,ZiV,Zol⟩;have CK:=ZsW CJ Zol;have o7:=CK _ _ (Zkt _) (λ_ _ e=>ai) hp6.o;have hp7:Jw w0 w1.heap.size By b x bv bs rb (MB h l r (k+1)) w7:=by
     rw[Zuy h l r k hk BP,nY HC.out];exact⟨ZiV,o7,CK _ _ (Zkt _) (λ_ _ e=>ai) hp6.c⟩
    have Zp:=CK _ _ (ZAq _) (λ_ _ e=>ai) ((ER.out.block _ (oz.1 HL.out).1).trans HL.out);have hD7:=CK _ _ (Zqs _) (λ_ _ e=>ai) ((ER.out.block _ (oz.1 FL.out).1).trans FL.out);have hE7:=CK _ _ (Zqs _) (λ_ _ e=>ai) ((ER.out.block _ (oz.1 Yq.out).1).trans Yq.out);have Zjf:=hp7.low;refine hK.out _ _ ⟨by simp[World.cell?,o7,vU],?_⟩ (λwL=>?_)
    ·have e1:=Zjf.block (W.heap.size+1+1) Z;simp[World.cell?,e1,k2]
    clear hK K;refine oP af ?_ _;exact⟨Zp,hD7,λA' hO=>⟨hp7.off hO zQ Zp,(hO.block _ Z).trans hE7⟩⟩
   ·have UK:(((l.count r.rows[k]:Nat):Int)==0)=false:=by simp;omega
    have HC:=vR hc;have ER:=vR yl;clear hc yl;go_wp2_with fail;refine wpIn_cond_false rfl (wpIn_skip ?_);have GJ:=HPb.out.below ER.out;have Zn:=(ER.out.block _ (oz.1 HL.out).1).trans HL.out;have hD5:=(ER.out.block _ (oz.1 FL.out).1).trans FL.out;have hE5:=(ER.out.block _ (oz.1 Yq.out).1).trans Yq.out;refine⟨Zn,hD5,λA' hO=>⟨?_,(hO.block _ Z).trans hE5⟩⟩;rw[Zuy h l r k hk BP,nU HC.out];exact GJ.off hO zQ Zn
  ·rintro A B2 ⟨hp,hd⟩ ⟨r0,Gd⟩ xK hD;have zQ:w0.heap.size<=w4.heap.size+1:=by omega
   have IE:=hp.off xK zQ Gd;have q0:B2.cell? ⟨w1.heap.size,0,none⟩=some (.pointer (some ⟨b,0,none⟩)):=by simp[World.cell?,IE.o,vU]
   have hdb:=(xK.block _ Z).trans hd;have HPb:=vR IE;have Yq:=vR hdb;have FL:=vR hD;clear hp IE xK Gd hD hd hdb;refine Ag (AJ ?_);go_wp2_with fail;refine AJ ?_;go_wp2;refine ZOl (v:=vU b) FL.out ((pF Z).trans Yq.out) (λw'=>by simp[results,Tryz.results122,vU]) ?_;have hp:=HPb.out;have SG:Jw w0 w1.heap.size By b x bv bs rb (MB h l r r.rows.length) ((B2.putObj w4.heap.size (.deferred none)).putObj w3.heap.size (.deferred none)):=hp.move ⟨rfl,rfl,rfl,eZ,λg hg=>(pF Z).trans (pF Z)⟩ ?_
   ·obtain⟨rvz,tvz,vsz,O0⟩:=SG.Bi;exact⟨b,rfl,⟨O0.low.os.trans x8.os,O0.low.tape.trans x8.tape,O0.low.output.trans x8.output,om x8.size O0.low.size,λg hg=>(O0.low.block g Z).trans (x8.block g hg)⟩,O0.read⟩
   ·intro g ob _ hn he;exact(pF (λe=>by rw[e,Yq.out]at he;cases he;exact hn _ rfl)).trans ((pF (λe=>by rw[e,FL.out]at he;cases he;exact hn _ rfl)).trans he)
def ZIa(sign)(l r):MB (EJ sign) l r r.rows.length=xk.put sign l r:=by
 have e1:(l.rows.zip l.times).take l.rows.length=l.rows.zip l.times:=oO ah;have e2:(r.rows.zip r.times).take r.rows.length=r.rows.zip r.times:=oO ah;unfold MB Ql xk.put;rw[e1,e2]
end
section
open Go.RowKit
open Go.Shelf
attribute [local go_sem] Oper.semAt_some
def ZBe{P:Program}{c:Code}{n:Nat}{a:Act}{w:World}(h:c.wpIn Fence.wide n P Q a w):Js bf P c Q a w:=λb k cs JJ _=>h b k cs JJ trivial (Zdk _)
def PB.kt(h:PB B W0 W):KT [80] W0 W:=λg cu ty ht e=>h.bl g _ e (λ_ _ _ e2=>by
 cases e2;have h2:ty=80:=dB
 subst h2;exact⟨O,O⟩)
def KT.tr{ts}{a b c}(h:KT ts a b)(k:KT ts b c):KT ts a c:=λg cu ty ht e=>k g cu ty ht (h g cu ty ht e)
def AU.self{l}(h:AU B V W0 W pb sv cs l):AU B V W W pb sv cs l:=
 ⟨PB.refl _ _,h.obj,h.own,h.cnt,h.ge,h.vv.tr h.low.kt⟩
def AU.move{l}(h:AU B V A A pb sv cs l)(hk:∀g cu ty,A.heap[g]? =some (.cells cu ty)->B<=g\/ty=80->A'.heap[g]? =some (.cells cu ty)):AU B V A' A' pb sv cs l:=by
 refine⟨PB.refl _ _,hk _ _ _ h.obj (.inl h.ge),⟨h.own.1,?_⟩,h.cnt,h.ge,λg cu ty ht e=>hk g cu ty (h.vv g cu ty ht e) (.inr dB)⟩;rcases h.own.2 with h0|⟨g,cap,cur,e,hg,hh,r⟩
 ·exact jg
 ·exact .inr ⟨g,cap,cur,e,hg,hk _ _ _ hh (.inl hg),r⟩
structure TV (U W:World) (BO Bx pb b:Nat) (l:List (List wG×Nat)) (A:World):Prop where
 Zc5:∃sv cs,AU W.heap.size U A A pb sv cs l
 low:vV W A
 o:A.heap[BO]? =some (.cells #[vU pb] 189)
 c:A.heap[Bx]? =some (.cells #[vU b] 69)
def TV.off{b lp}{l}{r:Loop}(h:TV U W BO Bx pb b l A)(hO:FM lp A A')(hl:W.heap.size<=lp)(hL:A.heap[lp]? =some (.loop r)):TV U W BO Bx pb b l A':=by
 obtain⟨sv,cs,hp⟩:=h.Zc5;have hk:=fun(g:Nat) (cu:Array Value) (ty:TypeId) (e:A.heap[g]? =some (.cells cu ty))=>(hO.block g (λe2=>by rw[e2,hL]at e;cases e)).trans e;exact⟨⟨sv,cs,hp.move (λg cu ty e _=>hk g cu ty e)⟩,h.low.trans ⟨hO.os,hO.tape,hO.output,qp hO.size.symm,λg hg=>hO.block g Z⟩,hk _ _ _ h.o,hk _ _ _ h.c⟩
def TV.below{b}{l}(h:TV U W BO Bx pb b l A)(hB:vV A A'):TV U W BO Bx pb b l A':=by
 obtain⟨sv,cs,hp⟩:=h.Zc5;have hk:=fun(g:Nat) (ob:Obj) (e:A.heap[g]? =some ob)=>xq hB e;exact⟨⟨sv,cs,hp.move (λg cu ty e _=>hk g _ e)⟩,h.low.trans (hB.mono h.low.size),hk _ _ h.o,hk _ _ h.c⟩
def XO(bg:xk)(k:Nat):List (List wG×Nat):=((bg.rows.zip bg.times).take k).foldl Zfo []
def ZzG(bg)(k)(hk:k<bg.rows.length)(BP:k<bg.times.length):XO bg (k+1)=Zfo (XO bg k) (bg.rows[k],bg.times[k]):=by
 unfold XO;have hz:k<(bg.rows.zip bg.times).length:=by simp;omega
 rw[o8 hz,qN];simp
theorem Zwj:∀n l j,(QC n l j).length=l.length
 |0,l,j=>rfl
 |n+1,l,j=>by
  rw[QC];split
  ·rfl
  ·split
   ·split
    ·rw[Zwj n];simp
    ·rfl
   ·rfl
theorem ZpV(bg):∀k,k<=bg.rows.length->k<=bg.times.length->(XO bg k).length=k
 |0,_,_=>rfl
 |k+1,h,h'=>by
  rw[ZzG bg k h h',Zfo,Zwj,o6,ZpV bg k Z Z];rfl
def Zwi{l:List (List wG×Nat)}{x:List wG×Nat}{r:List (List wG×Nat)}(h:heapPop l=some (x,r)):r.length=l.length-1:=by
 unfold heapPop at h;simp only[pO,sO]at h;obtain⟨y,_,_,rfl⟩:=h;rw[uI,Zwh,Ou]
def ZQ5{pl:List (List wG×Nat)}{x:List wG×Nat}{r:List (List wG×Nat)}(h:heapPop pl=some (x,r))(wF:0<pl.length):XN (pl.length+1) pl=List.replicate x.2 x.1++XN (r.length+1) r:=by
 have hl:=Zwi h;have e:r.length+1=pl.length:=Z
 rw[e];cases pl with
 |nil=>simp at wF
 |cons a t=>
  rw[XN]
  ·simp only[h]
  ·exact jw
def ZGZ{α:Type}{T:List α}{k n:Nat}{x:α}{rest:List α}(h:T.drop k=List.replicate n x++rest)(hk:k<=T.length):k+n<=T.length/\T.drop (k+n)=rest/\∀j (hj:j<n) (h2:k+j<T.length),T[k+j]=x:=by
 have hl:T.length-k=n+rest.length:=by rw[<-qD,h];simp
 refine⟨Z,?_,λj hj h2=>?_⟩
 ·rw[<-uh,h,List.drop_left' ae]
 ·have e:T[k+j]? =some x:=by rw[<-uJ,h,List.getElem?_append_left (by simpa using hj)];simp[hj]
  rw[oW h2]at e;exact oN e
def Kn(n:Nat)(A A':World):Prop:=∀(g:Nat) (ob:Obj),A.heap[g]? =some ob->(n<=g\/∃cu fr,ob= .cells cu 80 fr)->A'.heap[g]? =some ob
def ZPH(l Bw b)(bg)(U W)(hU:vV U W)(hb:CV U b bg)(hm:bg.rows.length<=2000)(A9:∀r∈bg.rows,r.length<=1000)(hT:(zw bg).length<=1000000)(hw:W.heap[Bw]? =some (.cells #[vU b] 69))(J:Nat->World->Prop)(hJm:∀k A A',J k A->Below W.heap.size A A'->J k A')(hY:∀k W1 Ih (h:k<(zw bg).length),J k W1->xD U Ih (zw bg)[k]->YieldAt Fence.wide 2 prog l #[Ih] W1 λe W'=>e= .returned (.bool true)/\J (k+1) W'/\Kn W.heap.size W1 W')(LU:J 0 W):
  Calls prog 74 #[.func (.yield l) #[] #[],vU Bw] W λe W'=>(∃v,e= .returned v)/\J (zw bg).length W':=by
 unfold vU;refine WE func74 rfl ?_;simp only[ntmps74,qf,List.length_cons,List.length_nil,Nat.reduceAdd,Nat.reduceSub,qg,Array.replicate_zero,qh,qj,List.nil_append,List.cons_append];refine Ag (AJ ?_);go_wp2;obtain⟨w0,Bd⟩:∃w0,((W.alloc (Obj.cells #[] 197)).alloc (Obj.cells #[Value.slice (some ⟨W.heap.size,0,none⟩) 0 0] 191)).alloc (Obj.cells #[Value.pointer (some ⟨W.heap.size+1,0,none⟩)] 189)=w0:=⟨_,rfl⟩;rw[Bd];have JK:w0.heap.size=W.heap.size+3:=by rw[<-Bd];simp
 have x8:vV W w0:=by
  exact nG
 have k0:w0.heap[W.heap.size]? =some (.cells #[] 197):=by rw[<-Bd];exact(Sm W.heap _ _ _).1
 have k1:w0.heap[W.heap.size+1]? =some (.cells #[Value.slice (some ⟨W.heap.size,0,none⟩) 0 0] 191):=by rw[<-Bd];exact(Sm W.heap _ _ _).2.1
 have k2:w0.heap[W.heap.size+2]? =some (.cells #[vU (W.heap.size+1)] 189):=by rw[<-Bd];exact(Sm W.heap _ _ _).2.2
 clear Bd;have Xv:=(wo hw);have Ch:w0.cell? ⟨Bw,0,none⟩=some (.pointer (some ⟨b,0,none⟩)):=by simp[World.cell?,(x8.block Bw Xv).trans hw,vU]
 have HA:=vR (ZhI w0 b);unfold vU at HA;refine Ag (Ag (AJ ?_));go_wp2_with fail;refine HA.out.mono ?_;rintro e w3 ⟨Bx,rfl,wH,NH,Zo6⟩;go_wp2_with fail;refine VM ?_;have U0:AU W.heap.size U w0 w0 (W.heap.size+1) (.slice (some ⟨W.heap.size,0,none⟩) 0 0) [] []:=⟨PB.refl _ _,k1,⟨rfl,.inr ⟨W.heap.size,0,#[],rfl,nV _,k0,nV _,aj,rfl,rfl⟩⟩,⟨rfl,λi h=>ax⟩,Z,KT.vZ (hU.trans (x8.mono hU.size))⟩;have hP3:TV U W (W.heap.size+2) Bx (W.heap.size+1) b [] w3:=by
  have hk:=fun(g:Nat) (ob:Obj) (e:w0.heap[g]? =some ob)=>xq wH e;exact⟨⟨_,_,U0.move (λg cu ty e _=>hk g _ e)⟩,x8.trans (wH.mono x8.size),hk _ _ k2,NH⟩
 obtain⟨pxl,rvl,tvl,Jd⟩:=hb.fix;have C8:W.heap.size<=w3.heap.size:=by have:=wH.size;omega
 have zW:=Jd.Rn;refine ZkH Bx b pxl rvl tvl bg (λk A=>TV U W (W.heap.size+2) Bx (W.heap.size+1) b (XO bg k) A) (λ_ _=>False) func74 rfl rfl U Jd Z ?_ ?_ ?_ ?_ ?_ (λ_ _ h=>h.elim)
 ·exact lH
 ·intro k A hp;exact⟨eB,hU.trans (hp.low.mono hU.size)⟩
 ·exact jr
 ·rintro k A rbk A2 Ih hk BP hp hv ⟨r0,Gd⟩ xK hL hD;have zQ:W.heap.size<=w3.heap.size+1:=by omega
  have yY:=hp.off xK zQ Gd;have LQ:=A9 _ (oC hk);obtain⟨qa,qc,rfl,_⟩:=id hv;have q0:A2.cell? ⟨W.heap.size+1+1,0,none⟩=some (.pointer (some ⟨W.heap.size+1,0,none⟩)):=fT
  have HP:=vR yY;have HV:=vR hv;have HL:=vR hL;have HD:=vR hD;clear hv hp yY xK Gd hL hD;refine qA ?_;refine Ie rfl aA ?_;go_wp2;refine Ie rfl aA ?_;go_wp2;refine⟨trivial,?_⟩;refine qX ?_;obtain⟨sv,cs,MP⟩:=HP.out.Zc5;have Zc:=HP.out.low;have Br:=ZpV bg k Z Z;have HH:=vR (ZJL W.heap.size U A2 A2 (W.heap.size+1) sv cs (XO bg k) MP (.slice qa bg.rows[k].length qc) bg.times[k] bg.rows[k] HV.out LQ Z);rw[<-ZzG bg k hk BP]at HH;unfold vU WJ at HH;clear MP;refine Ie rfl aA ?_;go_wp2_with fail;refine HH.out.mono ?_;rintro e w5 ⟨rfl,sv5,cs5,GJ⟩;have YC:=vR GJ;clear GJ HH;go_wp2_with fail;have IE:=YC.out.low;have CK:=fun(g:Nat) (cu:Array Value) (ty:TypeId) (e:A2.heap[g]? =some (.cells cu ty)) (h1:ty≠191) (h2:ty≠197)=>IE.bl g _ e (λ_ _ _ e2=>by cases e2;exact⟨h1,h2⟩);have Zn:=IE.bl _ _ HL.out (λ_ _ _ e=>ai);have hD5:=IE.bl _ _ HD.out (λ_ _ _ e=>ai);have Iy:TV U W (W.heap.size+2) Bx (W.heap.size+1) b (XO bg (k+1)) w5:=⟨⟨sv5,cs5,YC.out.self⟩,Zc.trans IE.lo,CK _ _ _ HP.out.o O O,CK _ _ _ HP.out.c O O⟩;exact⟨Zn,hD5,λA' hO=>Iy.off hO zQ Zn⟩
 ·rintro A A2 hp ⟨r0,Gd⟩ xK hD;have zQ:W.heap.size<=w3.heap.size+1:=by omega
  have yY:=hp.off xK zQ Gd;have q0:A2.cell? ⟨W.heap.size+1+1,0,none⟩=some (.pointer (some ⟨W.heap.size+1,0,none⟩)):=fT
  have HP:=vR yY;have HD:=vR hD;clear hp yY xK Gd hD;have GA:=hJm 0 W A2 LU HP.out.low;have HT:=vR hT;have HY:=vR hY;have HJm:=vR hJm;have HS:Hid (∃(k:Nat) (pl:List (List wG×Nat)) (sv:Value) (cs:List (Value×Nat)),AU W.heap.size U A2 A2 (W.heap.size+1) sv cs pl/\A2.heap[W.heap.size+2]? =some (.cells #[vU (W.heap.size+1)] 189)/\A2.heap[w3.heap.size]? =some (.deferred (some []))/\J k A2/\k<=(zw bg).length/\XN (pl.length+1) pl=(zw bg).drop k/\pl.length<=2000):=by
   obtain⟨sv,cs,MP⟩:=HP.out.Zc5;have Br:=ZpV bg bg.rows.length Z Z;refine⟨0,_,sv,cs,MP,HP.out.o,HD.out,GA,pI _,?_,Z⟩;have e1:(bg.rows.zip bg.times).take bg.rows.length=bg.rows.zip bg.times:=oO ah;rw[Br,List.drop_zero,zw,XO,e1]
  clear hT hY hJm LU GA HP HD q0 hP3 U0 HA k0 k1 k2 NH Ch hw hb Jd;refine ZBe (n:=3) ?_;gi_wp2;gi_loopw [] (λwr=>∃(k:Nat) (pl:List (List wG×Nat)) (sv:Value) (cs:List (Value×Nat)),AU W.heap.size U wr wr (W.heap.size+1) sv cs pl/\wr.heap[W.heap.size+2]? =some (.cells #[vU (W.heap.size+1)] 189)/\wr.heap[w3.heap.size]? =some (.deferred (some []))/\J k wr/\k<=(zw bg).length/\XN (pl.length+1) pl=(zw bg).drop k/\pl.length<=2000) (λwr=>match wr.cell? ⟨W.heap.size+1,0,none⟩with|some (.slice _ n _)=>n|_=>0);case atStart=>exact HS.out
  case round=>
   clear HS;obtain⟨k,pl,sv,cs,MP,hO,hD,hj,hk,Zxg,Br⟩:=hrel;have q0:wr.cell? ⟨W.heap.size+1+1,0,none⟩=some (.pointer (some ⟨W.heap.size+1,0,none⟩)):=by simp[World.cell?,hO,vU]
   have q1:=MP.cell;obtain⟨sa,sc,CL⟩:=MP.slice;have ZCp:=vR (Zqy wr sa pl.length sc);subst CL;have HP:=vR (oG MP (oG hO (oG hD (oG hj (oG Zxg hk)))));clear MP hO hD hj Zxg hk;gi_wp2_with fail;refine⟨trivial,CallsIn.mono ((qK (n:=2)).2 ZCp.out) ?_⟩;rintro e w5 ⟨rfl,rfl⟩;by_cases ZfN:0<pl.length
   ·have ZQ:decide (((pl.length:Nat):Int)>0)=true:=by simp;omega
    have HH:=vR (ZJK W.heap.size U wr wr (W.heap.size+1) _ cs pl HP.out.1 ZfN Z);have hta:=ZAF;unfold vU WJ at *;gi_wp2_with fail;refine⟨trivial,CallsIn.mono ((qK (n:=2)).2 HH.out) ?_⟩;rintro e w5 ⟨v,x,r,sv5,cs5,hx,rfl,hv,GJ⟩;obtain⟨va,vc,rfl,_⟩:=id hv;have HV:=vR hv;have YC:=vR GJ;have HX:=vR hx;clear hv GJ hx HH;gi_wp2_with fail;obtain⟨yU,EH,NM⟩:=ZGZ ((HP.out.2.2.2.2.1).symm.trans (ZQ5 HX.out ZfN)) HP.out.2.2.2.2.2;have HK:=vR (oG yU (oG EH NM));have hx2:x.2<=1000000:=by have:=HT.out;omega
    have ZXJ:=Zwi HX.out;clear yU EH NM;have HS:Hid (∃(wb:World),wb=w5.alloc (.cells #[.slice va x.1.length vc,.int .i64 x.2] 197)/\wb.heap[w5.heap.size]? =some (.cells #[.slice va x.1.length vc,.int .i64 x.2] 197)/\(∃sv cs,AU W.heap.size U wb wb (W.heap.size+1) sv cs r)/\wb.heap[W.heap.size+2]? =some (.cells #[vU (W.heap.size+1)] 189)/\wb.heap[w3.heap.size]? =some (.deferred (some []))/\J k wb):=by
     have GJ:=YC.out;have zi:=GJ.low.bl;have zA:=(nW w5.heap.size w5).alloc (nV _) (.cells #[.slice va x.1.length vc,.int .i64 x.2] 197);have hk:∀(g:Nat) (ob:Obj),wr.heap[g]? =some ob->ZrX ob->(w5.alloc (.cells #[.slice va x.1.length vc,.int .i64 x.2] 197)).heap[g]? =some ob:=λg ob e hn=>by
      have h1:=zi g ob e hn;exact xq zA h1
     refine⟨_,rfl,xI _ _,⟨sv5,cs5,(GJ.below zA).self⟩,hk _ _ HP.out.2.1 (λ_ _ _ e=>by cases e;exact⟨O,O⟩),hk _ _ HP.out.2.2.1 (λ_ _ _ e=>ai),HJm.out k _ _ HP.out.2.2.2.1 (GJ.low.lo.trans (zA.mono ?_))⟩;have:=(wo GJ.obj);omega
    obtain⟨wb,hwb,HS⟩:=HS;rw[<-hwb];gi_loopw [31] (λi wq=>∃j:Nat,j<=x.2/\i= .int .i64 j/\wq.heap[w5.heap.size]? =some (.cells #[.slice va x.1.length vc,.int .i64 x.2] 197)/\(∃sv cs,AU W.heap.size U wq wq (W.heap.size+1) sv cs r)/\wq.heap[W.heap.size+2]? =some (.cells #[vU (W.heap.size+1)] 189)/\wq.heap[w3.heap.size]? =some (.deferred (some []))/\J (k+j) wq) (λi _=>x.2-(intOf i).toNat);case atStart=>exact⟨0,pI _,rfl,HS⟩
    case round=>
     clear HS hwb;obtain⟨j,hj,rfl,ht,MP,hO,hD,UQ⟩:=hrel;have t0:=xH ht;by_cases hlt:j<x.2
     ·have hkj:k+j<(zw bg).length:=by have:=HK.out.1;omega
      obtain⟨fn,tmps,assign,body,hy,hR⟩:=HY.out (k+j) wr _ hkj UQ (by rw[HK.out.2.2 j hlt hkj];exact HV.out);have HR:=vR hR;have HI:=vR (oG ht (oG MP (oG hO hD)));clear hR ht MP hO hD UQ;gi_wp2;refine vk HR.out ?_;rintro e W3 ⟨rfl,He,xP⟩;have BG:W.heap.size<=w5.heap.size:=by have:=YC.out.low.lo.size;have:=(wo HP.out.1.obj);omega
      have HI3:Hid (W3.heap[w5.heap.size]? =some (.cells #[.slice va x.1.length vc,.int .i64 x.2] 197)/\(∃sv cs,AU W.heap.size U W3 W3 (W.heap.size+1) sv cs r)/\W3.heap[W.heap.size+2]? =some (.cells #[vU (W.heap.size+1)] 189)/\W3.heap[w3.heap.size]? =some (.deferred (some []))/\J (k+j+1) W3):=by
       obtain⟨h1,⟨sv6,cs6,h2⟩,h3,h4⟩:=HI.out;refine⟨xP _ _ h1 (.inl BG),⟨sv6,cs6,h2.move (λg cu ty e hh=>xP _ _ e (hh.imp id λe=>⟨cu,(0,0),by subst e;rfl⟩))⟩,xP _ _ h3 (.inl Z),xP _ _ h4 (.inl C8),He⟩
      clear He xP hy;gi_wp2;refine⟨⟨j+1,Z,?_,HI3.out⟩,?_⟩
      ·exact congrArg (Value.int .i64) Z
      ·simp[intOf];omega
     ·obtain rfl:j=x.2:=by omega
      have HI:=vR (oG MP (oG hO (oG hD UQ)));clear ht MP hO hD UQ;gi_wp2;obtain⟨⟨sv6,cs6,h2⟩,h3,h4,h5⟩:=HI.out;refine⟨⟨k+x.2,r,sv6,cs6,h2,h3,h4,h5,HK.out.1,HK.out.2.1.symm,Z⟩,?_⟩;obtain⟨a6,c6,e6⟩:=h2.slice;rw[h2.cell,e6,q1];simp only;omega
   ·have Jg:pl.length=0:=by omega
    have ZQ:decide (((pl.length:Nat):Int)>0)=false:=by rw[Jg];rfl
    gi_wp2_with fail;obtain⟨h1,h2,h3,h4,h5,h6⟩:=HP.out;have hkT:k=(zw bg).length:=by
     have:=uk Jg;subst this;have e:=congrArg List.length h5;simp[XN]at e;omega
    refine Zaq h3 (v:=.tuple #[]) (by simp[results,Tryz.results74]) ⟨⟨_,rfl⟩,?_⟩;rw[<-hkT];exact HJm.out k _ _ h4 ⟨rfl,rfl,rfl,eZ,λg hg=>pF Z⟩
end
section
open Go.RowKit Go.Shelf Go.Conc
attribute [local go_sem] Oper.semAt_some
def Zga{P:Program}{o:Oper}{rest:List Oper}{a:Act}{w:World}{v:Value}(hg:o.guard=none)(h:(execOp a.eval o).run P w= .ok (.value v) w')(hq:wpList P ops Q rest (a.put o.dst v) w'):wpList P ops Q (o::rest) a w:=by
 unfold wpList;rw[nY dN];exact .inl (by unfold Oper.wp;rw[h];exact hq)
def Zj8{F:Fence}{n:Nat}{P:Program}{o:Oper}{i:Nat}{rest:List Nat}{a:Act}{w:World}{v:Value}(hF:∀f,F.fn f)(ho:ops[i]? =some o)(hg:o.guard=none)(hd:Vk o.op=true)(h:(execOp a.eval o).run P w= .ok (.value v) w)(hq:wpOpsIn F n P ops Q rest (a.put o.dst v) w):wpOpsIn F n P ops Q (i::rest) a w:=by
 unfold wpOpsIn;rw[ho];simp only;rw[nY dN];refine⟨λf _=>hF f,?_⟩;rw[Oper.semAt_eq _ _ _ (ZyT hd),h];exact hq
def Zmm(c:Nat)(w:World):Nat:=match w.heap[c]? with|some (.chan _ b _ _ _ _)=>b.size|_=>0
def ZtE{c s r:Nat}{w:World}(h:w.heap[c]? =some (.chan cap buf cl s r tm)):Zmm c w=buf.size:=by simp[Zmm,h]
def ZOm{P:Program}{R:Ending->World->Prop}{D:Nat}{w:World}{v:Value}(hD:w.heap[D]? =some (.deferred (some [])))(xz:(results fn tmps).run P (w.putObj D (.deferred none))= .ok v (w.putObj D (.deferred none)))(hR:R (.returned v) (w.putObj D (.deferred none))):bodyPostM Fence.wide 0 P fn R .ret {tmps:=tmps,defers:= [{target:=.collected D,args:=#[]}]} w:=Zaq hD xz hR
def Zt0(x)(l):(x::l).toArray.getD 0 undef=x/\(x::l).toArray.extract 1 (x::l).toArray.size=l.toArray:=by simp
structure ChL (W:World) (c B L D:Nat) (r:Loop) (T:List (List wG)) (k:Nat) (A:World):Prop where
 ch:∃buf:List Value,buf.length=k/\A.heap[c]? =some (.chan 2000 buf.toArray false k 0 false)/\∀i (h:i<buf.length) (h':i<T.length),xD W buf[i] T[i]
 bx:A.heap[B]? =some (.cells #[.chan (some c)] 131)
 lp:A.heap[L]? =some (.loop r)
 df:A.heap[D]? =some (.deferred (some []))
 lo:vV W A
def ChL.below{c L D n}{r}{T}{k}(h:ChL W c B L D r T k A)(hB:Below n A A')(hn:W.heap.size<=n)(h1:c<n)(h2:B<n)(h3:L<n)(h4:D<n):ChL W c B L D r T k A':=by
 obtain⟨buf,e1,e2,e3⟩:=h.ch;exact⟨⟨buf,e1,(hB.block c h1).trans e2,e3⟩,(hB.block B h2).trans h.bx,(hB.block L h3).trans h.lp,(hB.block D h4).trans h.df,h.lo.trans (hB.mono hn)⟩
def Zqj{w:World}{c s r:Nat}(h:c<w.heap.size):(w.setChan c cap buf cl s r tm).heap[c]? =some (.chan cap buf cl s r tm):=by
 simp[World.setChan,h]
def ZgC{w:World}{c s r g:Nat}(h:g≠c):(w.setChan c cap buf cl s r tm).heap[g]? =w.heap[g]? :=by
 simp[World.setChan,uK,p8 h]
def ZS7(W)(b)(bg)(hb:CV W b bg)(hm:bg.rows.length<=2000)(A9:∀r∈bg.rows,r.length<=1000)(hT:(zw bg).length<=2000):
  Calls prog 22 #[vU b,.slice none 0 0] W λe W'=>∃lv,e= .returned lv/\FN W' lv (zw bg)/\vV W W':=by
 have Zrs:=vR (λw=>ZS3 w);have hia:∀w,(Go.isAgg 131).run prog w= .ok false w:=λw=>af
 have hmc:∀w,(Instr.makeChan 131 (.int .i64 2000)).run prog w= .ok (.chan (some w.heap.size)) (w.alloc (.chan 2000 #[] false 0 0 false)):=λw=>af
 unfold vU;refine WE func22 rfl ?_;simp only[ntmps22,qf,List.length_cons,List.length_nil,Nat.reduceAdd,Nat.reduceSub,qg,Array.replicate_zero,qh,qj,List.nil_append,List.cons_append];refine Ag (AJ ?_);go_wp2_with fail;refine Ag (AJ ?_);go_wp2_with fail;refine(Zrs.out _).mono ?_;rintro e w1 ⟨rfl,rfl⟩;go_wp2_with fail;obtain⟨w2,DR⟩:∃w2,(w1.alloc (.chan 2000 #[] false 0 0 false)).alloc (.cells #[.chan (some w1.heap.size)] 131)=w2:=⟨_,rfl⟩;rw[DR];have Ay:w2.heap.size=w1.heap.size+2:=by rw[<-DR];simp
 have wK:vV w1 w2:=by rw[<-DR];exact((nW _ w1).alloc (nV _) _).alloc ae _
 have k0:w2.heap[w1.heap.size]? =some (.chan 2000 #[] false 0 0 false):=by rw[<-DR];exact(J6 w1 _ _).1
 have k1:w2.heap[w1.heap.size+1]? =some (.cells #[.chan (some w1.heap.size)] 131):=by rw[<-DR];exact(J6 w1 _ _).2
 clear DR Zrs hmc;have HA:=vR (ZS4 w2 b);unfold vU at HA;refine Ag (Ag (AJ ?_));go_wp2_with fail;refine HA.out.mono ?_;rintro e w3 ⟨Bx,rfl,wH,NH,Zo6⟩;go_wp2_with fail;refine VM ?_;clear HA;have C8:=wH.size;have Dx:=(wo NH);refine ZgX (gf:=74) rfl (λ_ _=>rfl) ?_;generalize hV':Dz _ _ _ _ _ _=V;have hV:=hV'.symm;clear hV';have hsV:V.heap.size=w3.heap.size+2:=by rw[hV];simp[Dz]
 have hBV:vV w3 V:=by rw[hV];exact((nW _ w3).alloc (nV _) _).alloc ae _
 have Zii:=wK.trans ((wH.trans (hBV.mono wH.size)).mono wK.size);have kp:=λg (hg:g<w2.heap.size)=>(hBV.block g Z).trans (wH.block g hg);have Yw:Hid (ChL w1 w1.heap.size (w1.heap.size+1) (w3.heap.size+1) w3.heap.size _ (zw bg) 0 V):=⟨⟨[],rfl,(kp _ Z).trans k0,λi h=>ax⟩,(kp _ Z).trans k1,by rw[hV];exact Zgw ..,by rw[hV];exact Zgv ..,Zii⟩;refine(ZPH (w3.heap.size+1) Bx b bg w1 V Zii hb hm A9 Z ((hBV.block Bx Dx).trans NH) (ChL w1 w1.heap.size (w1.heap.size+1) (w3.heap.size+1) w3.heap.size _ (zw bg)) (λk A A' h hB=>h.below hB Z Z Z Z Z) ?_ Yw.out).mono ?_
 ·intro k W1 Ih hk hJ hv;obtain⟨buf,zi,hbc,hbv⟩:=hJ.ch;have zM:=(wo hbc);have hy:=Zg1 (P:=prog) (n:=2) (l:=w3.heap.size+1) (D:=w3.heap.size) (args:=#[Ih]) (J:=λW'=>(∃buf:List Value,buf.length=k+1/\W'.heap[w1.heap.size]? =some (.chan 2000 buf.toArray false (k+1) 0 false)/\∀i (h:i<buf.length) (h':i<(zw bg).length),xD w1 buf[i] (zw bg)[i])/\(∀g,g≠w1.heap.size->g≠w3.heap.size+1->W'.heap[g]? =W1.heap[g]?)/\W'.os=W1.os/\W'.tape=W1.tape/\W'.output=W1.output/\W'.heap.size=W1.heap.size) (Jp:=λ_ _=>False) hJ.lp hJ.df Z rfl rfl rfl func22 (λrb A2 xK hL hD=>?_)
  ·obtain⟨fn,tmps,I8,bd,U4,hR⟩:=hy;refine⟨fn,tmps,I8,bd,U4,vk hR ?_⟩;rintro e W' (⟨rfl,⟨h1,h2,o1,o2,o3,o4⟩,h3,h4⟩|⟨_,_,h⟩)
   ·refine⟨rfl,⟨h1,(h2 _ Z Z).trans hJ.bx,h3,h4,hJ.lo.os▸o1,hJ.lo.tape▸o2,hJ.lo.output▸o3,by have:=hJ.lo.size;omega,λg hg=>(h2 g Z Z).trans (hJ.lo.block g hg)⟩,λg ob e hh=>?_⟩;have n1:g≠w1.heap.size:=λe2=>by
     rcases hh with h|⟨cu,fr,rfl⟩
     ·omega
     ·rw[e2,hbc]at e;cases e
    have n2:g≠w3.heap.size+1:=λe2=>by
     rcases hh with h|⟨cu,fr,rfl⟩
     ·omega
     ·rw[e2,hJ.lp]at e;cases e
    exact(h2 g n1 n2).trans e
   ·exact h.elim
  ·have q0:A2.cell? ⟨w1.heap.size+1,0,none⟩=some (.chan (some w1.heap.size)):=by simp[World.cell?,(xK.block (w1.heap.size+1) Z).trans hJ.bx]
   have q1:=(xK.block w1.heap.size Z).trans hbc;have hld:(Instr.loadAt 131 (.pointer (some ⟨w1.heap.size+1,0,none⟩))).run prog A2= .ok (.chan (some w1.heap.size)) A2:=iB
   obtain⟨qa,qc,rfl,_⟩:=id hv;have HJ:=vR hJ;have HV:=vR hv;have HBV:=vR hbv;have HO:=vR xK;have HL:=vR (oG hL hD);have Zac:buf.length<2000:=Z
   have hcA:=(wo q1);clear hV hBV Zii kp k0 k1 hJ hbc hbv xK hL hD Yw wK wH NH hb A9 hv;simp only[PD];simp;refine Ie rfl aA ?_;go_wp2;refine qX ?_;refine qA ?_;refine qA ?_;refine Ie rfl aA ?_;refine Zga rfl (w':=A2) (v:=.chan (some w1.heap.size)) (by simp[execOp,Act.eval,hld]) ?_;go_wp2;refine Ie rfl aA ?_;go_wp2;refine qA ?_;refine Zmq (m:=2) rfl (λf _=>trivial) (λb' k' AY XU=>ZSn (c:=w1.heap.size) (z:=.slice none 0 0) rfl rfl rfl rfl af q1 (by simpa using Zac)) rfl ?_;refine Zj8 (λ_=>trivial) rfl rfl rfl (v:=.int .i64 0) rfl ?_;refine Zj8 (λ_=>trivial) rfl rfl rfl (v:=.bool true) rfl ?_;show Exit.then _ _ _ _ _;refine qX ?_;refine wpIn_cond_true rfl (wpIn_skip ?_);refine⟨(ZgC Z).trans HL.out.1,(ZgC Z).trans HL.out.2,λA' NA=>⟨⟨buf++ [.slice qa (zw bg)[k].length qc],by simp[zi],?_,λi h h'=>?_⟩,(λg h1 h2=>?_),NA.os.trans HO.out.os,NA.tape.trans HO.out.tape,NA.output.trans HO.out.output,NA.size.trans ((by simp[World.setChan]:_=A2.heap.size).trans HO.out.size)⟩⟩
   ·rw[NA.block _ Z,Zqj hcA];simp[Act.eval]
   ·by_cases hi:i<buf.length
    ·rw[pJ hi];exact HBV.out i hi h'
    ·have Gg:i=buf.length:=by simp at h;omega
     subst Gg;simp only[qW (nV _),tC,List.getElem_cons_zero];simp only[zi];exact HV.out
   ·rw[NA.block g h2,ZgC h1,HO.out.block g h2]
 ·rintro e A ⟨⟨v,rfl⟩,hJ⟩;refine⟨hJ.lp,?_⟩;show Js _ _ _ _ _ _;obtain⟨buf,zi,hbc,hbv⟩:=hJ.ch;generalize Zc:A.putObj _ _=A2;have UY:FM (w3.heap.size+1) A A2:=by rw[<-Zc];exact FM.put ..
  clear Zc;have ZnN:=(UY.block w1.heap.size Z).trans hbc;have ZnO:=(UY.block (w1.heap.size+1) Z).trans hJ.bx;have Zwb:=(UY.block w3.heap.size Z).trans hJ.df;have Zcn:vV w1 A2:=⟨UY.os.trans hJ.lo.os,UY.tape.trans hJ.lo.tape,UY.output.trans hJ.lo.output,by have:=UY.size;have:=hJ.lo.size;omega,λg hg=>(UY.block g Z).trans (hJ.lo.block g hg)⟩;have q0:=xH ZnO;have hld:∀w,w.cell? ⟨w1.heap.size+1,0,none⟩=some (.chan (some w1.heap.size))->(Instr.loadAt 131 (.pointer (some ⟨w1.heap.size+1,0,none⟩))).run prog w= .ok (.chan (some w1.heap.size)) w:=λw q0=>iB
  clear hV hBV Zii kp k0 k1 Yw wK wH NH hb A9 hJ UY hbc;refine Ag (AJ ?_);refine wp_region_lit ?_;refine Zga rfl (w':=A2) (v:=.chan (some w1.heap.size)) (by simp[execOp,Act.eval,hld A2 q0]) ?_;refine Zga rfl (v:=.tuple #[]) (w':=A2.setChan w1.heap.size 2000 buf.toArray true (zw bg).length 0 false) ?_ ?_
  ·have zM:=λYX ty=>run_close_open (P:=prog) YX ty ZnN;simp[execOp,Act.eval,Act.put,resolve,invoke,go_sem,zM,builtin,World.setChan]
  show Js _ _ _ _ _ _;have hcC:=Zqj (cap:=2000) (buf:=buf.toArray) (cl:=true) (s:=(zw bg).length) (r:=0) (tm:=false) (wo ZnN);have MM:∀g,g≠w1.heap.size->(A2.setChan w1.heap.size 2000 buf.toArray true (zw bg).length 0 false).heap[g]? =A2.heap[g]? :=λg h=>ZgC h;have hlC:vV w1 (A2.setChan w1.heap.size 2000 buf.toArray true (zw bg).length 0 false):=⟨Zcn.os,Zcn.tape,Zcn.output,by simpa[World.setChan]using Zcn.size,λg hg=>(MM g Z).trans (Zcn.block g hg)⟩;generalize A2.setChan w1.heap.size 2000 buf.toArray true (zw bg).length 0 false=wC at hcC MM hlC ⊢;have ZvY:=(MM _ Z).trans ZnO;have Zwc:=(MM _ Z).trans Zwb;have qC:=xH ZvY;have ZwX:=hld wC qC;clear MM ZnO Zwb ZnN q0 Zcn hld;refine Ag (AJ ?_);simp[Act.put];go_wp2;refine Ag (Ag (AJ ?_));refine wp_region_lit ?_;refine Zga rfl (w':=wC) (v:=.chan (some w1.heap.size)) (by simp[execOp,Act.eval,ZwX]) ?_;show Js _ _ _ _ _ _;simp[Act.put];obtain⟨i0,zB,hz0,yo,hz2⟩:=oM Tryz.ZjS;have hsC:=hlC.size;have HBV:=vR hbv;have ZrT:=vR Zwc;have HbC:=vR hcC;have HlC:=vR hlC;clear Zwc hcC hlC ZvY qC ZwX hbv;have hTb:buf.length<=2000:=Z
  refine ZBe (n:=3) ?_;refine qX ?_;gi_loopw [7] (λv wr=>∃j:Nat,j<=buf.length/\wr.heap[w1.heap.size]? =some (.chan 2000 (buf.drop j).toArray true (zw bg).length j false)/\wr.ownsRow (w1.heap.size+1) 78 1 v j (buf.take j)/\vV w1 wr/\wr.heap[w3.heap.size]? =some (.deferred (some []))) (λ_ wr=>Zmm w1.heap.size wr);case atStart=>exact⟨0,pI _,HbC.out,⟨rfl,.inl ⟨rfl,rfl⟩⟩,HlC.out,ZrT.out⟩
  case round=>
   clear HbC HlC ZrT;obtain⟨j,hj,hch,wD,Aw,hdf⟩:=hrel;have zM:=(wo hch);obtain⟨xa,xc,rfl⟩:=yN wD;by_cases hlt:j<buf.length
   ·have hjT:j<(zw bg).length:=by omega
    obtain⟨va,vc,hvj,_⟩:=HBV.out j hlt hjT;have hdj:=pM hlt;have QY:=fun(b':Frame) (k':List Item) (AY:List Frame) (a':Act) (o':Oper) (Zgi:Array Oper) (XU:List Nat) (h1:Zgi[0]? =some o') (h2:o'.guard=none) (h3:o'.op= .recv 131 (.tmp 22) true) (h4:a'.eval (.tmp 22)= .chan (some w1.heap.size))=>ZRW (P:=prog) (b:=b') (k:=k') (cs:=AY) (a:=a') (rest:=XU) (ops:=Zgi) (z:=.slice none 0 0) h1 h2 h3 underlying131 h4 af hch ah;have e1:(buf.drop j).toArray.getD 0 undef= .slice va (zw bg)[j].length vc:=by rw[hdj];exact(Zt0 _ _).1.trans hvj
    have e2:(buf.drop j).toArray.extract 1 (buf.drop j).toArray.size=(buf.drop (j+1)).toArray:=by rw[hdj];exact(Zt0 _ _).2
    simp only[e1,e2]at QY;have LF:∀g,g≠w1.heap.size->(wr.setChan w1.heap.size 2000 (buf.drop (j+1)).toArray true (zw bg).length (j+1) false).heap[g]? =wr.heap[g]? :=λg h=>ZgC h;have O1:=Zqj (cap:=2000) (buf:=(buf.drop (j+1)).toArray) (cl:=true) (s:=(zw bg).length) (r:=j+1) (tm:=false) zM;have Az:(wr.setChan w1.heap.size 2000 (buf.drop (j+1)).toArray true (zw bg).length (j+1) false).heap.size=wr.heap.size:=by simp[World.setChan]
    have QR:(wr.setChan w1.heap.size 2000 (buf.drop (j+1)).toArray true (zw bg).length (j+1) false).os=wr.os/\(wr.setChan w1.heap.size 2000 (buf.drop (j+1)).toArray true (zw bg).length (j+1) false).tape=wr.tape/\(wr.setChan w1.heap.size 2000 (buf.drop (j+1)).toArray true (zw bg).length (j+1) false).output=wr.output:=⟨rfl,rfl,rfl⟩;refine qA ?_;refine Zmq (m:=1) rfl (λf _=>trivial) (λb' k' AY XU=>QY b' k' AY _ _ _ XU rfl rfl rfl rfl) rfl ?_;refine Zj8 (λ_=>trivial) rfl rfl rfl (v:=.bool true) rfl ?_;show Exit.then _ _ _ _ _;generalize wr.setChan w1.heap.size 2000 (buf.drop (j+1)).toArray true (zw bg).length (j+1) false=w5 at LF O1 Az QR ⊢;have BF:w5.ownsRow (w1.heap.size+1) 78 1 (.slice xa j xc) j (buf.take j):=by
     refine⟨wD.1,?_⟩;rcases wD.2 with h0|⟨g,cap,cur,e,hg,hh,r⟩
     ·exact jg
     ·exact .inr ⟨g,cap,cur,e,hg,(LF g Z).trans hh,r⟩
    have HI:Hid (w5.heap[w1.heap.size]? =some (.chan 2000 (buf.drop (j+1)).toArray true (zw bg).length (j+1) false)/\vV w1 w5/\w5.heap[w3.heap.size]? =some (.deferred (some []))):=⟨O1,⟨QR.1.trans Aw.os,QR.2.1.trans Aw.tape,QR.2.2.trans Aw.output,by have:=Aw.size;omega,λg hg=>(LF g Z).trans (Aw.block g hg)⟩,(LF _ Z).trans hdf⟩;have HCH:=vR hch;have BG:w1.heap.size+1<=w5.heap.size:=Z
    have HVJ:=vR hvj;clear QY e1 e2 LF O1 QR hch Aw hdf wD hdj hvj Az zM;refine qA ?_;refine wpIn_cond_true rfl (wpIn_skip ?_);refine wpIn_wide.2 ?_;simp[Act.put];go_wp2_with (at_builtin;go_must (refine pE _ rfl _ _ 67 rfl (w1.heap.size+1) 78 i0 (.slice none 0 0) 1 24 underlying67 zB hz0 yo hz2 rfl O _ _ _ rfl (BF.alloc _) ⟨w5.heap.size,0,none⟩ 1 1 [.slice va (zw bg)[j].length vc] rfl rfl (λj u h=>iC) au aj Z ah ?_);intro v' w6 zm xQ _);have ZU:∀(g:Nat) (ob:Obj),w5.heap[g]? =some ob->(∀cu fr,ob≠.cells cu 78 fr)->w6.heap[g]? =some ob:=λg ob e hn=>by
     have hl:=(wo e);refine(xQ.block g ah (λe2=>?_)).trans ((ow _ _ _ hl).trans e);rcases BF.2 with⟨h0,_⟩|⟨g',cap,cur,e',hg,hh,r⟩
     ·rw[h0]at e2;cases e2
     ·rw[e']at e2;cases e2;rw[e]at hh;cases hh;exact hn _ _ rfl
    have Gf:=(HI.out.2.1.alloc Z _).grown xQ ah (λk e=>by have:=(BF.lt k e).1;omega);refine⟨⟨v',⟨j+1,Z,ZU _ _ HI.out.1 (λ_ _ e=>ai),?_,Gf,ZU _ _ HI.out.2.2 (λ_ _ e=>ai)⟩,_,_,_,_,_,_,_,_,rfl⟩,?_⟩
    ·rw[o8 hlt,HVJ.out];exact zm
    ·rw[ZtE (ZU _ _ HI.out.1 (λ_ _ e=>ai)),ZtE HCH.out];simp;omega
   ·have hjb:j=buf.length:=by omega
    have hd0:(buf.drop j).toArray= #[]:=by rw[hjb,sG]
    rw[hd0]at hch;have QY:=fun(b':Frame) (k':List Item) (AY:List Frame) (a':Act) (o':Oper) (Zgi:Array Oper) (XU:List Nat) (h1:Zgi[0]? =some o') (h2:o'.guard=none) (h3:o'.op= .recv 131 (.tmp 22) true) (h4:a'.eval (.tmp 22)= .chan (some w1.heap.size))=>ZRX (P:=prog) (b:=b') (k:=k') (cs:=AY) (a:=a') (rest:=XU) (ops:=Zgi) (z:=.slice none 0 0) h1 h2 h3 underlying131 h4 af hch;refine qA ?_;refine Zmq (m:=1) rfl (λf _=>trivial) (λb' k' AY XU=>QY b' k' AY _ _ _ XU rfl rfl rfl rfl) rfl ?_;refine Zj8 (λ_=>trivial) rfl rfl rfl (v:=.bool false) rfl ?_;show Exit.then _ _ _ _ _;refine qA ?_;refine wpIn_cond_false rfl (wpIn_exit ?_);have HO:=vR wD;have HDF:=vR hdf;have Gu:=vR Aw;clear QY wD hdf Aw;show Js _ _ _ _ _ _;simp[Act.put];refine Ag (AJ ?_);go_wp2_with fail;refine AJ ?_;go_wp2;have hlen:j=(zw bg).length:=Z
    refine ZOm (v:=.slice xa j xc) HDF.out (by simp[results,Tryz.results22]) ⟨_,rfl,?_,?_⟩
    ·have hk:∀(g:Nat) (cu:Array Value) (ty:TypeId),wr.heap[g]? =some (.cells cu ty)->(wr.putObj w3.heap.size (.deferred none)).heap[g]? =some (.cells cu ty):=λg cu ty e=>(pF (λe2=>by rw[e2,HDF.out]at e;cases e)).trans e;have hB:vV w1 (wr.putObj w3.heap.size (.deferred none)):=⟨Gu.out.os,Gu.out.tape,Gu.out.output,iD,λg hg=>(pF Z).trans (Gu.out.block g hg)⟩;have ho:=HO.out;rw[hjb,tH,zi]at ho;rw[hlen];rcases ho.2 with⟨e,h0⟩|⟨g,cap,cur,e,hg,hh,hc,MN,_⟩
     ·exact⟨none,0,by rw[e,h0],Z,aj,λi h=>Z⟩
     ·rw[e]at ho ⊢;refine⟨_,cap,rfl,hc,MN,λi hi=>?_⟩;have hib:i<buf.length:=by omega
      have h1:=ho.cells (g:=g) rfl i buf[i] (oW hib);rw[uY,o9]at h1;have Cj:=hk _ _ _ hh;refine⟨g,0,cur,buf[i],rfl,Cj,?_,(HBV.out i hib hi).J7 hB⟩;rw[o9];exact yP (Cj.trans hh.symm) h1
    ·exact⟨Gu.out.os,Gu.out.tape,Gu.out.output,iD,λg hg=>(pF Z).trans (Gu.out.block g hg)⟩
end
section
open Go.RowKit
def Vx(P:Program):List Oper->Act->World->Option (Act×World)
 | [],a,w=>some (a,w)
 |o::r,a,w=>match (execOp a.eval o).run P w with
  | .ok (.value v) w'=>Vx P r (a.put o.dst v) w'
  |_=>none
theorem Zqc{P:Program}:∀l a a' w w',l.all (λo=>o.guard.isNone)=true->Vx P l a w=some (a',w')->Q .normal a' w'->wpList P ops Q l a w
 | [],a,a',w,w',_,h,hq=>by
  rw[Vx]at h;cases h;exact hq
 |o::r,a,a',w,w',hg,h,hq=>by
  rw[List.all_cons,oJ]at hg;rw[Vx]at h;have Fq:o.guard=none:=by
   cases e:o.guard with
   |none=>rfl
   |some _=>rw[e]at hg;cases hg.1
  split at h
  ·rename_i v w1 hx;exact Zga Fq hx (Zqc r _ a' w1 w' hg.2 h hq)
  ·cases h
def opsOf:Code->List (Array Oper)
 | .region _ ops _=> [ops]
 | .seq a b=>opsOf a++opsOf b
 |_=> []
def S9(fn:Func)(i:Nat):Array Oper:=(opsOf (fn.body.getD .skip)).getD i #[]
structure PW where
 q:vS
 wu:List vS
 rows:List vS
 e:Int
 at_:Int
def Zqt:Operand->vS
 | .const (.string b)=>b.data.toList
 |_=> []
def ZxZ:Operand->Int
 | .const (.int _ n)=>n
 |_=>0
def Zur:List Oper->List PW
 |a::b::c::r=>match a.op,b.op,c.op with
  | .buildSlice _ _ x,.buildSlice _ _ y,.build _ z=>⟨Zqt ((z.getD 0 (0,.const .nilIface)).2),x.toList.map λp=>Zqt p.2,y.toList.map λp=>Zqt p.2,ZxZ ((z.getD 3 (0,.const .nilIface)).2),ZxZ ((z.getD 4 (0,.const .nilIface)).2)⟩::Zur r
  |_,_,_=> []
 |_=> []
def Kq(fn:Func):List PW:=Zur (S9 fn 1).toList
def Rl(g:Nat)(x:List vS):Value:=.slice (some ⟨g,0,none⟩) x.length x.length
def F4(l:List vS):Obj:=.cells (l.map λs=>Value.string ⟨s.toArray⟩).toArray 9
def XE(p:World×List Value)(f:PW):World×List Value:=((p.1.alloc (F4 f.wu)).alloc (F4 f.rows),p.2++ [.string ⟨f.q.toArray⟩,Rl p.1.heap.size f.wu,Rl (p.1.alloc (F4 f.wu)).heap.size f.rows,.int .i64 f.e,.int .i64 f.at_])
def Jk(l:List PW)(W:World):World×List Value:=l.foldl XE (W, [])
def ZNT:(Kq Tryz.f4).length=56:=by kernel_rfl
def ZNR:Tryz.f4.body=some (.seq (.region 0 (S9 Tryz.f4 0) false) (.seq (.region 1 (S9 Tryz.f4 1) false) .ret)):=by kernel_rfl
def Zyr:(S9 Tryz.f4 0).toList.all (λo=>o.guard.isNone)=true/\(S9 Tryz.f4 1).toList.all (λo=>o.guard.isNone)=true:=⟨af,af⟩
def ZNV(W):(Vx prog (S9 Tryz.f4 0).toList {tmps:=#[]++Array.replicate (Tryz.f4.ntmps-0) undef,defers:= []} W).map (·.2)=some W:=by kernel_rfl
def ZNU(W):((Vx prog (S9 Tryz.f4 0).toList {tmps:=#[]++Array.replicate (Tryz.f4.ntmps-0) undef,defers:= []} W).bind λp=>Vx prog (S9 Tryz.f4 1).toList p.1 p.2).map (λp=>(p.1.tmps.getD 0 undef,p.1.defers,p.2))=some (.slice (some ⟨(Jk (Kq Tryz.f4) W).1.heap.size,0,none⟩) 56 56, [],(Jk (Kq Tryz.f4) W).1.alloc (.cells (Jk (Kq Tryz.f4) W).2.toArray 26)):=by kernel_rfl
def ZNQ(W):Calls prog 4 #[] W λe W'=>e= .returned (.slice (some ⟨(Jk (Kq Tryz.f4) W).1.heap.size,0,none⟩) 56 56)/\W'=(Jk (Kq Tryz.f4) W).1.alloc (.cells (Jk (Kq Tryz.f4) W).2.toArray 26):=by
 refine calls_of_wp func4 ZNR ?_;have h:=ZNU W;have h0:=ZNV W;have hs:(#[]:Array Value).size=0:=rfl;rw[hs];generalize ({tmps:=#[]++Array.replicate (Tryz.f4.ntmps-0) undef,defers:= []}:Act)=a0 at *;cases e0:Vx prog (S9 Tryz.f4 0).toList a0 W with
 |none=>rw[e0]at h0;cases h0
 |some p0=>
  obtain⟨a1,W1⟩:=p0;rw[e0]at h;cases e1:Vx prog (S9 Tryz.f4 1).toList a1 W1 with
  |none=>simp only[Option.bind_some,e1]at h;cases h
  |some p1=>
   obtain⟨a2,W2⟩:=p1;simp only[Option.bind_some,e1,Option.map_some]at h;have h:=oN h;have q1:=(qJ h).1;have q2:=(qJ (qJ h).2).1;have q3:=(qJ (qJ h).2).2;refine wp_seq (wp_region_list (Zqc _ _ a1 _ W1 Zyr.1 e0 ?_));refine wp_seq (wp_region_list (Zqc _ _ a2 _ W2 Zyr.2 e1 ?_));refine wp_ret ?_;refine uZ (v:=.slice (some ⟨(Jk (Kq Tryz.f4) W).1.heap.size,0,none⟩) 56 56) ?_ q2 ⟨rfl,q3⟩;have q1':a2.tmps[0]?.getD undef= .slice (some ⟨(Jk (Kq Tryz.f4) W).1.heap.size,0,none⟩) 56 56:=by
    rw[<-q1];simp
   simp[results,Tryz.results4];exact q1'
theorem Zyq:∀(l:List PW) w cs,(l.foldl XE (w,cs)).1.heap.size=w.heap.size+2*l.length/\Below w.heap.size w (l.foldl XE (w,cs)).1/\(∀i (h:i<l.length),(l.foldl XE (w,cs)).1.heap[w.heap.size+2*i]? =some (F4 l[i].wu)/\(l.foldl XE (w,cs)).1.heap[w.heap.size+2*i+1]? =some (F4 l[i].rows))/\
  ∃ds,(l.foldl XE (w,cs)).2=cs++ds/\ds.length=5*l.length/\∀i (h:i<l.length),ds[5*i]? =some (.string ⟨l[i].q.toArray⟩)/\ds[5*i+1]? =some (Rl (w.heap.size+2*i) l[i].wu)/\ds[5*i+2]? =some (Rl (w.heap.size+2*i+1) l[i].rows)/\ds[5*i+3]? =some (.int .i64 l[i].e)/\ds[5*i+4]? =some (.int .i64 l[i].at_)
 | [],w,cs=>⟨ae,nW _ _,λi h=>ax, [],ae,ae,λi h=>ax⟩
 |f::l,w,cs=>by
  have Ay:((w.alloc (F4 f.wu)).alloc (F4 f.rows)).heap.size=w.heap.size+2:=ae
  have wK:Below w.heap.size w ((w.alloc (F4 f.wu)).alloc (F4 f.rows)):=((nW _ w).alloc (nV _) _).alloc ae _;have g0:((w.alloc (F4 f.wu)).alloc (F4 f.rows)).heap[w.heap.size]? =some (F4 f.wu):=(ow _ _ _ ae).trans (oK w _);have g1:((w.alloc (F4 f.wu)).alloc (F4 f.rows)).heap[w.heap.size+1]? =some (F4 f.rows):=by
   have:=oK (w.alloc (F4 f.wu)) (F4 f.rows);exact ni
  have ha:(w.alloc (F4 f.wu)).heap.size=w.heap.size+1:=ae
  obtain⟨h1,h2,h3,ds,h4,h5,h6⟩:=Zyq l ((w.alloc (F4 f.wu)).alloc (F4 f.rows)) (cs++ [.string ⟨f.q.toArray⟩,Rl w.heap.size f.wu,Rl (w.alloc (F4 f.wu)).heap.size f.rows,.int .i64 f.e,.int .i64 f.at_]);rw[Ay]at h1 h2 h3 h6;rw[List.foldl_cons];refine⟨?_,wK.trans (h2.mono Z),λi hi=>?_, [.string ⟨f.q.toArray⟩,Rl w.heap.size f.wu,Rl (w.alloc (F4 f.wu)).heap.size f.rows,.int .i64 f.e,.int .i64 f.at_]++ds,?_,?_,λi hi=>?_⟩
  ·show(l.foldl XE _).1.heap.size=_;rw[List.length_cons];refine h1.trans ?_;omega
  ·cases i with
   |zero=>exact⟨(h2.block _ Z).trans g0,(h2.block _ Z).trans g1⟩
   |succ i=>
    have:=h3 i aN;rw[show w.heap.size+2*(i+1)=w.heap.size+2+2*i from Z];exact this
  ·show(l.foldl XE _).2=_;rw[<-oI];exact h4
  ·simp[h5];omega
  ·cases i with
   |zero=>rw[ha];exact⟨rfl,rfl,rfl,rfl,rfl⟩
   |succ i=>
    have:=h6 i aN;rw[show 5*(i+1)=5*i+5 from Z,show 5*i+5+1=5*i+1+5 from Z,show 5*i+5+2=5*i+2+5 from Z,show 5*i+5+3=5*i+3+5 from Z,show 5*i+5+4=5*i+4+5 from Z,show w.heap.size+2*(i+1)=w.heap.size+2+2*i from Z];exact this
end
end Go.Proofs.YtncnkiabjhhclaaGreatDoor
