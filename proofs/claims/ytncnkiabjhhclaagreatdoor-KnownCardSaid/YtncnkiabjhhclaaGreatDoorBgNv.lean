import Derived.Test.YtncnkiabjhhclaaGreatDoorBgJa25
set_option maxRecDepth 100000
set_option maxHeartbeats 8000000
set_option linter.all false
namespace Go.Proofs.YtncnkiabjhhclaaGreatDoor
open Go.Proofs.Tryz
open Go.RowKit
def ZEd{w2:World}{g0:Nat}{cu0:Array Value}{u v:Value}(hz:w2.heap[g0]? =some (.cells cu0 463)):∀(g:Nat) cu ty,ty∈IQ->w2.heap[g]? =some (.cells cu ty)->((w2.setCell ⟨g0,0,none⟩ u).setCell ⟨g0,1,none⟩ v).heap[g]? =some (.cells cu ty):=by
 intro g cu ty ht e;have wF:g≠g0:=λe1=>by
  subst e1;rw[hz]at e;cases e;revert ht;decide
 exact(uX _ ⟨g0,1,none⟩ v g wF).trans ((uX _ ⟨g0,0,none⟩ u g wF).trans e)
def ZFP(W)(fb b c d i n wi r K1 zb)(c1)(rv mv av)(sp some_ Ak)(s)(x:wG×Nat)(wR)(met)(R)(e1:yH K1)(hf:W.heap[fb]? =some (.cells #[rv,mv,av,M4 r,.bool sp] 218))(hb:W.heap[b]? =some (.cells #[.func (.func K1) #[] c1] 345))(hc:W.heap[c]? =some (.cells #[vU wi] 354))(hd:W.heap[d]? =some (.cells #[.func (.func 330) #[] #[vU zb]] 510))(hi:W.heap[i]? =some (.cells #[.func (.func (Q0 Ak)) #[] #[]] 433))(hn:W.heap[n]? =some (.cells #[.int .i64 (if Ak then 2 else 0)] 396))(hz:W.heap[zb]? =some (.cells #[.func (.func (OQ s)) #[] #[]] 31))(h1:Calls prog K1 (#[vU fb]++c1) W (IY W (xe x.1) x.2))(AA:wR.length<=1000)(hA:∀W',vV W W'->Calls prog 441 #[vU r,vU wi,vU fb] W' (Ow W' some_ wR met R))(Sy:∀a b,R a->vV a b->R b)(Sz:∀a g k cu u,R a->W.heap.size<=g->a.heap[g]? =some (.cells cu 463)->R (a.setCell ⟨g,k,none⟩ u)):
  Calls prog 279 #[vU fb,vU b,vU c,vU n,vU i,vU d] W λe W'=>e= .returned (.tuple #[.int .i64 (wR.foldl (λt v=>LY Ak t (Ko s x.1 v)) (if Ak then 2 else 0):Nat),.int .i64 (xG [x.2,met])])/\R W':=by
 obtain⟨t0,LV,ht0'⟩:∃t0:Nat,(if Ak then(2:Int)else 0)=t0/\(if Ak then 2 else 0)=t0:=by cases Ak<;>exact⟨_,rfl,rfl⟩
 rw[ht0'];rw[LV]at hn;clear LV ht0';have cb:=xH hb;unfold yH at e1;have H1:=vR h1;obtain⟨xt,xy,hxv⟩:=Dp x.1;rw[hxv]at H1;have HXV:=vR hxv;have HKP:=vR (oG hf (oG hc (oG hd (oG hi (oG hn hz)))));have HA:=vR hA;have hma:=ZyH;clear hf hb hc hd hi hn hz h1 hA hxv;simp only[vU]at *;go_enter func279,ntmps279;go_wp2_with fail;refine H1.out.mono ?_;rintro e w1 ⟨rfl,wE⟩;obtain⟨hf,hc,hd,hi,hn,hz⟩:=HKP.out;have kb:=fun(g:Nat) (o:Obj) (h:W.heap[g]? =some o)=>xq wE h;have f1:=kb _ _ hf;have g1:=kb _ _ hc;have d1:=kb _ _ hd;have i1:=kb _ _ hi;have n1:=kb _ _ hn;have z1:=kb _ _ hz;have Yx:=vR (oG d1 (oG i1 (oG n1 z1)));have c3:=KH f1;have cc:w1.cell? ⟨c,0,none⟩=some (vU wi):=by simp[World.cell?,g1,vU]
 have c3A:=λob=>(oD w1 ob ⟨fb,3,none⟩ (wo f1)).trans c3;have ccA:=λob=>(oD w1 ob ⟨c,0,none⟩ (wo g1)).trans cc;have zF:=vR (HA.out w1.drew (FR wE));have IZ:Hid (Calls prog 441 #[.pointer (some ⟨r,0,none⟩),.pointer (some ⟨wi,0,none⟩),.pointer (some ⟨fb,0,none⟩)] (w1.alloc (.cells #[.bool false,.slice none 0 0] 463)).drew λe W'=>∃va vc,e= .returned (.tuple #[.agg #[.bool some_,.slice va wR.length vc],.int .i64 met])/\Hid (xD W' (.slice va wR.length vc) wR/\R W'/\KT (463::IQ) (w1.alloc (.cells #[.bool false,.slice none 0 0] 463)).drew W')/\W'.cell? ⟨w1.heap.size,0,none⟩=some (.bool false)/\W'.cell? ⟨w1.heap.size,1,none⟩=some (.slice none 0 0)/\W'.frozen? ⟨w1.heap.size,0,none⟩=false/\W'.frozen? ⟨w1.heap.size,1,none⟩=false/\Hid (W'.heap[w1.heap.size]? =some (.cells #[.bool false,.slice none 0 0] 463))):=by
  show Calls _ _ _ _ _;refine(HA.out _ (FR (wE.alloc wE.size _))).mono ?_;rintro e w2 ⟨va,vc,rfl,hR⟩;have hk:=hR.out.2.2 w1.heap.size _ _ O (xI w1 (.cells #[.bool false,.slice none 0 0] 463));exact⟨va,vc,rfl,hR,eG,eG,eH,eH,hk⟩
 unfold Ow at zF;clear hf hc hd hi hn hz f1 g1 d1 i1 n1 z1 kb HKP HA H1 cb;simp only[vU,M4]at *;go_upto_region 2 with fail
 go_cut [11,12] (λav mv wx=>∃(ab vc:Nat) (va:Option Addr),av= .pointer (some ⟨ab,0,none⟩)/\mv= .int .i64 met/\wx.cell? ⟨ab,1,none⟩=some (.slice va wR.length vc)/\Hid (R wx/\xD wx (.slice va wR.length vc) wR/\KT IQ w1 wx));case first=>
  go_region_with (first
   |(go_at_call 441;refine zF.out.mono ?_;rintro e w2 ⟨va,vc,rfl,hR⟩)
   |(go_at_call 441;refine IZ.out.mono ?_;rintro e w2 ⟨va,vc,rfl,hR,z0,z1,z2,z3,zk⟩))
  all_goals
   go_wp2_with fail;go_meet;first
    |(have zA:=(nW w2.heap.size w2).alloc (nV _) (.cells #[.bool some_,.slice va wR.length vc] 463)
      exact⟨_,vc,va,rfl,rfl,ae,Sy _ _ hR.out.2.1 zA,hR.out.1.J7 zA,λg cu ty ht e=>(zA.block g (wo (hR.out.2.2 g cu ty (qb _ ht) e))).trans (hR.out.2.2 g cu ty (qb _ ht) e)⟩)
    |(have k1:=zD (k:=0) (u:=.bool some_) zk.out
      have k2:=zD (k:=1) (u:=.slice va wR.length vc) k1;have QI:∀(g:Nat) (cu:Array Value) (ty:TypeId),ty∈IQ->w2.heap[g]? =some (.cells cu ty)->((w2.setCell ⟨w1.heap.size,0,none⟩ (.bool some_)).setCell ⟨w1.heap.size,1,none⟩ (.slice va wR.length vc)).heap[g]? =some (.cells cu ty):=ZEd zk.out;exact⟨_,vc,va,rfl,rfl,fU,Sz _ _ _ _ _ (Sz _ _ _ _ _ hR.out.2.1 wE.size zk.out) wE.size k1,hR.out.1.same (ts:=IQ) QI O,λg cu ty ht e=>QI g cu ty ht (hR.out.2.2 g cu ty (qb _ ht) ((ow w1 _ g (wo e)).trans e))⟩)
 case rest=>
  obtain⟨ab,vc,va,rfl,rfl,D8,hH⟩:=hcut;obtain⟨wx,Ll⟩:∃wx,wx=wc:=⟨_,rfl⟩;subst Ll;obtain⟨hR,hV,hKT⟩:=hH.out;obtain⟨d1,i1,n1,z1⟩:=Yx.out;have d2:=hKT _ _ _ O d1;have i2:=hKT _ _ _ O i1;have n2:=hKT _ _ _ O n1;have z2:=hKT _ _ _ O z1;have cd:=xH d2;have ci:=xH i2;have cn:=xH n2;have HR:=vR hR;have HV:=vR hV;have HZ:=vR z2;clear Yx d1 i1 n1 z1 d2 i2 n2 z2 hKT hH hR hV c3A ccA c3 cc zF IZ;go_wp2_with fail;go_loopg [13,36] (wR.length+1) (λgk tv iv wr=>∃(k t:Nat),k<=wR.length/\gk=wR.length-k+1/\iv= .int .i64 k/\tv= .int .i64 t/\vV wx wr/\Hid ((wR.take k).foldl (λt v=>LY Ak t (Ko s x.1 v)) t0=t));case atStart=>exact⟨0,t0,Z,Z,rfl,rfl,nW _ _,rfl⟩
  case round=>
   obtain⟨k,t,hk,rfl,rfl,rfl,hB,hI⟩:=hrel;by_cases hlt:k<wR.length
   ·obtain⟨a',c',ee,_,_,h3⟩:=HV.out;cases ee;obtain⟨g,o,cu,rfl,hg,Bl⟩:=h3 k hlt;have xL:=(wo hg);have q0:=wT hB xL Bl;have q1:=wT hB (oH wx _ cd) cd;have q2:=wT hB (oH wx _ ci) ci;have hzl:=(wo HZ.out);have HJ:Hid (∀w',vV wx w'->Calls prog 330 #[xe x.1,xe wR[k],.pointer (some ⟨zb,0,none⟩)] w' λe w2=>e= .returned (.int .i64 (Ko s x.1 wR[k]))/\vV w' w2):=λw' hw=>Ztu s x.1 wR[k] w' zb ((hw.block zb hzl).trans HZ.out);have HJN:=vR (λy w=>Ztt Ak t y w);have hEj:=Zue Ak;have hEd:=ZHp;unfold yH at hEj hEd;have Ip:Hid ((wR.take (k+1)).foldl (λt v=>LY Ak t (Ko s x.1 v)) t0=LY Ak t (Ko s x.1 wR[k])):=by
     show _=_;rw[o8 hlt,qN,hI.out];rfl
    obtain⟨yt,yy,hyv⟩:=Dp wR[k];rw[hyv]at q0 HJ;rw[HXV.out]at HJ;generalize Ko s x.1 wR[k]=jv at *;generalize Q0 Ak=KJ at *;clear h3 hg Bl hyv hI;have HJ1:Hid (Calls prog 330 #[.iface xt xy,.iface yt yy,.pointer (some ⟨zb,0,none⟩)] wr.drew λe w2=>e= .returned (.int .i64 jv)/\w2.cell? ⟨i,0,none⟩=some (.func (.func KJ) #[] #[])/\Hid (vV wx w2)):=by
     show Calls _ _ _ _ _;refine(HJ.out wr.drew (FR hB)).mono ?_;rintro e w2 ⟨rfl,wK⟩;have wH:vV wr w2:=(FR (nW _ _)).trans wK;exact⟨rfl,wT wH (oH wr _ q2) q2,hB.trans (wH.mono hB.size)⟩
    clear HJ;go_wp2_with fail;go_region_with (first
     |(go_at_call 330;refine HJ1.out.mono ?_;rintro e w2 ⟨rfl,y1,y2⟩)
     |(with_reducible refine(HJN.out _ _).mono ?_;rintro e w3 ⟨rfl,rfl⟩))
    all_goals
     go_wp2_with fail;go_roundg (wR.length-(k+1)+1);case measure=>omega
     case rel=>exact⟨k+1,_,Z,rfl,ak,rfl,y2.out,Ip.out⟩
   ·obtain rfl:k=wR.length:=by omega
    have HT:Hid (wR.foldl (λt v=>LY Ak t (Ko s x.1 v)) t0=t):=by
     have h:=hI.out;rw[oO (nV _)]at h;exact h
    clear hI;go_wp2_with fail;refine(YV _ [x.2,met] _ (ZbG (xI wr _))).mono ?_;rintro e w3 ⟨rfl,rfl⟩;go_wp2_with fail;go_ret2;exact⟨by rw[HT.out];rfl,Sy _ _ HR.out (hB.alloc hB.size _)⟩
end Go.Proofs.YtncnkiabjhhclaaGreatDoor
