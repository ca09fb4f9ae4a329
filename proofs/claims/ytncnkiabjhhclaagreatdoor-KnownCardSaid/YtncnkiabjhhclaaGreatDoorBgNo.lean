import Derived.Test.YtncnkiabjhhclaaGreatDoorBgJa20
import Derived.Test.YtncnkiabjhhclaaGreatDoorBgKn
set_option maxRecDepth 100000
set_option maxHeartbeats 8000000
set_option linter.all false
namespace Go.Proofs.YtncnkiabjhhclaaGreatDoor
variable{m met:Nat}{wb:Option Nat}{lv ny:Value}{W:World}{bg:xk}
open Go.RowKit
inductive YL (c:PC) (up l:List xE):List xE->Nat->Prop
 |mk (ts:List (Nat×Nat)) (Fa:l.length<=64) (hm:CR (λf=>DD c (f::up)) l=some ts):YL c up l (DT l (ts.map (·.1))) (xG (ts.map (·.2)))
inductive Yk (s:Aq) (up l:List xE):List xE->Nat->Prop
 |mk (gs:List (List xE)) (ED:List (List (wG×Nat))) (hg:(s.keys= []/\gs= [l])\/(s.keys≠ []/\Y9 s.keys l {} []=some gs)) (hk:s.keys.length<=1000) (Fa:l.length<=64) (A9:∀f∈l,f.row.length<=1000) (xL:gs.length<=64) (AA:ED.length=gs.length) (AZ:∀i (h:i<gs.length) (h':i<ED.length),ZkN up s.made gs[i] ED[i]):Yk s up l ((gs.zip ED).map λp=>WS p.1 p.2) (xG (ED.flatMap λvs=>vs.map (·.2)))
inductive RH (s:Aq) (up l:List xE):xk->Nat->Prop
 |mk (rows:List (List (wG×Nat))) (Fa:l.length<=64) (hm:CR (λf=>CR (λe=>BM e (f::up)) s.items) l=some rows) (wQ:YP (rows.map λr=>r.map (·.1))) (ZXC:YP (xk.new (rows.map λr=>r.map (·.1))).rows):
  RH s up l (if xG (rows.map λr=>xG (r.map (·.2)))≠0 then {} else if s.distinct then xk.new (xk.new (rows.map λr=>r.map (·.1))).rows else xk.new (rows.map λr=>r.map (·.1))) (xG (rows.map λr=>xG (r.map (·.2))))
def RH.eq{s}{up l}(h:RH s up l bg met):∃rows:List (List (wG×Nat)),l.length<=64/\CR (λf=>CR (λe=>BM e (f::up)) s.items) l=some rows/\YP (rows.map λr=>r.map (·.1))/\YP (xk.new (rows.map λr=>r.map (·.1))).rows/\(bg=if xG (rows.map λr=>xG (r.map (·.2)))≠0 then {} else if s.distinct then xk.new (xk.new (rows.map λr=>r.map (·.1))).rows else xk.new (rows.map λr=>r.map (·.1)))/\met=xG (rows.map λr=>xG (r.map (·.2))):=by
 obtain⟨rows,h1,h2,h3,h4⟩:=h;exact⟨rows,h1,h2,h3,h4,rfl,rfl⟩
inductive Nl (s:Aq) (up l:List xE):xk->Nat->Prop
 |plain {bg:xk} {met:Nat} (hg:s.Nu=false) (h:RH s up l bg met):Nl s up l bg met
 |ZmP {G:List xE} {m:Nat} (hg:s.Nu=true) (h:Yk s up l G m) (hm:m≠0):Nl s up l {} m
 |Zn6 {G K:List xE} {m:Nat} (hg:s.Nu=true) (h:Yk s up l G 0) (hk:YL s.Fj up G K m) (hm:m≠0):Nl s up l {} m
 |full {G K:List xE} {bg:xk} {met:Nat} (hg:s.Nu=true) (h:Yk s up l G 0) (hk:YL s.Fj up G K 0) (hi:RH s up K bg met):Nl s up l bg met
def Nl.eq{s}{up l}(h:Nl s up l bg met)(hg:s.Nu=true):∃G m1,Yk s up l G m1/\((m1≠0/\bg={}/\met=m1)\/(m1=0/\∃K m2,YL s.Fj up G K m2/\((m2≠0/\bg={}/\met=m2)\/(m2=0/\RH s up K bg met)))):=by
 cases h with
 |plain ML h=>rw[hg]at ML;cases ML
 |ZmP hg h hm=>exact⟨_,_,h,.inl ⟨hm,rfl,rfl⟩⟩
 |Zn6 hg h hk hm=>exact⟨_,_,h,.inr ⟨rfl,_,_,hk,.inl ⟨hm,rfl,rfl⟩⟩⟩
 |full hg h hk hi=>exact⟨_,_,h,.inr ⟨rfl,_,_,hk,.inr ⟨rfl,hi⟩⟩⟩
def ZIF{b:Nat}{x:BL}{s:Aq}{d l0 q0:Int}{ev:Value}{up l G}{q:Option Addr}{nt:TypeId}(sp)(hb:W.heap[b]? =some (.cells (x.cells s d l0 q0 ev) 259))(hp:Zbm W x s wb)(zu:Ao W (.iface nt ny) up (.pointer q))(hl:Cq W lv l)(hG:Yk s up l G m):
  Calls Tryz.prog 126 #[vU b,.agg #[.slice none 0 0,.slice none 0 0,.pointer q,.iface nt ny,.bool sp],lv] W λe W'=>∃ev,e= .returned (.tuple #[ev,.int .i64 m])/\Cq W' ev G/\vV W W':=by
 obtain⟨gs,ED,hg,hk,Fa,A9,xL,AA,AZ⟩:=hG;refine ZIp W b _ x.ks x.made lv s.made up l q nt ny sp gs ED hb rfl rfl hp.made zu (λW' hB=>?_) ?_ ?_ xL AA AZ
 ·rcases hg with⟨Bc,rfl⟩|⟨Bc,hg⟩
  ·obtain⟨⟨ka,kc,hke,_⟩,_⟩:=hp.ks;have HL:=vR (hl.same (KT.vZ hB));obtain⟨la,lc,rfl,_⟩:=hl;rw[hke,Bc];refine(ZIx W' ka kc la l.length lc).mono ?_;rintro e W2 ⟨rfl,h1,h2⟩;refine⟨_,rfl,⟨_,1,rfl,ae,λi hi=>?_⟩,h2⟩;have:i=0:=by simpa using hi
   subst this;exact⟨W'.heap.size,_,_,rfl,h1,dw,HL.out.same (KT.vZ h2)⟩
  ·exact ZIw W' x.ks lv s.keys l gs (hp.ks.same (KT.vZ hB) (ts:= [3]) ae) (rW.2 Bc) hk (hl.same (KT.vZ hB)) Fa A9 hg
 ·obtain⟨⟨a,c,e,_⟩,_⟩:=hp.ks;exact⟨_,_,_,e⟩
 ·obtain⟨a,c,e,_⟩:=hl;exact⟨_,_,_,e⟩
def Zbw(W):Calls Tryz.prog 121 #[.slice none 0 0] W λe W'=>∃b,e= .returned (vU b)/\CV W' b {}/\vV W W':=by
 refine(Zeg W (.slice none 0 0) [] ⟨none,0,rfl,ae,Z,λi h=>ax⟩ ⟨ae,λk h=>ax⟩).mono ?_;rintro e W' ⟨b,x,bv,bs,rv,tv,vs,rfl,hb⟩;exact⟨b,rfl,hb.read,hb.low⟩
def ZNa{c}{up l K}{hv}{q:Option Addr}{nt:TypeId}(sp)(hf:DC W wb c hv)(hk:YL c up l K m)(hl:Cq W lv l)(zu:Ao W (.iface nt ny) up (.pointer q)):
  Calls Tryz.prog 124 #[.agg #[.slice none 0 0,.slice none 0 0,.pointer q,.iface nt ny,.bool sp],lv,hv] W λe W'=>∃rv,e= .returned (.tuple #[rv,.int .i64 m])/\Cq W' rv K/\vV W W':=by
 obtain⟨ts,Fa,hm⟩:=hk;obtain⟨Kf,cap,rfl,hE⟩:=hf.func;obtain⟨zW,hg⟩:=Q4 hm;refine(Zt6 Nt W l lv q nt ny up sp Kf cap (ts.map (·.1)) (ts.map (·.2)) Fa cK cK hE hl zu trivial (λi hi W' fp _ Dl hX=>?_)).mono (λe W' ⟨rv,h1,h2,h3,_⟩=>⟨rv,h1,h2,h3⟩);have hX:vV W W':=hX;have hit:i<ts.length:=Z
 obtain⟨K',zY,e1,_,hc⟩:=Zep (.iface nt ny) wb c W' _ (l[i]::up) fp ts[i] (hf.same (KT.vZ hX)) Dl (hg i hi hit);cases e1;exact mq
def Zx4{up l:List xE}{f}{q:Option Addr}{nt:TypeId}(sp:Bool){es}{rows:List (List (wG×Nat))}(hf:FnR W es f)(Fa:l.length<=64)(hm:CR (λf=>CR (λe=>BM e (f::up)) es) l=some rows)(hl:Cq W lv l)(zu:Ao W (.iface nt ny) up (.pointer q)):
  Calls Tryz.prog 127 #[.agg #[.slice none 0 0,.slice none 0 0,.pointer q,.iface nt ny,.bool sp],lv,f] W λe W'=>∃rv,e= .returned (.tuple #[rv,.int .i64 (xG (rows.map λr=>xG (r.map (·.2))))])/\FN W' rv (rows.map λr=>r.map (·.1))/\vV W W':=by
 obtain⟨b,v,rfl,hb,hv⟩:=hf;obtain⟨A9,hg⟩:=Q4 hm;refine(ZG2 Nt W l lv q nt ny up sp 191 #[vU b] (rows.map λr=>xG (r.map (·.2))) (λi v W=>xD W v ((rows.map λr=>r.map (·.1)).getD i [])) Fa (by simp[A9]) ZHv hl zu trivial (λi v a b hX h=>xD.J7 h hX) (λi v a g o cu ty u h Cj ht=>?_) (λi hi W' fp _ Dl hX=>?_)).mono ?_
 ·have wF:ty≠80:=λe=>by rw[e]at ht;revert ht;decide
  refine xD.same (ts:= [80]) ?_ ae h;intro g' BA ty' SV e';have e2:ty'=80:=by simpa using SV
  refine(uX a ⟨g,o,none⟩ u g' (λe=>?_)).trans e';have e3:g'=g:=e;rw[e3,Cj]at e';cases e';exact wF e2
 ·have hX:vV W W':=hX;have KW:i<rows.length:=by omega
  have zi:=(wo hb);refine(ZzV (.iface nt ny) W' b v es (l[i]::up) fp rows[i] ((hX.block b zi).trans hb) (hv.same (KT.vZ hX)) Dl (hg i hi KW)).mono ?_;rintro e W2 ⟨rv,rfl,Bt,wK⟩;refine⟨rv,by rw[getD_map _ _ _ KW],?_,?_,wK,trivial⟩
  ·obtain⟨a,c,rfl,_⟩:=Bt;exact⟨_,_,_,rfl⟩
  ·rw[qI,rP,oW KW];exact Bt
 ·rintro e W' ⟨g1,Au,rfl,hX,_,yU,CZ,_⟩;refine⟨_,rfl,⟨some ⟨g1,0,none⟩,l.length,by rw[pY,A9],by rw[pY,A9];exact nV _,aj,λi hi=>?_⟩,hX⟩;have Hr:i<l.length:=by simp at hi;omega
  obtain⟨v,yB,Fx⟩:=CZ i Hr;refine⟨g1,0,Au,v,rfl,yU,by simp[World.cell?,yU,yB],?_⟩;rw[qI,oW hi]at Fx;exact Fx
end Go.Proofs.YtncnkiabjhhclaaGreatDoor
