import Derived.Laws.OwnMore
import Derived.Test.YtncnkiabjhhclaaGreatDoorBgJa08
set_option maxRecDepth 100000
set_option maxHeartbeats 8000000
set_option linter.all false
namespace Go.Proofs.YtncnkiabjhhclaaGreatDoor
variable{xs:List Value}{B sz:Nat}{ty:TypeId}
def uY:=@Go.Addr.add_lit
def Z0E{p:Prop}(h:p:=by
 rcases oQ.1 hg with rfl|hg
 ·obtain⟨es,c,hb,_⟩:=h.ix.wR;rw[hb]at e;cases e
 ·rcases oQ.1 hg with rfl|hg
  ·obtain⟨es,c,hb,_⟩:=h.ix.keys;rw[hb]at e;cases e
  ·cases hg):p:=h
open Go.RowKit
structure Jt (W0 W:World) (b x bv bs:Nat) (rv tv:Value) (bg:xk) (vs:List Value):Prop where
 low:vV W0 W
 obj:W.heap[b]? =some (.cells #[vU x,rv,tv] 281)
 ix:Eu W x bv bs bg.ix
 ne:bv≠bs
 rows:W.ownsRow W0.heap.size 78 1 rv bg.rows.length vs
 wR:vs.length=bg.rows.length/\∀i (h:i<vs.length) (h':i<bg.rows.length),xD W0 vs[i] bg.rows[i]
 times:W.ownsRow W0.heap.size 3 1 tv bg.rows.length (Ec bg.times)
 Rn:bg.times.length=bg.rows.length
 Ve:bg.ix.keys.length=bg.rows.length
 gb:W0.heap.size<=b
 gx:W0.heap.size<=x
 gv:W0.heap.size<=bv
 gs:W0.heap.size<=bs
def Ztr{w:World}{g:Nat}{v:Value}(h:w.heap[g]? =some (.cells #[v] ty)):w.cell? ⟨g,0+0,none⟩=some v:=by simp[World.cell?,h]
def Zeo(w:World)(v)(ty):(w.alloc (.cells #[v] ty)).cell? ((⟨w.heap.size,0,none⟩:Addr).add 0)=some v:=by simp[Addr.add]
def ZFN(w:World)(v)(ty)(o):((w.alloc (.cells #[v] ty)).alloc o).cell? ((⟨w.heap.size,0,none⟩:Addr).add 0)=some v:=by
 rw[uY];exact Ztr (J6 w (.cells #[v] ty) o).1
def ZFL(w:World)(v)(ty)(o):((w.alloc o).alloc (.cells #[v] ty)).cell? ((⟨w.heap.size+1,0,none⟩:Addr).add 0)=some v:=by
 rw[uY];exact Ztr (J6 w o (.cells #[v] ty)).2
def ZhU{w:World}{g:Nat}{v:Value}(h:w.heap[g]? =some (.cells #[v] ty)):w.cell? ((⟨g,0,none⟩:Addr).add 0)=some v:=by
 rw[uY];simp[World.cell?,h]
def ZcY{S}{w:World}{w'}{e n:Nat}{v:Value}(h:w.ownsRow B e sz v n xs)(hx:Ox S w w')(hs:∀g∈S,∀cu ty fr,w.heap[g]?≠some (.cells cu ty fr)):w'.ownsRow B e sz v n xs:=by
 refine⟨h.1,?_⟩;rcases h.2 with h0|⟨g,cap,cu,rfl,hg,hh,r⟩
 ·exact jg
 ·exact .inr ⟨g,cap,cu,rfl,hg,(hx.block g (wo hh) (λhm=>hs g hm _ _ _ hh)).trans hh,r⟩
def Zpx{w:World}{e m k g cap:Nat}{u:Value}(h:w.ownsRow B e sz (.slice (some ⟨g,0,none⟩) m cap) m xs):(w.setCell ⟨g,k,none⟩ u).ownsRow B e sz (.slice (some ⟨g,0,none⟩) m cap) m (xs.set k u):=(World.ownsRow.stored h k u).1
def ZAr(es)(c):Qc (.map es c):=λ_ _ _ e=>ai
def ZSU(cu):Qc (.cells cu 482):=λ_ _ _ e=>by cases e;exact⟨O,O,O⟩
def ZT8(ts:List Nat)(k n:Nat)(h:k<ts.length):(Ec ts).set k (.int .i64 ((ts[k]:Int)+n))=Ec (ts.modify k (·+n)):=by
 unfold Ec;apply List.ext_getElem
 ·simp
 ·intro i h1 h2;simp only[List.getElem_set,uj,um];by_cases e:k=i
  ·subst e;simp
  ·simp[e]
def ZEu(W0 W)(b x bv bs)(rv tv FE)(bg)(vs)(row)(n:Nat)(h:Jt W0 W b x bv bs rv tv bg vs)(hr:xD W0 FE row)(hl:row.length<=1000)(AA:bg.ix.wR.length<=90000)(zl:bg.rows.length<=90000)(hn:n≠0)(Jh:n<=1000000)(hN:((bg.ix.number row).at_ row).getD 0=bg.rows.length):
  Calls Tryz.prog 175 #[vU b,FE,.int .i64 n] W λe W'=>e= .returned (.tuple #[])/\∃Ri Tn wn,yJ W0.heap.size b (vU x) wn Ri Tn Ri Tn (bg.rows.length+1) (bg.rows.length+1) (vs++ [FE]) (Ec bg.times++ [.int .i64 n]) W'/\Eu wn x bv bs (bg.ix.number row)/\Ox [bv,bs] W wn:=by
 have HN:=vR (Zeh W x bv bs bg.ix FE row h.ix (hr.same (KT.vZ h.low) (ts:= [80]) ae) hl Z (by have:=h.Ve;omega) h.ne);rw[hN]at HN;have Ch:=xH h.obj;have DL:((n:Int)==0)=false:=bO
 have Lf:Hid (∀g∈ [bv,bs],∀cu ty fr,W.heap[g]?≠some (.cells cu ty fr)):=λg hg cu ty fr e=>by
  exact Z0E
 obtain⟨ra,rc,rfl,_⟩:=hr;obtain⟨ga,gc,rfl⟩:=yN h.rows;obtain⟨FU,D5,rfl⟩:=yN h.times;have HB:=vR h;clear h hN;unfold vU at *;go_enter Tryz.func175,Tryz.ntmps175;go_wp2_with fail;refine HN.out.mono ?_;rintro e w1 ⟨rfl,zH,xu⟩;have OY:yJ W0.heap.size b (vU x) w1 (.slice ga bg.rows.length gc) (.slice FU bg.rows.length D5) (.slice ga bg.rows.length gc) (.slice FU bg.rows.length D5) bg.rows.length bg.rows.length vs (Ec bg.times) w1:=by
  exact kT
 have V4:=vR (oG zH xu);obtain⟨yV,Aa,Ci,yj⟩:=OY.cells;have zi:=(wo OY.Bi);have GX:=vR OY;clear OY zH xu HN HB Lf;go_upto_region 3 with fail
 have q1:=λo=>(GX.out.alloc o).cells.1;have q2:=λo=>(GX.out.alloc o).cells.2.1;have q3:=λo o'=>((GX.out.alloc o).alloc o').cells.1;have q4:=λo o'=>((GX.out.alloc o).alloc o').cells.2.1;go_cut [22] (λ_ wx=>∃(g6 c6 g8 c8:Nat),yJ W0.heap.size b (vU x) w1 (.slice (some ⟨g6,0,none⟩) (bg.rows.length+1) c6) (.slice (some ⟨g8,0,none⟩) (bg.rows.length+1) c8) (.slice (some ⟨g6,0,none⟩) (bg.rows.length+1) c6) (.slice (some ⟨g8,0,none⟩) (bg.rows.length+1) c8) (bg.rows.length+1) (bg.rows.length+1) (vs++ [.slice ra row.length rc]) (Ec bg.times++ [.int .i64 0]) wx);case first=>
  go_region_law
    (first
     |(refine ZqH (n:=W0.heap.size) (b:=b) (px:=vU x) (wb:=w1) (r:=(.slice ga bg.rows.length gc)) (t:=(.slice FU bg.rows.length D5)) (rv:=(.slice ga bg.rows.length gc)) (tv:=(.slice FU bg.rows.length D5)) (m1:=bg.rows.length) (m2:=bg.rows.length) (vs:=vs) (ts:=Ec bg.times) rfl _ _ rfl aO rfl ⟨w1.heap.size,0,none⟩ ra row.length rc rfl (Zeo w1 _ _) Z ?_;intro g6 c6 w6 CG QG hz6;obtain⟨y1,y2,y3,y4⟩:=CG.cells;have Gf:=(wo CG.Bi);have y5:=λo=>(CG.alloc o).cells.1;have y6:=λo=>(CG.alloc o).cells.2.1;have y7:=λu=>(CG.BX u).cells.2.1;have y8:=λu=>(CG.BX u).cells.2.2.2;have y9:=λu o=>((CG.BX u).alloc o).cells.2.1)
     |(refine ZqH (n:=W0.heap.size) (b:=b) (px:=vU x) (wb:=w1) (r:=(.slice ga bg.rows.length gc)) (t:=(.slice FU bg.rows.length D5)) (rv:=(.slice ga bg.rows.length gc)) (tv:=(.slice FU bg.rows.length D5)) (m1:=bg.rows.length) (m2:=bg.rows.length) (vs:=vs) (ts:=Ec bg.times) rfl _ _ rfl aO rfl ⟨w1.heap.size,0,none⟩ ra row.length rc rfl (ZFN w1 _ _ _) Z ?_;intro g6 c6 w6 CG QG hz6;obtain⟨y1,y2,y3,y4⟩:=CG.cells;have Gf:=(wo CG.Bi);have y5:=λo=>(CG.alloc o).cells.1;have y6:=λo=>(CG.alloc o).cells.2.1;have y7:=λu=>(CG.BX u).cells.2.1;have y8:=λu=>(CG.BX u).cells.2.2.2;have y9:=λu o=>((CG.BX u).alloc o).cells.2.1;have hq6:=QG _ _ ((J6 w1 _ _).2))
     |(refine ZqH (n:=W0.heap.size) (b:=b) (px:=vU x) (wb:=w1) (r:=(.slice ga bg.rows.length gc)) (t:=(.slice FU bg.rows.length D5)) (rv:=(.slice ga bg.rows.length gc)) (tv:=(.slice FU bg.rows.length D5)) (m1:=bg.rows.length) (m2:=bg.rows.length) (vs:=vs) (ts:=Ec bg.times) rfl _ _ rfl aO rfl ⟨w1.heap.size+1,0,none⟩ ra row.length rc rfl (ZFL w1 _ _ _) Z ?_;intro g6 c6 w6 CG QG hz6;obtain⟨y1,y2,y3,y4⟩:=CG.cells;have Gf:=(wo CG.Bi);have y5:=λo=>(CG.alloc o).cells.1;have y6:=λo=>(CG.alloc o).cells.2.1;have y7:=λu=>(CG.BX u).cells.2.1;have y8:=λu=>(CG.BX u).cells.2.2.2;have y9:=λu o=>((CG.BX u).alloc o).cells.2.1;have hq6:=QG _ _ ((J6 w1 _ _).1))
     |(refine Ya (n:=W0.heap.size) (b:=b) (px:=vU x) (wb:=w1) (r:=(.slice ga bg.rows.length gc)) (t:=(.slice FU bg.rows.length D5)) (rv:=(.slice (some ⟨g6,0,none⟩) (bg.rows.length+1) c6)) (tv:=(.slice FU bg.rows.length D5)) (m1:=bg.rows.length+1) (m2:=bg.rows.length) (vs:=vs++ [.slice ra row.length rc]) (ts:=Ec bg.times) rfl _ _ rfl aO rfl ⟨w1.heap.size+1,0,none⟩ 0 rfl (ZhU hq6) Z ?_;intro g8 c8 w8 Dk hz8;obtain⟨z1,z2,z3,z4⟩:=Dk.cells;have z5:=λu=>(Dk.BX u).cells.2.1;have z6:=λu=>(Dk.BX u).cells.2.2.2)
     |(refine Ya (n:=W0.heap.size) (b:=b) (px:=vU x) (wb:=w1) (r:=(.slice ga bg.rows.length gc)) (t:=(.slice FU bg.rows.length D5)) (rv:=(.slice (some ⟨g6,0,none⟩) (bg.rows.length+1) c6)) (tv:=(.slice FU bg.rows.length D5)) (m1:=bg.rows.length+1) (m2:=bg.rows.length) (vs:=vs++ [.slice ra row.length rc]) (ts:=Ec bg.times) rfl _ _ rfl aO rfl ⟨w1.heap.size,0,none⟩ 0 rfl (ZhU hq6) Z ?_;intro g8 c8 w8 Dk hz8;obtain⟨z1,z2,z3,z4⟩:=Dk.cells;have z5:=λu=>(Dk.BX u).cells.2.1;have z6:=λu=>(Dk.BX u).cells.2.2.2)
     |(refine Ya (n:=W0.heap.size) (b:=b) (px:=vU x) (wb:=w1) (r:=(.slice ga bg.rows.length gc)) (t:=(.slice FU bg.rows.length D5)) (rv:=(.slice (some ⟨g6,0,none⟩) (bg.rows.length+1) c6)) (tv:=(.slice FU bg.rows.length D5)) (m1:=bg.rows.length+1) (m2:=bg.rows.length) (vs:=vs++ [.slice ra row.length rc]) (ts:=Ec bg.times) rfl _ _ rfl aO rfl ⟨w6.heap.size,0,none⟩ 0 rfl (Zeo w6 _ _) Z ?_;intro g8 c8 w8 Dk hz8;obtain⟨z1,z2,z3,z4⟩:=Dk.cells;have z5:=λu=>(Dk.BX u).cells.2.1;have z6:=λu=>(Dk.BX u).cells.2.2.2)
     |(refine Ya (n:=W0.heap.size) (b:=b) (px:=vU x) (wb:=w1) (r:=(.slice ga bg.rows.length gc)) (t:=(.slice FU bg.rows.length D5)) (rv:=(.slice (some ⟨g6,0,none⟩) (bg.rows.length+1) c6)) (tv:=(.slice FU bg.rows.length D5)) (m1:=bg.rows.length+1) (m2:=bg.rows.length) (vs:=vs++ [.slice ra row.length rc]) (ts:=Ec bg.times) rfl _ _ rfl aO rfl ⟨w6.heap.size,0,none⟩ 0 rfl iy Z ?_;intro g8 c8 w8 Dk hz8;obtain⟨z1,z2,z3,z4⟩:=Dk.cells;have z5:=λu=>(Dk.BX u).cells.2.1;have z6:=λu=>(Dk.BX u).cells.2.2.2)
     |(refine Ya (n:=W0.heap.size) (b:=b) (px:=vU x) (wb:=w1) (r:=(.slice (some ⟨g6,0,none⟩) (bg.rows.length+1) c6)) (t:=(.slice FU bg.rows.length D5)) (rv:=(.slice (some ⟨g6,0,none⟩) (bg.rows.length+1) c6)) (tv:=(.slice FU bg.rows.length D5)) (m1:=bg.rows.length+1) (m2:=bg.rows.length) (vs:=vs++ [.slice ra row.length rc]) (ts:=Ec bg.times) rfl _ _ rfl aO rfl ⟨w1.heap.size+1,0,none⟩ 0 rfl (ZhU hq6) Z ?_;intro g8 c8 w8 Dk hz8;obtain⟨z1,z2,z3,z4⟩:=Dk.cells;have z5:=λu=>(Dk.BX u).cells.2.1;have z6:=λu=>(Dk.BX u).cells.2.2.2)
     |(refine Ya (n:=W0.heap.size) (b:=b) (px:=vU x) (wb:=w1) (r:=(.slice (some ⟨g6,0,none⟩) (bg.rows.length+1) c6)) (t:=(.slice FU bg.rows.length D5)) (rv:=(.slice (some ⟨g6,0,none⟩) (bg.rows.length+1) c6)) (tv:=(.slice FU bg.rows.length D5)) (m1:=bg.rows.length+1) (m2:=bg.rows.length) (vs:=vs++ [.slice ra row.length rc]) (ts:=Ec bg.times) rfl _ _ rfl aO rfl ⟨w1.heap.size,0,none⟩ 0 rfl (ZhU hq6) Z ?_;intro g8 c8 w8 Dk hz8;obtain⟨z1,z2,z3,z4⟩:=Dk.cells;have z5:=λu=>(Dk.BX u).cells.2.1;have z6:=λu=>(Dk.BX u).cells.2.2.2)
     |(refine Ya (n:=W0.heap.size) (b:=b) (px:=vU x) (wb:=w1) (r:=(.slice (some ⟨g6,0,none⟩) (bg.rows.length+1) c6)) (t:=(.slice FU bg.rows.length D5)) (rv:=(.slice (some ⟨g6,0,none⟩) (bg.rows.length+1) c6)) (tv:=(.slice FU bg.rows.length D5)) (m1:=bg.rows.length+1) (m2:=bg.rows.length) (vs:=vs++ [.slice ra row.length rc]) (ts:=Ec bg.times) rfl _ _ rfl aO rfl ⟨w6.heap.size,0,none⟩ 0 rfl (Zeo w6 _ _) Z ?_;intro g8 c8 w8 Dk hz8;obtain⟨z1,z2,z3,z4⟩:=Dk.cells;have z5:=λu=>(Dk.BX u).cells.2.1;have z6:=λu=>(Dk.BX u).cells.2.2.2)
     |(refine Ya (n:=W0.heap.size) (b:=b) (px:=vU x) (wb:=w1) (r:=(.slice (some ⟨g6,0,none⟩) (bg.rows.length+1) c6)) (t:=(.slice FU bg.rows.length D5)) (rv:=(.slice (some ⟨g6,0,none⟩) (bg.rows.length+1) c6)) (tv:=(.slice FU bg.rows.length D5)) (m1:=bg.rows.length+1) (m2:=bg.rows.length) (vs:=vs++ [.slice ra row.length rc]) (ts:=Ec bg.times) rfl _ _ rfl aO rfl ⟨w6.heap.size,0,none⟩ 0 rfl iy Z ?_;intro g8 c8 w8 Dk hz8;obtain⟨z1,z2,z3,z4⟩:=Dk.cells;have z5:=λu=>(Dk.BX u).cells.2.1;have z6:=λu=>(Dk.BX u).cells.2.2.2))
  all_goals
   go_wp2_with fail;go_meet;exact⟨g6,c6,g8,c8,(Dk.BX _).ZSA _⟩
 case rest=>
  obtain⟨g6,c6,g8,c8,hT⟩:=hcut;obtain⟨wx,Ll⟩:∃wx,wx=wc:=⟨_,rfl⟩;subst Ll;obtain⟨p1,p2,p3,p4⟩:=hT.cells;have pv:=hT.o2.cells (g:=g8) rfl bg.rows.length (.int .i64 0) (by have:=GX.out.o2.1;rw[List.getElem?_append_right Z,show bg.rows.length-(Ec bg.times).length=0 from Z];rfl);rw[uY,o9]at pv;have HT:=vR hT;clear hT q1 q2 q3 q4 yV Aa Ci yj;have JY:Hid (∀u,u=Value.int .i64 (n:Int)->yJ W0.heap.size b (vU x) w1 (.slice (some ⟨g6,0,none⟩) (bg.rows.length+1) c6) (.slice (some ⟨g8,0,none⟩) (bg.rows.length+1) c8) (.slice (some ⟨g6,0,none⟩) (bg.rows.length+1) c6) (.slice (some ⟨g8,0,none⟩) (bg.rows.length+1) c8) (bg.rows.length+1) (bg.rows.length+1) (vs++ [.slice ra row.length rc]) (Ec bg.times++ [.int .i64 n]) (wx.setCell ⟨g8,bg.rows.length,none⟩ u)):=λu hu=>by
   have h:=HT.out;have Fu:=GX.out.o2.1;obtain⟨cu8,ZJ,Fs⟩:∃cu,wx.heap[g8]? =some (.cells cu 3)/\W0.heap.size<=g8:=by
    rcases h.o2.2 with⟨e,_⟩|⟨g,c,cu,e,hb,hh,_⟩
    ·cases e
    ·cases e;exact⟨cu,hh,hb⟩
   have ZfS:=Zpx (k:=bg.rows.length) (u:=u) h.o2;refine⟨Ia h.o1 (λe=>?_),?_,(uX _ _ _ _ (λe=>by have e2:b=g8:=e;have h3:=h.Bi;rw[e2,ZJ]at h3;cases h3)).trans h.Bi,λg ob k1 k2=>(uX _ _ _ _ (λe=>by have e2:g=g8:=e;have h3:=h.wJ g ob k1 k2;rw[e2,ZJ]at h3;exact(k1 _ _ _ (oN h3).symm).2.1 rfl)).trans (h.wJ g ob k1 k2),h.low.setCell (p:=⟨g8,bg.rows.length,none⟩) Fs _,by rw[Bf];exact h.le,h.gb⟩
   ·cases e;rcases h.o1.2 with⟨e,_⟩|⟨g,c,cu,e,hb,hh,_⟩
    ·cases e
    ·cases e;rw[ZJ]at hh;cases hh
   ·have:(Ec bg.times++ [Value.int .i64 0]).set bg.rows.length u=Ec bg.times++ [.int .i64 n]:=by
     rw[List.set_append_right _ _ Z];simp[show bg.rows.length-(Ec bg.times).length=0 from Z,hu]
    rw[<-this];exact ZfS
  have hfz:wx.frozen? ⟨g8,bg.rows.length,none⟩=false:=by
   rcases HT.out.o2.2 with⟨e,_⟩|⟨g,c,cu,e,hb,hh,_⟩
   ·cases e
   ·cases e;simp[World.frozen?,hh]
  go_wp2_with fail;go_end0;exact⟨rfl,_,_,w1,JY.out _ rfl,V4.out.1,V4.out.2⟩
end Go.Proofs.YtncnkiabjhhclaaGreatDoor
