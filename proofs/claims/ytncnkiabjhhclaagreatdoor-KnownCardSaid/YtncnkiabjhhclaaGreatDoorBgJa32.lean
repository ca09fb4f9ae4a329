import Derived.Test.YtncnkiabjhhclaaGreatDoorBgJa14
import Derived.Test.YtncnkiabjhhclaaGreatDoorBgJa31
set_option maxRecDepth 100000
set_option maxHeartbeats 8000000
set_option linter.all false
namespace Go.Proofs.YtncnkiabjhhclaaGreatDoor
open Go.Proofs.Tryz
variable{db:List (vS×Nat×Ar)}{wu:List vS}{B Db n0:Nat}{W W':World}{bg:xk}
open Go.RowKit
def PU(n0:Nat)(st:Aj)(Db:Nat)(W:World):Prop:=
 n0<=Db/\∃M B Ts,W.heap[Db]? =some (.cells #[.map (some M)] 51)/\n0<=M/\n0<=B/\Ts.length=st.names.length/\JS W M st.names.length (VN st.names Ts)/\∀i (h:i<st.all.length) (h':i<Ts.length),Nn B W Ts[i] st.all[i].2
def PU.up{n1:Nat}{st}(h:PU n0 st Db W)(hn:n1<=n0)(hx:∀g ob,n0<=g->W.heap[g]? =some ob->W'.heap[g]? =some ob):PU n1 st Db W':=by
 obtain⟨h0,M,B,Ts,h1,h2,h3,h4,h5,h6⟩:=h;obtain⟨es,ck,hm⟩:=h5.obj;exact⟨om hn h0,M,B,Ts,hx _ _ h0 h1,om hn h2,om hn h3,h4,Il h5 ((hx _ _ h2 hm).trans hm.symm),λi p q=>(h6 i p q).wJ (nV _) (λg ob hg e=>hx g ob (om h3 hg) e)⟩
def VK(tb:Qd):Ar:=⟨tb.wu.map λc=>(c.1,c.2.toNat),tb.rows⟩
theorem ZtW:∀cs k (h:k<cs.length),(Dt cs)[k*2]? =some (Ij cs[k].1)/\(Dt cs)[k*2+1]? =some (.int .i64 cs[k].2)
 |c::cs,0,h=>⟨rfl,rfl⟩
 |c::cs,k+1,h=>by
  have ih:=ZtW cs k ay;have e:∀j,(Dt (c::cs))[j+2]? =(Dt cs)[j]? :=λj=>by simp[Dt]
  rw[show(k+1)*2=k*2+2 from Z,show k*2+2+1=k*2+1+2 from Z,e,e];simpa using ih
def Nn.ZTI{T}{tb}(h:Nn B W T tb)(hc:∀c∈tb.wu,0<=c.2)(hn:(tb.wu.map (·.1)).Nodup):Ub W T (VK tb):=by
 obtain⟨cv,P,rv,rs,h1,h2,h3,h4,h5,h6,h7⟩:=h.obj;have hl:(VK tb).wu.length=tb.wu.length:=by simp[VK]
 have Bq:(VK tb).wu.map (·.1)=tb.wu.map (·.1):=by simp[VK]
 refine⟨?_,by rw[Bq];exact hn,by rw[hl];exact h.le,by rw[hl];exact h.pos⟩;rcases h3.2 with⟨_,h0⟩|⟨gc,cap,cur,rfl,hg,hh,Cv,_⟩
 ·have:=h.pos;omega
 obtain⟨es,ck,hm⟩:=h4.obj;refine⟨gc,cap,P,rv,by rw[hl];exact h2,(wo hh),(wo hm),λi hi=>?_,by rw[hl,Bq];exact h4,?_⟩
 ·have Ck:i<tb.wu.length:=by omega
  obtain⟨q1,q2⟩:=ZtW tb.wu i Ck;have k1:=h3.cells (g:=gc) rfl _ _ q1;have k2:=h3.cells (g:=gc) rfl _ _ q2;rw[oV,o9]at k1 k2;have e1:(VK tb).wu[i]=(tb.wu[i].1,tb.wu[i].2.toNat):=by simp[VK]
  rw[e1];refine⟨k1,?_⟩;rw[k2];have:=hc _ (oC Ck);rw[tQ this]
 ·rcases h5.2 with⟨rfl,h0⟩|⟨g,zY,Us,rfl,ML,hh',LA,hm',_⟩
  ·refine⟨none,0,by show Value.slice none 0 0= .slice none tb.rows.length 0;rw[h0],by show tb.rows.length<=0;omega,Z,λi hi=>by have:i<tb.rows.length:=hi;omega⟩
  ·refine⟨some ⟨g,0,none⟩,zY,rfl,LA,hm',λi hi=>?_⟩;have Ck:i<tb.rows.length:=hi;have KW:i<rs.length:=by omega
   have k1:=h5.cells (g:=g) rfl i rs[i] (by rw[oW KW]);rw[oV]at k1;obtain⟨g2,yZ,EZ,e1,e2,e3,e4,e5,e6⟩:=h7 i KW Ck;refine⟨g,0,Us,rs[i],rfl,hh',k1,some ⟨g2,0,none⟩,yZ,e1,e2,e3,λj hj=>⟨g2,0,EZ,rfl,e5,?_⟩⟩;have:=e6 j hj;simp[World.cell?,e5];exact this
def Mv(st:Aj)(Ts:List Nat):List (vS×Nat×Ar):=(st.all.zip Ts).map λp=>(p.1.1,p.2,VK p.1.2)
structure ZlQ (st:Aj):Prop where
 nd:st.names.Nodup
 ne:∀x∈st.names,x≠ []
 ty:∀t∈st.all,∀c∈t.2.wu,0<=c.2
 cn:∀t∈st.all,(t.2.wu.map (·.1)).Nodup
def PU.dbC{st}(h:PU n0 st Db W)(ok:ZlQ st):∃M Ts,W.cell? ⟨Db,0,none⟩=some (.map (some M))/\Ts.length=st.names.length/\JV W M (Mv st Ts):=by
 obtain⟨h0,M,B,Ts,h1,h2,h3,h4,h5,h6⟩:=h;have Xj:st.all.length=st.names.length:=by unfold Aj.names;rw[pY]
 have LC:(Mv st Ts).length=st.names.length:=by unfold Mv;simp;omega
 have ZK:(Mv st Ts).map (·.1)=st.names:=by
  unfold Mv Aj.names;rw[rD];have:((λx:vS×Nat×Ar=>x.1)∘λp:(vS×Qd)×Nat=>(p.1.1,p.2,VK p.1.2))=(λq:vS×Qd=>q.1)∘Prod.fst:=rfl;rw[this,<-rD,List.map_fst_zip Z]
 refine⟨M,Ts,dw,h4,?_,by rw[ZK];exact ok.nd,λx hx=>ok.ne x.1 (by rw[<-ZK];exact List.mem_map_of_mem hx),λx hx=>?_⟩
 ·rw[LC];have:(Mv st Ts).map (λx=>(x.1,nP x.2.1))=VN st.names Ts:=by
   unfold Mv VN Aj.names;rw[rD,List.zip_map_left,rD];try rfl
  rw[this];exact h5
 ·unfold Mv at hx;obtain⟨p,hp,rfl⟩:=qm.1 hx;obtain⟨i,hi,e⟩:=List.mem_iff_getElem.1 hp;have Kj:i<st.all.length:=by simp at hi;omega
  have Gg:i<Ts.length:=by simp at hi;omega
  have e1:p=(st.all[i],Ts[i]):=by rw[<-e];simp
  rw[e1];exact(h6 i Kj Gg).ZTI (ok.ty _ (oC Kj)) (ok.cn _ (oC Kj))
def ZVt(pd)(s)(st)(w)(hs:s.length<=4000)(hc:w.cell? pd=some (.string ⟨s.toArray⟩))(hS:I5 w)(hG:13<=w.heap.size)(hz:IX IP ⟨[],none⟩ (EW s)=some st):
  Calls prog 14 #[.pointer (some pd)] w λe w2=>∃Db,e= .returned (vU Db)/\vV w w2/\PU w.heap.size st Db w2:=by
 have HR:=vR (ZVc s w st hs hS hG hz);clear hz;unfold vU;go_enter func14,ntmps14;go_wp2_with fail;refine HR.out.mono ?_;rintro e w1 ⟨hB,M,rfl,hM,B,Qp,Ts,h1,h2,h3⟩;have HD:Hid (PU w.heap.size st w1.heap.size (w1.alloc (.cells #[.map (some M)] 51))):=by
  have hx:∀(g:Nat) (ob:Obj),w1.heap[g]? =some ob->(w1.alloc (.cells #[.map (some M)] 51)).heap[g]? =some ob:=λg ob e=>(ow w1 _ g (wo e)).trans e;obtain⟨es,ck,hm⟩:=h2.obj;exact⟨hB.size,M,B,Ts,oK w1 _,hM,Qp,h1,Il h2 ((hx _ _ hm).trans hm.symm),λi p q=>(h3 i p q).wJ (nV _) (λg ob _ e=>hx g ob e)⟩
 clear h1 h2 h3 HR;go_wp2;go_ret;exact⟨_,rfl,hB.alloc hB.size _,HD.out⟩
def ZVs(s)(st)(w)(hs:s.length<=4000)(hS:I5 w)(hG:13<=w.heap.size)(hz:IX IP ⟨[],none⟩ (EW s)=some st):
  Calls prog 8 #[.string ⟨s.toArray⟩] w λe w'=>∃Db,e= .returned (.tuple #[vU Db,.nilIface])/\vV w w'/\PU w.heap.size st Db w':=by
 have BD:∀(fn:Fn) (first cap:Array Value) (w:World),(Instr.makeFunc fn first cap).run prog w= .ok (.func fn first cap) w:=λ_ _ _ _=>rfl;have HZ:=vR hz;clear hz;unfold vU;go_enter func8,ntmps8;go_wp2_with fail;have wE:vV w (w.alloc (.cells #[.string ⟨s.toArray⟩] 9)):=(nW _ w).alloc (nV _) _;have yA:(w.alloc (.cells #[.string ⟨s.toArray⟩] 9)).heap.size=w.heap.size+1:=ae
 have Qo:vV w (EY (w.alloc (.cells #[.string ⟨s.toArray⟩] 9)) 1):=(wE.alloc Z _).alloc ah _;have ZjG:(EY (w.alloc (.cells #[.string ⟨s.toArray⟩] 9)) 1).heap.size=w.heap.size+3:=bM
 have q0:(EY (w.alloc (.cells #[.string ⟨s.toArray⟩] 9)) 1).heap[w.heap.size]? =some (.cells #[.string ⟨s.toArray⟩] 9):=(Sm w.heap _ _ _).1;have HQ0:=vR (cell_of_heap q0);clear q0;refine(ZFV ⟨w.heap.size,0,none⟩ 1 (w.alloc (.cells #[.string ⟨s.toArray⟩] 9)) (λq w2=>∃Db,q=⟨Db,0,none⟩/\PU (w.heap.size+3) st Db w2) (λb w2=>False) ?_).mono ?_
 ·refine(ZVt ⟨w.heap.size,0,none⟩ s st _ hs HQ0.out (hS.below Qo hG) (by simp[EY];omega) HZ.out).mono ?_;rintro e w2 ⟨Db,rfl,hB,h⟩;rw[ZjG]at h;exact⟨hB.mono (by simp[EY]<;>omega),.inl ⟨_,rfl,Db,rfl,h⟩⟩
 ·rintro e w' ⟨w2,hB,(⟨q,⟨Db,rfl,hDb⟩,rfl,rfl⟩|⟨b,hf,_⟩)⟩
  ·have HDb:Hid (PU w.heap.size st Db (w2.setCell ⟨w.heap.size+1+1,0,none⟩ .nilIface)):=hDb.up Z (λg ob hg e=>(ou w2 ⟨w.heap.size+1+1,0,none⟩ _ g (by show g≠w.heap.size+1+1;omega)).trans e);clear hDb;go_wp2;go_ret2;refine⟨_,rfl,?_,?_⟩
   ·exact(Qo.trans (hB.mono aX)).setCell (p:=⟨w.heap.size+1+1,0,none⟩) (show w.heap.size<=w.heap.size+1+1 by omega) _
   ·first|exact HDb.out|(rw[yA];exact HDb.out)
  ·exact hf.elim
section
open NT
def Ol:TX->Bool
 | .lit _=>true| .zO _ s=>decide (s.length<=90000)| .neg e=>Ol e| .arith _ l r=>Ol l&&Ol r| .star _=>true| .agg _ e=>Ol e
theorem Q6:∀x,Ol x=true->Gp x
 | .lit _,_=>trivial
 | .zO _ s,h=>qw (p:=s.length<=90000) h
 | .neg e,h=>Q6 e h
 | .arith _ l r,h=>by rw[Ol,oJ]at h;exact⟨Q6 l h.1,Q6 r h.2⟩
 | .star _,_=>trivial
 | .agg _ e,h=>Q6 e h
def isN:FC->Bool
 | .nil=>true
 | _=>false
def Zpf{c:FC}(h:(!isN c)=true):c≠.nil:=by rintro rfl;cases h
def Te:FC->Bool
 | .nil=>true| .BS _ l r=>Te l&&(Te r&&(!isN l&& !isN r))| .xJ c=>Te c&& !isN c| .cmp _ l r=>Ol l&&Ol r| .Fy x _=>Ol x
theorem ZcP:∀c,Te c=true->Q5 c
 | .nil,_=>trivial
 | .BS _ l r,h=>by
  rw[Te,oJ,oJ,oJ]at h;exact⟨ZcP l h.1,ZcP r h.2.1,Zpf h.2.2.1,Zpf h.2.2.2⟩
 | .xJ c,h=>by rw[Te,oJ]at h;exact⟨ZcP c h.1,Zpf h.2⟩
 | .cmp _ l r,h=>by rw[Te,oJ]at h;exact⟨Q6 l h.1,Q6 r h.2⟩
 | .Fy x _,h=>Q6 x h
def Vl:FQ->Bool
 | .yO _ vY ps wh gs hv=>decide (vY.length<=400)&&(vY.all (λp=>Ol p.1)&&(decide (ps.length<=400)&&(ps.all (λp=>decide (p.1.length<=1000)&&decide (p.2.length<=1000))&&(decide (gs.length<=400)&&(gs.all (λp=>decide (p.2.length<=1000))&&(Te wh&&Te hv))))))
 | .Ai l _ r=>Vl l&&(Vl r&& !Qn r)
theorem ZcQ:∀q,Vl q=true->Px q
 | .yO _ vY ps wh gs hv,h=>by
  rw[Vl]at h;simp only[oJ,oL,pR]at h;obtain⟨h1,h2,h3,h4,h5,h6,h7,h8⟩:=h;exact⟨h1,λp hp=>Q6 _ (h2 p hp),h3,h4,h5,h6,ZcP _ h7,ZcP _ h8⟩
 | .Ai l _ r,h=>by
  rw[Vl,oJ,oJ]at h;exact⟨ZcQ l h.1,ZcQ r h.2.1,by simpa using h.2.2⟩
def ZcS:TC->Bool
 | .flat _=>false
 | .xJ c=>ZcS c
 | .zK q=>Vl q&&decide (IV q<=400)
 | .zU x _ q=>Ol x&&(decide (CS x<=400)&&(Vl q&&decide (IV q<=400)))
 | .BK x _ h q=>Ol x&&(decide (CS x<=400)&&(Vl q&&(decide (IV q<=400)&&decide (h= [97,110,121]\/h= [97,108,108]))))
theorem Zy4:∀c,ZcS c=true->okT c
 | .flat _,h=>aS
 | .xJ c,h=>Zy4 c h
 | .zK q,h=>by
  rw[ZcS]at h;simp only[oJ,oL]at h;exact⟨ZcQ q h.1,h.2⟩
 | .zU x _ q,h=>by
  rw[ZcS]at h;simp only[oJ,oL]at h;exact⟨Q6 x h.1,h.2.1,ZcQ q h.2.2.1,h.2.2.2⟩
 | .BK x _ k q,h=>by
  rw[ZcS]at h;simp only[oJ,oL]at h;exact⟨Q6 x h.1,h.2.1,ZcQ q h.2.2.1,h.2.2.2.1,h.2.2.2.2⟩
def wqB(q:WQ):Bool:=decide (q.vY.length<=400)&&(q.vY.all (λp=>Ol p.1)&&(decide (q.ps.length<=400)&&(q.ps.all (λp=>decide (p.1.length<=1000)&&decide (p.2.length<=1000))&&(decide (q.gs.length<=400)&&(q.gs.all (λp=>decide (p.2.length<=1000))&&(Te q.hv&&(ZcS q.c&&(decide (F5 q.hv+La q.vY<=400)&& !KP q.vY q.gs))))))))
def ZUW{q:WQ}(h:wqB q=true):ZlV q:=by
 unfold wqB at h;simp only[oJ,oL,pR]at h;obtain⟨h1,h2,h3,h4,h5,h6,h7,h8,h9,Nv⟩:=h;exact⟨h1,λp hp=>Q6 _ (h2 p hp),h3,h4,h5,h6,ZcP _ h7,Zy4 _ h8,h9,by simpa using Nv⟩
def Zib(wu:List vS)(r:xk×Nat):Option (Dr×List vS×xk):=
 if r.2≠0 then some (.error ((r.2:Int),0),wu,r.1)else E9 (decide (r.1.rows.length<=2000)&&(r.1.rows.all (λx=>decide (x.length<=1000))&&decide ((zw r.1).length<=2000))) (some (.ok (wu,zw r.1),wu,r.1))
def Zus{ZtY:List vS}{bg':xk}{met:Nat}{R:Dr}(h:Zib wu (bg,met)=some (R,ZtY,bg')):TA wu bg met R/\ZtY=wu/\bg'=bg:=by
 unfold Zib at h;split at h
 ·rename_i hm;cases h;exact⟨.inl ⟨hm,rfl⟩,rfl,rfl⟩
 ·rename_i hm;obtain⟨h1,h⟩:=Gb h;simp only[oJ,oL,pR]at h1;cases h;exact⟨.inr ⟨bK,rfl,h1.1,h1.2.1,h1.2.2⟩,rfl,rfl⟩
def Zy6(db:List (vS×Nat×Ar))(q:FQ):Option (Dr×List vS×xk):=E9 (Vl q&&decide (IV q<=400)) (match GM db q none false with
 |none=>some (.error (5,0), [[]],{})
 |some r=>if r.2.2.2 then some (.error (6,0), [[]],{})else E9 (decide (0<r.2.1.length)) ((cq r.1 []).bind (Zib (r.2.1.map (·.1)))))
def ZPI{q:FQ}{R:Dr}(h:Zy6 db q=some (R,wu,bg)):Px q/\IV q<=400/\0<wu.length/\Zdo db q R wu bg:=by
 obtain⟨h1,h⟩:=Gb h;simp only[oJ,oL]at h1;refine⟨ZcQ _ h1.1,h1.2,?_⟩;cases hq:GM db q none false with
 |none=>rw[hq]at h;cases h;exact⟨ae,.scope hq⟩
 |some r=>
  rw[hq]at h;simp only at h;split at h
  ·rename_i hc;cases h;exact⟨ae,.type r hq hc⟩
  ·rename_i hc;obtain⟨h2,h⟩:=Gb h;obtain⟨⟨bg',met⟩,h3,h⟩:=Dh h;obtain⟨h4,rfl,rfl⟩:=Zus h;exact⟨bP,.run r met hq aD (Zh0 _ _ _ _ h3) h4⟩
def Zy8(db:List (vS×Nat×Ar))(q:WQ):Option (Dr×List vS×xk):=E9 (wqB q) (match XZ db q with
 |none=>some (.error (5,0), [[]],{})
 |some r=>if r.2.2.2 then some (.error (6,0), [[]],{})else E9 (decide (0<r.2.1.length)) ((M6 db q.ps).bind λxs=>(GQ db q.c xs false).bind λu=>(wiC r.1 u.2.1 u.2.2.1).bind (Zib (r.2.1.map (·.1)))))
def ZPJ{q:WQ}{R:Dr}(h:Zy8 db q=some (R,wu,bg)):ZlV q/\0<wu.length/\Zd5 db q R wu bg:=by
 obtain⟨h1,h⟩:=Gb h;refine⟨ZUW h1,?_⟩;cases hq:XZ db q with
 |none=>rw[hq]at h;cases h;exact⟨ae,.scope hq⟩
 |some r=>
  rw[hq]at h;simp only at h;split at h
  ·rename_i hc;cases h;exact⟨ae,.type r hq hc⟩
  ·rename_i hc;obtain⟨h2,h⟩:=Gb h;obtain⟨xs,h3,h⟩:=Dh h;obtain⟨⟨p,pq,es,cl⟩,h4,h⟩:=Dh h;obtain⟨⟨bg',met⟩,h5,h⟩:=Dh h;obtain⟨h6,rfl,rfl⟩:=Zus h;exact⟨bP,.run r met xs p pq es cl hq aD h3 h4 (ZUO h5) h6⟩
def Zy7(db:List (vS×Nat×Ar))(t:Tr):Option (Dr×List vS×xk):=match EG t with
 |some q=>Zy6 db q
 |none=>(IW t).bind (Zy8 db)
def Zaw(db:List (vS×Nat×Ar))(s:vS):Option Dr:=match Ic s with
 | .error n=>some (.error (2,(n:Int)))
 | .ok l=>if vW (PK.P query) (l.map wI)=some []then E9 (!deep l) (match wM (20*l.length+100) (PT.P query) l with
   |some (t, [])=>(Zy7 db t).map (·.1)
   |_=>none)
  else some (.error (3,0))
def ZRn(pd pq pl:Nat)(Db)(M:Nat)(s:vS)(w:World)(R:Dr)(db)(hd:w.heap[pd]? =some (.cells #[vU Db] 33))(hm:w.cell? ⟨Db,0,none⟩=some (.map (some M)))(hq:w.heap[pq]? =some (.cells #[.string ⟨s.toArray⟩] 9))(hl:w.heap[pl]? =some (.cells #[.slice none 0 0] 32))(hs:s.length<=90000)(hE:Lh w)(Fg:I5 w)(hD:JV w M db)(h:Zaw db s=some R):
  Calls prog 19 #[vU pd,vU pq,vU pl] w λe w2=>J4 R w e w2\/∃r wu rows,e= .returned (vU r)/\vV w w2/\R= .ok (wu,rows)/\Jz w2 r wu rows:=by
 unfold Zaw at h;have fin:∀{wu:List vS} {bg:xk} {e:Ending} {w2:World},(J4 R w e w2\/∃r,e= .returned (vU r)/\vV w w2/\R= .ok (wu,zw bg)/\Jz w2 r wu (zw bg))->(J4 R w e w2\/∃r wu rows,e= .returned (vU r)/\vV w w2/\R= .ok (wu,rows)/\Jz w2 r wu rows):=λh=>h.imp id λ⟨r,h1,h2,h3,h4⟩=>⟨r,_,_,h1,h2,h3,h4⟩;have bad:∀k a,R= .error (k,a)->((∃n,Ic s= .error n/\k=2/\a=n)\/(∃l,Ic s= .ok l/\vW (PK.P query) (l.map wI)≠some []/\k=3/\a=0))->Calls prog 19 #[vU pd,vU pq,vU pl] w λe w2=>J4 R w e w2\/∃r wu rows,e= .returned (vU r)/\vV w w2/\R= .ok (wu,rows)/\Jz w2 r wu rows:=λk a e hb=>by
  subst e;exact(Zl3 pd pq pl Db M s w _ [[]] {} (λ_ _=>False) (λ_ _=>False) hd hm hq hl (ZSN s w hs hE Fg k a hb (λ_ _=>False)) (λ_ _ _ _ h=>h.elim) (λ_ _ _ h _=>h) (λ_ _ _ h _=>h) (λ_ _ _ _ h=>h.elim) ae).mono λe w2 h=>fin h
 cases hw:Ic s with
 |error n=>rw[hw]at h;cases h;exact bad 2 n rfl (.inl ⟨n,hw,rfl,rfl⟩)
 |ok l=>
  rw[hw]at h;simp only at h;split at h
  ·rename_i ha;obtain⟨h1,h⟩:=Gb h;have Zwa:deep l=false:=by simpa using h1
   split at h
   ·rename_i t hp;obtain⟨⟨R',wu,bg⟩,h2,rfl⟩:=MU h;unfold Zy7 at h2;cases hf:EG t with
    |some q=>
     rw[hf]at h2;obtain⟨k1,k2,k3,k4⟩:=ZPI h2;exact(ZRk pd pq pl Db M s w R' wu bg db l t _ q hd hm hq hl hs hE Fg hD hw ha Zwa hp hf k1 k2 k3 k4).mono λe w2 h=>fin h
    |none=>
     rw[hf]at h2;obtain⟨q,h3,h4⟩:=Dh h2;obtain⟨k1,k3,k4⟩:=ZPJ h4;exact(ZRo pd pq pl Db M s w R' wu bg db l t _ q hd hm hq hl hs hE Fg hD hw ha Zwa hp h3 k1 k3 k4).mono λe w2 h=>fin h
   ·cases h
  ·rename_i ha;cases h;exact bad 3 0 rfl (.inr ⟨l,hw,ha,rfl,rfl⟩)
def ZP6(d s:vS)(st:Aj)(R:Dr)(w)(hd:d.length<=4000)(hs:s.length<=90000)(hE:Lh w)(Fg:I5 w)(MQ:KD w)(hT:w.cell? ⟨0,0,none⟩=some (.iface 149 (.agg #[.pointer (some ⟨13,35,none⟩)])))(hz:IX IP ⟨[],none⟩ (EW d)=some st)(ok:ZlQ st)(hR:∀Ts,Ts.length=st.names.length->Zaw (Mv st Ts) s=some R)(hO:Zhy R):
  Calls prog 6 #[.string ⟨d.toArray⟩,.string ⟨s.toArray⟩,.slice none 0 0] w (ZhB R w):=by
 have h1:=ZVs d st w hd Fg hE.zR hz;have h2:∀w1 Db,vV w w1->PU w.heap.size st Db w1->Calls prog 10 #[vU Db,.string ⟨s.toArray⟩,.slice none 0 0] w1 (ZhA R w1):=λw1 Db hB hDb=>by
  refine ZEz Db s w1 R (λw2 pd pq pl wK k1 k2 k3=>?_);obtain⟨M,Ts,c1,c2,c3⟩:=hDb.dbC ok;have Ei:=hB.trans (wK.mono hB.size);exact ZRn pd pq pl Db M s w2 R (Mv st Ts) k1 (wT wK (oH w1 _ c1) c1) k2 k3 hs (hE.below Ei) (Fg.below Ei hE.zR) (c3.below wK) (hR Ts c2)
 cases R with
 |error e=>obtain⟨k,a⟩:=e;exact ZQH d s k a w _ hO.1 hO.2 hE.zR hT (h1.mono λe w1 ⟨Db,q1,q2,q3⟩=>⟨Db,q1,q2,q3⟩) h2
 |ok a=>obtain⟨wu,rows⟩:=a;exact ZQG d s wu rows w _ hO hE.zR MQ (h1.mono λe w1 ⟨Db,q1,q2,q3⟩=>⟨Db,q1,q2,q3⟩) h2
end
def Zkx:vS:= [116,97,98,108,101,32,116,111,119,110,32,105,100,32,105,110,116,32,110,97,109,101,32,116,101,120,116,10,114,111,119,32,49,32,39,79,115,108,111,39,10,114,111,119,32,50,32,39,82,111,109,101,39,10,114,111,119,32,51,32,110,117,108,108,10,116,97,98,108,101,32,112,101,114,115,111,110,32,110,97,109,101,32,116,101,120,116,32,116,111,119,110,32,105,110,116,32,97,103,101,32,105,110,116,10,114,111,119,32,39,65,110,110,39,32,49,32,51,48,10,114,111,119,32,39,66,111,39,32,49,32,52,49,10,114,111,119,32,39,67,121,39,32,50,32,110,117,108,108,10,114,111,119,32,39,68,105,39,32,110,117,108,108,32,51,48,10,114,111,119,32,39,66,111,39,32,49,32,52,49,10,116,97,98,108,101,32,110,111,110,101,32,120,32,105,110,116,10]
def ZmG(o:Option Dr)(f:PW):Bool:=match o with
 |none=>false
 |some (.error (k,a))=>decide (1<=k)&&(decide (k<=9)&&(decide (f.e=k)&&(decide (f.at_=a)&&(decide (f.wu= [])&&decide (f.rows= [])))))
 |some (.ok (c,rs))=>decide (f.e=0)&&(decide (f.at_=0)&&(decide (f.wu=c)&&(decide (f.rows=rs.map F6)&&(decide (0<c.length)&&(decide (c.length<=1000)&&(c.all (λx=>decide (x.length<=1000))&&(decide (rs.length<=2000)&&rs.all λr=>(decide (0<r.length)&&decide (r.length<=1000))&&r.all λx=>okV x&&decide ((Rq x).length<=1000))))))))
def VD:Aj:=((IX IP ⟨[],none⟩ (EW Zkx)).getD ⟨[],none⟩)
def ZHQ{o}{f:PW}(h:ZmG o f=true):∃R,o=some R/\Zhy R/\match R with
  | .error (k,a)=>f.e=k/\f.at_=a/\f.wu= []/\f.rows= []
  | .ok (c,rs)=>f.e=0/\f.at_=0/\f.wu=c/\f.rows=rs.map F6:=by
 unfold ZmG at h;split at h
 ·cases h
 ·rename_i k a;simp only[oJ,oL]at h;exact⟨_,rfl,⟨h.1,h.2.1⟩,h.2.2⟩
 ·rename_i c rs;simp only[oJ,oL,pR]at h;obtain⟨h1,h2,h3,h4,h5,h6,h7,h8,h9⟩:=h;exact⟨_,rfl,⟨h5,h6,h7,⟨h8,λr hr=>(h9 r hr).1,λr hr x hx=>(h9 r hr).2 x hx⟩⟩,h1,h2,h3,h4⟩
def ZSQ:IX IP ⟨[],none⟩ (EW Zkx)=some VD:=by kernel_rfl
def ZSP:ZlQ VD:=⟨O,O,O,O⟩
def ZSO:VD.names.length=3:=by kernel_rfl
def Zqg:Option Dr->Option Dr->Bool
 |some (.error p),some (.error q)=>decide (p.1=q.1)&&decide (p.2=q.2)
 |some (.ok p),some (.ok q)=>decide (p.1=q.1)&&decide (p.2=q.2)
 |_,_=>false
def ZSi{x}{y:Option Dr}(h:Zqg x y=true):x=y:=by
 unfold Zqg at h;split at h
 ·simp only[oJ,oL]at h;rw[Prod.ext h.1 h.2]
 ·simp only[oJ,oL]at h;rw[Prod.ext h.1 h.2]
 ·cases h
def ZHS(a b c:Nat):(Kq Tryz.f4).all (λf=>decide (f.q.length<=90000)&&(ZmG (Zaw (Mv VD [0,0,0]) f.q) f&&Zqg (Zaw (Mv VD [a,b,c]) f.q) (Zaw (Mv VD [0,0,0]) f.q)))=true:=by kernel_rfl
def Zuq(f:PW)(hf:f∈Kq Tryz.f4):f.q.length<=90000/\∃R,Zhy R/\(∀Ts,Ts.length=VD.names.length->Zaw (Mv VD Ts) f.q=some R)/\match R with
  | .error (k,a)=>f.e=k/\f.at_=a/\f.wu= []/\f.rows= []
  | .ok (c,rs)=>f.e=0/\f.at_=0/\f.wu=c/\f.rows=rs.map F6:=by
 have h:=λa b c=>pR.1 (ZHS a b c) f hf;simp only[oJ,oL]at h;obtain⟨h1,h2,_⟩:=h 0 0 0;obtain⟨R,h3,h4,h5⟩:=ZHQ h2;refine⟨h1,R,h4,λTs hT=>?_,h5⟩;rw[ZSO]at hT;match Ts,hT with
 | [a,b,c],_=>exact(ZSi (h a b c).2.2).trans h3
def ZNP(f:PW)(hf:f∈Kq Tryz.f4)(w)(hE:Lh w)(Fg:I5 w)(MQ:KD w)(hT:w.cell? ⟨0,0,none⟩=some (.iface 149 (.agg #[.pointer (some ⟨13,35,none⟩)]))):
  ∃R:Dr,(match R with
   | .error (k,a)=>f.e=k/\f.at_=a/\f.wu= []/\f.rows= []
   | .ok (c,rs)=>f.e=0/\f.at_=0/\f.wu=c/\f.rows=rs.map F6)/\Calls prog 6 #[.string ⟨Zkx.toArray⟩,.string ⟨f.q.toArray⟩,.slice none 0 0] w (ZhB R w):=by
 obtain⟨h1,R,h2,h3,h4⟩:=Zuq f hf;exact⟨R,h4,ZP6 Zkx f.q VD R w O h1 hE Fg MQ hT ZSQ ZSP h3 h2⟩
def GY(W:World)(v:Value)(l:List vS):Prop:=∃p cap,v= .slice p l.length cap/\∀i (h:i<l.length),∃g o,p=some ⟨g,o,none⟩/\W.cell? ⟨g,o+i,none⟩=some (.string ⟨l[i].toArray⟩)
def GY.Zy3{v:Value}{l:List vS}(h:W.ownsRow B 9 1 v l.length (DV l)):GY W v l:=by
 by_cases h0:0<l.length
 ·obtain⟨g,o,cap,cu,e,_,hc⟩:=Zpz h h0;exact⟨_,cap,e,λi hi=>⟨g,o,rfl,hc i hi⟩⟩
 ·rcases h.2 with⟨rfl,h1⟩|⟨g,cap,cur,rfl,_⟩
  ·exact⟨none,0,by rw[h1],λi hi=>Z⟩
  ·exact⟨_,cap,rfl,λi hi=>Z⟩
def GY.nil(W):GY W (.slice none 0 0) []:=⟨none,0,rfl,λi hi=>dD⟩
def GY.Zy1{g:Nat}{l}(h:W.heap[g]? =some (F4 l)):GY W (Rl g l) l:=⟨_,_,rfl,λi hi=>⟨g,0,rfl,by
 unfold F4 at h;simp only[World.cell?,h,o9];simp[hi]⟩⟩
def Zyd(W)(av bv)(l)(ha:GY W av l)(hb:GY W bv l)(hl:l.length<=2000):
  Calls prog 7 #[av,bv] W λe W'=>e= .returned (.bool true)/\vV W W':=by
 obtain⟨p,pc,rfl,hp⟩:=ha;obtain⟨q,qc,rfl,hq⟩:=hb;have HP:=vR hp;have HQ:=vR hq;clear hp hq;go_enter func7,ntmps7;go_wp2_with fail;go_loopg [5] (l.length+1) (λgk iv wr=>∃k:Nat,k<=l.length/\gk=l.length-k+1/\iv= .int .i64 k/\vV W wr);case atStart=>exact⟨0,Z,Z,rfl,nW _ _⟩
 case round=>
  obtain⟨k,hk,rfl,rfl,hB⟩:=hrel;by_cases hlt:k<l.length
  ·obtain⟨g,o,rfl,yV⟩:=HP.out k hlt;have yV:=wT hB (oH _ _ yV) yV;obtain⟨g',o',rfl,Aa⟩:=HQ.out k hlt;have Aa:=wT hB (oH _ _ Aa) Aa;go_wp2_with fail;go_region;go_wp2_with fail;go_roundg (l.length-(k+1)+1);case measure=>omega
   case rel=>exact⟨k+1,Z,rfl,ak,FR hB⟩
  ·obtain rfl:k=l.length:=by omega
   exact kM
def ZM8(W)(c:Int)(h1: -9223372036854775808<=c)(h2:c<=9223372036854775807):
  Calls prog 5 #[.int .i64 c,.int .i64 56] W λe W'=>(∃k:Nat,k<56/\e= .returned (.int .i64 k))/\W'=W:=by
 go_enter func5,ntmps5;by_cases hc:c<0
 ·go_wp2_with fail;go_ret;refine⟨⟨(-(c+1)%56).toNat,Z,?_⟩,rfl⟩;rw[<-Int.neg_tmod,Int.tmod_eq_emod_of_nonneg Z,tQ Z];try rfl
 ·go_wp2_with fail;go_ret;exact⟨⟨(c%56).toNat,Z,by rw[tQ Z];try rfl⟩,rfl⟩
def ZDi(l:List PW)(S:Nat)(W:World):Prop:=∀k (h:k<l.length),∃gc gr,W.cell? ⟨S,k*5,none⟩=some (.string ⟨l[k].q.toArray⟩)/\W.cell? ⟨S,k*5+1,none⟩=some (.slice (some ⟨gc,0,none⟩) l[k].wu.length l[k].wu.length)/\W.cell? ⟨S,k*5+2,none⟩=some (.slice (some ⟨gr,0,none⟩) l[k].rows.length l[k].rows.length)/\W.cell? ⟨S,k*5+3,none⟩=some (.int .i64 l[k].e)/\W.cell? ⟨S,k*5+4,none⟩=some (.int .i64 l[k].at_)/\GY W (Rl gc l[k].wu) l[k].wu/\GY W (Rl gr l[k].rows) l[k].rows
def ZNS(W):Calls prog 4 #[] W λe W'=>∃S,e= .returned (.slice (some ⟨S,0,none⟩) 56 56)/\vV W W'/\ZDi (Kq Tryz.f4) S W':=by
 refine(ZNQ W).mono ?_;rintro e W' ⟨rfl,rfl⟩;generalize Kq Tryz.f4=l;obtain⟨h1,h2,h3,ds,h4,h5,h6⟩:=Zyq l W [];rw[List.nil_append]at h4;have hB:vV W ((Jk l W).1.alloc (.cells (Jk l W).2.toArray 26)):=h2.alloc h2.size _;refine⟨_,rfl,hB,λk hk=>?_⟩;have hn:=oK (Jk l W).1 (.cells (Jk l W).2.toArray 26);have cc:∀j v,ds[j]? =some v->((Jk l W).1.alloc (.cells (Jk l W).2.toArray 26)).cell? ⟨(Jk l W).1.heap.size,j,none⟩=some v:=λj v e=>by
  simp only[World.cell?,hn];unfold Jk;rw[h4];simpa using e
 have ob:∀g o,(Jk l W).1.heap[g]? =some o->((Jk l W).1.alloc (.cells (Jk l W).2.toArray 26)).heap[g]? =some o:=λg o e=>(ow _ _ _ (wo e)).trans e;obtain⟨a1,a2,a3,a4,a5⟩:=h6 k hk;have e5:k*5=5*k:=Z
 rw[e5];exact⟨_,_,cc _ _ a1,cc _ _ a2,cc _ _ a3,cc _ _ a4,cc _ _ a5,GY.Zy1 (ob _ _ (h3 k hk).1),GY.Zy1 (ob _ _ (h3 k hk).2)⟩
def ZFS{P}{f}{a b:Array Value}{w}{Q}(e:a=b)(h:Calls P f a w Q):Calls P f b w Q:=e▸h
def GY.below{v}{l}(h:GY W v l)(hB:vV W W'):GY W' v l:=by
 obtain⟨p,cap,e,hc⟩:=h;refine⟨p,cap,e,λi hi=>?_⟩;obtain⟨g,o,e,hc⟩:=hc i hi;exact⟨g,o,e,wT hB (oH _ _ hc) hc⟩
def ZHR(f:PW)(hf:f∈Kq Tryz.f4):f.wu.length<=2000/\f.rows.length<=2000:=by
 obtain⟨_,R,h2,_,h4⟩:=Zuq f hf;cases R with
 |error p=>obtain⟨_,_,q3,q4⟩:=h4;rw[q3,q4];exact⟨ae,ae⟩
 |ok p=>obtain⟨_,_,q3,q4⟩:=h4;obtain⟨_,k2,_,k4⟩:=h2;have:=k4.len;rw[q3,q4,pY];exact⟨Z,this⟩
def ZM5(W)(c:Int)(h1: -9223372036854775808<=c)(h2:c<=9223372036854775807)(hE:Lh W)(Fg:I5 W)(MQ:KD W)(hT:W.cell? ⟨0,0,none⟩=some (.iface 149 (.agg #[.pointer (some ⟨13,35,none⟩)]))):
  Calls prog 3 #[.int .i64 c] W λe W'=>e= .returned (.bool true)/\vV W W':=by
 have HE:=vR hE;have HS:=vR Fg;have HW:=vR MQ;have HT:=vR hT;have HK:=vR (ZNS W);clear hE Fg MQ hT;go_enter func3,ntmps3;go_wp2_with fail;refine HK.out.mono ?_;rintro e W1 ⟨S,rfl,wE,hK⟩;have HP:=vR (λw=>ZM8 w c h1 h2);have HKn:=vR hK;clear HK hK;go_wp2_with fail;refine(HP.out _).mono ?_;rintro e W2 ⟨⟨k,hk,rfl⟩,rfl⟩;have zl:k<(Kq Tryz.f4).length:=by rw[ZNT];exact hk
 obtain⟨gc,gr,c0,c1,c2,c3,c4,r1,r2⟩:=HKn.out k zl;have hfm:=oC zl;generalize hf:(Kq Tryz.f4)[k]=f at *;have Df:=vR r1;have Me:=vR r2;clear r1 r2 HP HKn hf zl;go_wp2_with fail;have wH:vV W (W2.alloc (.cells #[.string ⟨f.q.toArray⟩,.slice (some ⟨gc,0,none⟩) f.wu.length f.wu.length,.slice (some ⟨gr,0,none⟩) f.rows.length f.rows.length,.int .i64 f.e,.int .i64 f.at_] 26)):=wE.alloc wE.size _;have xw:vV W2 (W2.alloc (.cells #[.string ⟨f.q.toArray⟩,.slice (some ⟨gc,0,none⟩) f.wu.length f.wu.length,.slice (some ⟨gr,0,none⟩) f.rows.length f.rows.length,.int .i64 f.e,.int .i64 f.at_] 26)):=(nW _ _).alloc (nV _) _;have hp:=xI W2 (.cells #[.string ⟨f.q.toArray⟩,.slice (some ⟨gc,0,none⟩) f.wu.length f.wu.length,.slice (some ⟨gr,0,none⟩) f.rows.length f.rows.length,.int .i64 f.e,.int .i64 f.at_] 26);have xL:0<W.heap.size:=oU O HE.out.zR;obtain⟨R,hR,Ba⟩:=ZNP f hfm _ (HE.out.below wH) (HS.out.below wH HE.out.zR) (HW.out.below wH HE.out.zR) (wT wH xL HT.out);refine ZFS (by rfl) (Ba.mono ?_);have Df:=vR (Df.out.below xw);have Me:=vR (Me.out.below xw);have yA:W2.heap.size<(W2.alloc (.cells #[.string ⟨f.q.toArray⟩,.slice (some ⟨gc,0,none⟩) f.wu.length f.wu.length,.slice (some ⟨gr,0,none⟩) f.rows.length f.rows.length,.int .i64 f.e,.int .i64 f.at_] 26)).heap.size:=ae
 generalize (W2.alloc (.cells #[.string ⟨f.q.toArray⟩,.slice (some ⟨gc,0,none⟩) f.wu.length f.wu.length,.slice (some ⟨gr,0,none⟩) f.rows.length f.rows.length,.int .i64 f.e,.int .i64 f.at_] 26))=W3 at *;intro e W4 hW4;obtain⟨cv,lv,rfl,yl,Bl,JH⟩:∃cv lv,e= .returned (.tuple #[cv,lv,.int .i64 f.e,.int .i64 f.at_])/\vV W3 W4/\GY W4 cv f.wu/\GY W4 lv f.rows:=by
  obtain⟨hB,hm⟩:=hW4;cases R with
  |error p=>
   obtain⟨q1,q2,q3,q4⟩:=hR;rw[q3,q4,q1,q2];exact⟨_,_,hm,hB,GY.nil _,GY.nil _⟩
  |ok p=>
   obtain⟨q1,q2,q3,q4⟩:=hR;obtain⟨cv,lv,e1,e2,e3⟩:=hm;rw[q3,q4,q1,q2];exact⟨_,_,e1,hB,GY.Zy3 e2,GY.Zy3 (by simpa using e3)⟩
 have Pj:W4.heap[W2.heap.size]? =_:=(yl.block _ yA).trans hp;have FV:=wH.trans (yl.mono wH.size);have Df:=vR (Df.out.below yl);have Me:=vR (Me.out.below yl);have HC:=vR Bl;have HL:=vR JH;have Ch:=zS Pj;have yV:=KG Pj;have Aa:=KH Pj;have FX:=Uk Pj;clear hp Ba hR Bl JH hW4 Pj xw yl wH yA;obtain⟨El,Fu⟩:=ZHR f hfm;have HS1:=vR (Zyd W4 cv _ f.wu HC.out Df.out El);go_wp2_with fail;refine HS1.out.mono ?_;rintro e W5 ⟨rfl,JC⟩;have kc:=λj v (e:W4.cell? ⟨W2.heap.size,j,none⟩=some v)=>wT JC (oH _ _ e) e;have O4:=kc _ _ yV;have hd2:=kc _ _ Aa;have hd3:=kc _ _ FX;have OE:=vR (Zyd W5 lv _ f.rows (HL.out.below JC) (Me.out.below JC) Fu);have hB8:=FV.trans (JC.mono FV.size);clear Ch yV Aa FX kc HS1 FV JC;go_wp2_with fail;refine OE.out.mono ?_;rintro e W6 ⟨rfl,Fe⟩;have kc:=λj v (e:W5.cell? ⟨W2.heap.size,j,none⟩=some v)=>wT Fe (oH _ _ e) e;have O5:=kc _ _ hd2;have ZL:=kc _ _ hd3;have ZIS:=hB8.trans (Fe.mono hB8.size);clear O4 hd2 hd3 kc OE hB8 Fe;go_wp2_with fail;go_ret;exact⟨rfl,ZIS⟩
end Go.Proofs.YtncnkiabjhhclaaGreatDoor
