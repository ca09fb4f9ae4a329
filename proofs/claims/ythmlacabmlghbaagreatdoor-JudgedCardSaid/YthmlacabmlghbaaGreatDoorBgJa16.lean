import Derived.Deep.RegionWith
import Derived.Test.YthmlacabmlghbaaGreatDoorBgJa15
set_option maxRecDepth 100000
set_option maxHeartbeats 8000000
set_option linter.unusedSimpArgs false
set_option linter.unusedVariables false
namespace Go.Proofs.YthmlacabmlghbaaGreatDoor
theorem ZQZ{p:Prop}(h:p:=by refine⟨?_,?_,?_,?_⟩<;>first|exact HN|go_keep):p:=h
theorem ZXu:type_of% @Go.wpAnyH_ready:=@Go.wpAnyH_ready
theorem ZXr:type_of% @Go.AllReadyH.cons:=@Go.AllReadyH.cons
theorem ZXv:type_of% @Go.AllReadyH.nil:=@Go.AllReadyH.nil
theorem ZWa{p:Prop}(h:p:=by rintro e w3 ⟨b,rfl,hb0,hb1,hB3⟩;go_wp2;exact⟨rfl,b,rfl,hb0,hb1,HBX.out _ hB3⟩):p:=h
open Go.RowKit
section
open Go.Shelf
def ZbN(Zg:List Za)(st:St)(x:Za):Bool:=Q3 Zg x&& !st.names.contains x&&decide (st.names.length<8)
theorem ZJW(B R M Kb:Nat)(Zg:List Za)(line:Int)(st:St)(fv:Value)(x:Za)(l:List Za)(W:World)(hx:x.length<=90000)(hll:l.length<=90000)(hI:RInv B R M Kb Zg line st W)(hv:QS W fv (x::l))(hlen:ZeI (l.length+1)=true)
  (hbad:ZbN Zg st x=false):
  Calls Tryz.prog 83 #[.pointer (some ⟨R,0,none⟩),fv] W fun e W'=>bad B line W e W':=by
 have hl2:3<=l.length+1/\(l.length+1)%2=1/\l.length+1<=13:=ZXL hlen;obtain⟨v,hR,hv0⟩:=hI.last;have c0:W.cell? ⟨R,0,none⟩=some (.int .i64 line):=ZPH
 have c1:W.cell? ⟨R,1,none⟩=some (.map (some M)):=ZPH
 have c3:W.cell? ⟨R,3,none⟩=some (.map (some Kb)):=ZPH
 obtain⟨a,cap,rfl,hcx⟩:=hv;obtain⟨g,o,rfl,hc⟩:=hcx 0 ZPm;have hRl:R<W.heap.size:=(ZWU.1 hR).1;have hgl:g<W.heap.size:=ZWW W _ hc;have hBW:=hI.hB;have e1:(3:Int)<=(l.length:Int)+1:=U
 have e2:((l.length:Int)+1)%2=1:=U
 have e3:(l.length:Int)+1<=13:=U
 have d1:decide ((3:Int)<=(l.length:Int)+1)=true:=by simp;omega
 have d3:decide ((l.length:Int)+1<=13)=true:=by simp;omega
 have HN:Xv (W.alloc (.cells #[.pointer (some ⟨R,0,none⟩)] 133)) M st.names.length st.names:=ZfL hI.names ((ZWT _ W).alloc (ZWS _) _);have HK:Xv (W.alloc (.cells #[.pointer (some ⟨R,0,none⟩)] 133)) Kb 100 Zg:=ZfL hI.keys ((ZWT _ W).alloc (ZWS _) _);have c0a:∀o,(W.alloc o).cell? ⟨R,0,none⟩=some (.int .i64 line):=fun o=>(ZW6 W o ⟨R,0,none⟩ hRl).trans c0;have c1a:∀o,(W.alloc o).cell? ⟨R,1,none⟩=some (.map (some M)):=fun o=>(ZW6 W o ⟨R,1,none⟩ hRl).trans c1;have c3a:∀o,(W.alloc o).cell? ⟨R,3,none⟩=some (.map (some Kb)):=fun o=>(ZW6 W o ⟨R,3,none⟩ hRl).trans c3;have cxa:∀ob,(W.alloc ob).cell? ⟨g,o,none⟩=some (.string ⟨x.toArray⟩):=fun ob=>(ZW6 W ob ⟨g,o,none⟩ hgl).trans hc;obtain⟨vd,hvd⟩:=Zva (w:=(W.alloc (.cells #[.pointer (some ⟨R,0,none⟩)] 133)).drew) (by exact HN) x U;have ZnJ:∀w,Xv w M st.names.length st.names->(Builtin.len_ #[72] 3 #[.map (some M)]).run Tryz.prog w= .ok (.int .i64 st.names.length) w:=by
  exact ZVE
 generalize hth:st.names.contains x=th at hvd;have HTH:Hid (st.names.contains x=th):=hth;clear hth hlen hv0 hI hc hcx c0 c1 c3;generalize hnm:Q3 Zg x=nm;have UU:Hid (Q3 Zg x=nm):=hnm;clear hnm;have hin:=fun w=>ZoQ R Kb 100 Zg x w hx;rw[UU.out]at hin;have hb2:(nm&& !th&&decide (st.names.length<8))=false:=by
  rw[<-UU.out,<-HTH.out];exact hbad
 clear hbad;have HBX:Hid (∀w3,Below (W.alloc (.cells #[.pointer (some ⟨R,0,none⟩)] 133)).drew.drew.heap.size (W.alloc (.cells #[.pointer (some ⟨R,0,none⟩)] 133)).drew.drew w3->Below B W w3):=by
  intro w3 h;exact(((ZWT _ W).alloc (ZWS _) (.cells #[.pointer (some ⟨R,0,none⟩)] 133)).mono hBW).trans ((show Below (W.alloc (.cells #[.pointer (some ⟨R,0,none⟩)] 133)).heap.size (W.alloc (.cells #[.pointer (some ⟨R,0,none⟩)] 133)) w3 from ⟨h.os,h.tape,h.output,h.size,h.block⟩).mono ZPo)
 go_enter Tryz.func83,Tryz.ntmps83;go_wp2_with fail;refine(ZbP _ _).mono ?_;rintro e w3 ⟨rfl,rfl⟩;go_wp2_with fail;go_region;go_wp2_with fail;cases nm
 ·clear hb2;refine wp_region_held_drew (S:=fun w'=>w'.cell? ⟨W.heap.size,0,none⟩=some (.pointer (some ⟨R,0,none⟩))/\w'.cell? ⟨g,o,none⟩=some (.string ⟨x.toArray⟩)/\w'.cell? ⟨R,1,none⟩=some (.map (some M))/\Xv w' M st.names.length st.names) ZPn ZQZ (fun hHeld=>?_);refine tk 0 ?_;refine tk 1 ?_;refine tk 2 ?_;refine tk 3 ?_;refine tk 4 ?_;refine ZXu (rs:= [5]) ZPn ZPm (ZXr rfl (fun K hK=>?_) ZXv);go_simp;go_wp2_with (go_at_call 116;refine(hin _ ?_ ?_).mono ?_;(·exact c3a _);(·exact HK);rintro e w' ⟨rfl,rfl⟩);refine hK.out _ _ ?_ (fun hHeld=>?_)
  ·refine⟨?_,?_,?_,?_⟩<;>first|exact HN|go_keep
  clear hK K;refine tk 6 ?_;refine ZXC (i:=7) (v:=undef) rfl ZPn ZPn ZPn (fun _ _ _ h=>h) (ZXM ⟨ZPC,rfl⟩) ZPu ?_;try simp only[Act.put,ZXy,List.set_cons_zero,List.set_cons_succ,List.getElem_toArray,List.getElem_cons_zero,List.getElem_cons_succ]
  refine ZXC (i:=8) (v:=undef) rfl ZPn ZPn ZPn (fun _ _ _ h=>h) (ZXM ⟨ZPC,rfl⟩) ZPu ?_;try simp only[Act.put,ZXy,List.set_cons_zero,List.set_cons_succ,List.getElem_toArray,List.getElem_cons_zero,List.getElem_cons_succ]
  refine tk 9 ?_;refine tk 10 ?_;refine ZXC (i:=11) (v:=undef) rfl ZPn ZPn ZPn (fun _ _ _ h=>h) (ZXM ⟨ZPC,rfl⟩) ZPu ?_;try simp only[Act.put,ZXy,List.set_cons_zero,List.set_cons_succ,List.getElem_toArray,List.getElem_cons_zero,List.getElem_cons_succ]
  refine ZXC (i:=12) (v:=undef) rfl ZPn ZPn ZPn (fun _ _ _ h=>h) (ZXM ⟨ZPC,rfl⟩) ZPu ?_;try simp only[Act.put,ZXy,List.set_cons_zero,List.set_cons_succ,List.getElem_toArray,List.getElem_cons_zero,List.getElem_cons_succ]
  refine ZXC (i:=13) (v:=undef) rfl ZPn ZPn ZPn (fun _ _ _ h=>h) (ZXM ⟨ZPC,rfl⟩) ZPu ?_;try simp only[Act.put,ZXy,List.set_cons_zero,List.set_cons_succ,List.getElem_toArray,List.getElem_cons_zero,List.getElem_cons_succ]
  refine ZXC (i:=14) (v:=undef) rfl ZPn ZPn ZPn (fun _ _ _ h=>h) (ZXM ⟨ZPC,rfl⟩) ZPu ?_;try simp only[Act.put,ZXy,List.set_cons_zero,List.set_cons_succ,List.getElem_toArray,List.getElem_cons_zero,List.getElem_cons_succ]
  refine ZXC (i:=15) (v:=undef) rfl ZPn ZPn ZPn (fun _ _ _ h=>h) (ZXM ⟨ZPC,rfl⟩) ZPu ?_;try simp only[Act.put,ZXy,List.set_cons_zero,List.set_cons_succ,List.getElem_toArray,List.getElem_cons_zero,List.getElem_cons_succ]
  refine ZXC (i:=16) (v:=undef) rfl ZPn ZPn ZPn (fun _ _ _ h=>h) (ZXM ⟨ZPC,rfl⟩) ZPu ?_;try simp only[Act.put,ZXy,List.set_cons_zero,List.set_cons_succ,List.getElem_toArray,List.getElem_cons_zero,List.getElem_cons_succ]
  refine tk 17 ?_;refine ZXu (rs:= [18]) ZPn ZPm (ZXr rfl (fun K hK=>?_) ZXv);go_simp;go_wp2_with fail;refine(Vr R line _ ?_).mono ?_
  ·exact c0a _
  exact ZWa
 ·cases th
  ·have d8:decide ((st.names.length:Int)<8)=false:=by simp at hb2 ⊢;omega
   clear hb2;refine wp_region_held_drew (S:=fun w'=>w'.cell? ⟨W.heap.size,0,none⟩=some (.pointer (some ⟨R,0,none⟩))/\w'.cell? ⟨g,o,none⟩=some (.string ⟨x.toArray⟩)/\w'.cell? ⟨R,1,none⟩=some (.map (some M))/\Xv w' M st.names.length st.names) ZPn ZQZ (fun hHeld=>?_);refine tk 0 ?_;refine tk 1 ?_;refine tk 2 ?_;refine tk 3 ?_;refine tk 4 ?_;refine ZXu (rs:= [5]) ZPn ZPm (ZXr rfl (fun K hK=>?_) ZXv);go_simp;go_wp2_with (go_at_call 116;refine(hin _ ?_ ?_).mono ?_;(·exact c3a _);(·exact HK);rintro e w' ⟨rfl,rfl⟩);refine hK.out _ _ ?_ (fun hHeld=>?_)
   ·refine⟨?_,?_,?_,?_⟩<;>first|exact HN|go_keep
   clear hK K;refine tk 6 ?_;refine tk 7 ?_;refine tk 8 ?_;refine tk 9 ?_;refine tk 10 ?_;refine tk 11 ?_;refine tk 12 ?_;refine tk 13 ?_;refine tk 14 ?_;refine ZXC (i:=15) (v:=.int .i64 st.names.length) rfl ZPn ZPn ZPn (fun _ _ _ h=>h) (Or.inl ⟨ZPC,?_⟩) ZPu ?_
   ·intro w hSw;have hl:=ZnJ w hSw.2.2.2;clear hSw;go_simp
   try simp only[Act.put,ZXy,List.set_cons_zero,List.set_cons_succ,List.getElem_toArray,List.getElem_cons_zero,List.getElem_cons_succ]
   refine tk 16 ?_;refine tk 17 ?_;refine ZXu (rs:= [18]) ZPn ZPm (ZXr rfl (fun K hK=>?_) ZXv);go_simp;go_wp2_with fail;refine(Vr R line _ ?_).mono ?_
   ·exact c0a _
   exact ZWa
  ·clear hb2;refine wp_region_held_drew (S:=fun w'=>w'.cell? ⟨W.heap.size,0,none⟩=some (.pointer (some ⟨R,0,none⟩))/\w'.cell? ⟨g,o,none⟩=some (.string ⟨x.toArray⟩)/\w'.cell? ⟨R,1,none⟩=some (.map (some M))/\Xv w' M st.names.length st.names) ZPn ZQZ (fun hHeld=>?_);refine tk 0 ?_;refine tk 1 ?_;refine tk 2 ?_;refine tk 3 ?_;refine tk 4 ?_;refine ZXu (rs:= [5]) ZPn ZPm (ZXr rfl (fun K hK=>?_) ZXv);go_simp;go_wp2_with (go_at_call 116;refine(hin _ ?_ ?_).mono ?_;(·exact c3a _);(·exact HK);rintro e w' ⟨rfl,rfl⟩);refine hK.out _ _ ?_ (fun hHeld=>?_)
   ·refine⟨?_,?_,?_,?_⟩<;>first|exact HN|go_keep
   clear hK K;refine tk 6 ?_;refine tk 7 ?_;refine tk 8 ?_;refine tk 9 ?_;refine tk 10 ?_;refine ZXC (i:=11) (v:=undef) rfl ZPn ZPn ZPn (fun _ _ _ h=>h) (ZXM ⟨ZPC,rfl⟩) ZPu ?_;try simp only[Act.put,ZXy,List.set_cons_zero,List.set_cons_succ,List.getElem_toArray,List.getElem_cons_zero,List.getElem_cons_succ]
   refine ZXC (i:=12) (v:=undef) rfl ZPn ZPn ZPn (fun _ _ _ h=>h) (ZXM ⟨ZPC,rfl⟩) ZPu ?_;try simp only[Act.put,ZXy,List.set_cons_zero,List.set_cons_succ,List.getElem_toArray,List.getElem_cons_zero,List.getElem_cons_succ]
   refine ZXC (i:=13) (v:=undef) rfl ZPn ZPn ZPn (fun _ _ _ h=>h) (ZXM ⟨ZPC,rfl⟩) ZPu ?_;try simp only[Act.put,ZXy,List.set_cons_zero,List.set_cons_succ,List.getElem_toArray,List.getElem_cons_zero,List.getElem_cons_succ]
   refine ZXC (i:=14) (v:=undef) rfl ZPn ZPn ZPn (fun _ _ _ h=>h) (ZXM ⟨ZPC,rfl⟩) ZPu ?_;try simp only[Act.put,ZXy,List.set_cons_zero,List.set_cons_succ,List.getElem_toArray,List.getElem_cons_zero,List.getElem_cons_succ]
   refine ZXC (i:=15) (v:=undef) rfl ZPn ZPn ZPn (fun _ _ _ h=>h) (ZXM ⟨ZPC,rfl⟩) ZPu ?_;try simp only[Act.put,ZXy,List.set_cons_zero,List.set_cons_succ,List.getElem_toArray,List.getElem_cons_zero,List.getElem_cons_succ]
   refine ZXC (i:=16) (v:=undef) rfl ZPn ZPn ZPn (fun _ _ _ h=>h) (ZXM ⟨ZPC,rfl⟩) ZPu ?_;try simp only[Act.put,ZXy,List.set_cons_zero,List.set_cons_succ,List.getElem_toArray,List.getElem_cons_zero,List.getElem_cons_succ]
   refine tk 17 ?_;refine ZXu (rs:= [18]) ZPn ZPm (ZXr rfl (fun K hK=>?_) ZXv);go_simp;go_wp2_with fail;refine(Vr R line _ ?_).mono ?_
   ·exact c0a _
   exact ZWa
end
def Vb(acc:Nat)(s:Za):Nat:=s.foldl (fun a c=>a*10+(c.toNat-48)) acc
theorem Zmu(acc:Nat):Vb acc []=acc:=by unfold Vb;rw[List.foldl_nil]
theorem Zmt(acc:Nat)(c:UInt8)(r:Za):Vb acc (c::r)=Vb (acc*10+(c.toNat-48)) r:=by unfold Vb;rw[List.foldl_cons]
theorem Zrx(s:Za):∀(acc:Nat),acc<=Vb acc s:=by
 induction s with
 |nil=>intro acc;rw[Zmu];exact ZTg
 |cons c r ih=>intro acc;have:=ih (acc*10+(c.toNat-48));rw[Zmt];omega
def ZgY:Za->Prop
 | []=>True
 |c::r=>(48<=c.toNat/\c.toNat<=57)/\ZgY r
theorem Zmj{s:Za}(h:Zk Zi s=s.length):ZgY s:=by
 induction s with
 |nil=>trivial
 |cons c r ih=>
  rw[ZaB]at h;by_cases hc:Zi.contains c=true
  ·rw[ZWR hc]at h;exact⟨Zjj hc,ih ZPv⟩
  ·rw[ZWQ hc]at h;simp at h
theorem Zrq(s:Za):∀(acc:Nat),ZgY s->acc<=9223372036854775808->JO (-(acc:Int)) s=if Vb acc s<=9223372036854775808 then some (-(Vb acc s:Int))else none:=by
 induction s with
 |nil=>intro acc _ h;rw[JO,Zmu,ZWR h]
 |cons c r ih=>
  intro acc hd h;obtain⟨⟨h0,h9⟩,hr⟩:=hd;rw[Zjk,Zmt];have e:=Zmo ((c.toNat:Int)-48) U U;rw[e];have hge:=Zrx r (acc*10+(c.toNat-48));by_cases hlt: -(acc:Int)< -((9223372036854775808-((c.toNat:Int)-48))/10)
  ·rw[ZWR hlt,ZWQ U]
  ·rw[ZWQ hlt];have hn:=ih (acc*10+(c.toNat-48)) hr U;rw[<-hn];congr 1;omega
theorem Zms(s:Za):∀(acc:Nat),ZgY s->acc<=18446744073709551615->Lib.parseUintM 18446744073709551615 acc s=if Vb acc s<=18446744073709551615 then .ok (Vb acc s)else .range:=by
 induction s with
 |nil=>intro acc _ h;rw[Lib.parseUintM,Zmu,ZWR h]
 |cons c r ih=>
  intro acc hd h;obtain⟨⟨h0,h9⟩,hr⟩:=hd;have hge:=Zrx r (acc*10+(c.toNat-48));rw[Lib.parseUintM,Zmt,ZWR ⟨h0,h9⟩];by_cases h1:1844674407370955162<=acc
  ·rw[ZWR h1,ZWQ U]
  ·rw[ZWQ h1];by_cases h2:18446744073709551615<acc*10+(c.toNat-48)
   ·rw[ZWR h2,ZWQ U]
   ·rw[ZWQ h2];exact ih _ hr U
theorem Zmn{d:Za}(hd:ZgY d)(neg:Bool):(YN d neg).2=decide (Vb 0 d<9223372036854775808\/(neg=true/\Vb 0 d=9223372036854775808)):=by
 have h:=Zrq d 0 hd U;rw[show -((0:Nat):Int)=0 from rfl]at h;by_cases hv:Vb 0 d<=9223372036854775808
 ·rw[ZWR hv]at h;cases neg
  ·rw[Zjl h,ZXG];simp only[ZXw,Bool.false_eq_true,false_and,ZXK];omega
  ·rw[Zrr h];symm;apply ZXX;simp only[true_and];omega
 ·rw[ZWQ hv]at h;rw[Zmm neg h];simp;omega
theorem Zrk{c:UInt8}(h:48<=c.toNat):c≠45/\c≠43/\c≠39:=by
 refine⟨?_,?_,?_⟩<;>(intro e;subst e;revert h;decide)
theorem Zvi(s:Za)(hne:s≠ []):Jv s=
  (let neg:=decide (s.head? =some 45)
   let d:=if neg then s.drop 1 else s
   if Zk Zi d=0\/Zk Zi d<d.length then false else(YN d neg).2):=by
 obtain⟨c,r,rfl⟩:∃c r,s=c::r:=ZQF
 by_cases h45:c=45
 ·subst h45;have e1:Lib.trimPrefix (45::r) [45]=r:=by simp[Lib.trimPrefix,Lib.hasPrefix]
  simp only[List.head?_cons,decide_true,ZXR,List.drop_succ_cons,ZYs];unfold Jv;rw[e1];have hle:=Eu Zi r;by_cases hd:Zk Zi r=r.length
  · have had:=Zmj hd;cases r with
    |nil=>rfl
    |cons c' r'=>
     rw[ZWQ (by rw[hd];simp),Zmn had];have hp:Lib.parseIntB 64 (45::c'::r')=(match Lib.parseUintM 18446744073709551615 0 (c'::r')with
       | .syntax=>.syntax
       | .range=>.range
       | .ok u=>if 9223372036854775808<u then .range else .ok (-(u:Int))):=by
      simp[Lib.parseIntB,Lib.parseUintB];generalize Lib.parseUintM 18446744073709551615 0 (c'::r')=q;cases q<;>rfl
     rw[hp,Zms _ 0 had U,ZXX hd,Bool.and_true];by_cases h1:Vb 0 (c'::r')<=18446744073709551615
     ·rw[ZWR h1];simp only;by_cases h2:9223372036854775808<Vb 0 (c'::r')
      ·rw[ZWR h2];simp;omega
      ·rw[ZWQ h2];simp;omega
     ·rw[ZWQ h1];simp;omega
  · rw[ZXD hd,ZYx,ZWR (.inr U)]
 ·have e1:Lib.trimPrefix (c::r) [45]=c::r:=by
    have:¬(45:UInt8)=c:=fun e=>h45 e.symm;simp[Lib.trimPrefix,Lib.hasPrefix,this]
  have e2:decide ((c::r).head? =some 45)=false:=by simpa using h45
  simp only[e2,Bool.false_eq_true,ZXO];unfold Jv;rw[e1];have hle:=Eu Zi (c::r);by_cases hd:Zk Zi (c::r)=(c::r).length
  · have had:=Zmj hd;have hn:=Zrk had.1.1;have n1:¬c.toNat=43:=fun e=>hn.2.1 (ZYr.1 e);have n2:¬c.toNat=45:=fun e=>hn.1 (ZYr.1 e);rw[ZWQ (by rw[hd];simp),Zmn had];have hp:Lib.parseIntB 64 (c::r)=(match Lib.parseUintM 18446744073709551615 0 (c::r)with
      | .syntax=>.syntax
      | .range=>.range
      | .ok u=>if 9223372036854775808<=u then .range else .ok (u:Int)):=by
     simp[Lib.parseIntB,Lib.parseUintB,n1,n2];generalize Lib.parseUintM 18446744073709551615 0 (c::r)=q;cases q<;>rfl
    rw[hp,Zms _ 0 had U,ZXX hd,Bool.and_true];by_cases h1:Vb 0 (c::r)<=18446744073709551615
    ·rw[ZWR h1];simp only;by_cases h2:9223372036854775808<=Vb 0 (c::r)
     ·rw[ZWR h2];simp;omega
     ·rw[ZWQ h2];simp;omega
    ·rw[ZWQ h1];simp;omega
  · rw[ZXD hd,ZYx,ZWR (.inr U)]
def Jw(t:Int):Za:=if t=1 then Xr else VZ
theorem ZMA{k:Za}{t:Int}(h:Q5 k=some t):Jw t=k:=by
 unfold Q5 at h;split at h
 ·rename_i e;cases h;rw[e];rfl
 ·split at h
  ·rename_i e;cases h;rw[e];rfl
  ·cases h
theorem ZH8(r:Za):Jv (39::r)=false:=by
 unfold Jv;have e1:Lib.trimPrefix (39::r) [45]=39::r:=by simp[Lib.trimPrefix,Lib.hasPrefix]
 have e2:Zk Zi (39::r)=0:=by rw[ZaB];rfl
 rw[e1,e2,ZXD ZPm,ZYx]
theorem ZMQ(s:Za)(hne:s≠ [])(t:Int):(QJ s (Jw t)).2=Jj s t:=by
 unfold QJ Jj;by_cases h0:s=ZbS
 ·rw[ZWR h0,h0];rfl
 ·rw[ZWQ h0];have e0:(s== [110,117,108,108])=false:=by simpa[ZbS]using h0
  rw[e0,Bool.false_or];by_cases Xh:s.head? =some 39
  ·rw[ZWR Xh];by_cases ht:t=1
   ·rw[ZWR ht];obtain⟨c,r,rfl⟩:∃c r,s=c::r:=by cases s with|nil=>exact absurd rfl hne|cons c r=>exact⟨c,r,rfl⟩
    simp at Xh;subst Xh;rw[ZH8,ht];rfl
   ·rw[ZWQ ht,Xh];unfold Jw;rw[ZWQ ht];rfl
  ·rw[ZWQ Xh];by_cases ht:t=1
   ·rw[ZWR ht,Zvi s hne,ht];simp only[show Jw 1=Xr from rfl,ne_eq,not_true_eq_false,ZXK];generalize (if decide (s.head? =some 45)=true then s.drop 1 else s)=d;by_cases hx:Zk Zi d=0\/Zk Zi d<d.length
    ·rw[ZWR hx,ZWR hx]
    ·rw[ZWQ hx,ZWQ hx]
   ·rw[ZWQ ht];have e1:Jw t≠Xr:=by unfold Jw;rw[ZWQ ht];decide
    simp only;rw[ZWR (.inr (.inr e1))];simpa using Xh
theorem Zwk:∀(l:List Za) (cs:List (Za×Int)),(∀x∈l,x≠ [])->ZcZ l (cs.map fun c=>Jw c.2)=rowOk l cs
 | [],_,_=>rfl
 |_::_, [],_=>rfl
 |x::l,c::cs,h=>by
  have ih:=Zwk l cs (fun y hy=>h y (ZXe _ hy));unfold ZcZ rowOk at ih ⊢;simp only[ZWZ,List.zip_cons_cons,List.all_cons];rw[ih,ZMQ x (h x ZPm) c.2]
def Kn:Za:= [115,101,108,101,99,116,32,100,105,115,116,105,110,99,116,32,102,114,111,109,32,119,104,101,114,101,32,103,114,111,117,112,32,98,121,32,104,97,118,105,110,103,32,97,115,32,117,110,105,111,110,32,105,110,116,101,114,115,101,99,116,32,101,120,99,101,112,116,32,97,108,108,32,97,110,121,32,97,110,100,32,111,114,32,110,111,116,32,101,120,105,115,116,115,32,105,110,32,105,115,32,110,117,108,108,32,99,111,117,110,116,32,115,117,109,32,109,105,110,32,109,97,120]
def splitB(cur:Za):Za->List Za
 | []=> [cur]
 |c::r=>if c=32 then cur::splitB [] r else splitB (cur++ [c]) r
def YI:List Za:=splitB [] Kn
theorem ZMx(s r:Za)(h:(32:UInt8)∉s):(s++32::r).takeWhile (fun c=>c != 32)=s:=by
 induction s with
 |nil=>rfl
 |cons c s ih=>
  have hc:c≠32:=fun e=>h ZQI;rw[List.cons_append,ZXs,ZWR ZPE,ih (fun e=>h (ZXe _ e))]
theorem ZGR:((List.range 124).all fun i=>(QN.drop i).head? != some 32||YI.contains ((QN.drop (i+1)).takeWhile fun c=>c != 32))=true:=by decide +kernel
theorem ZGS:(YI.all Va)=true:=by decide +kernel
theorem ZuQ(s:Za)(h:(32:UInt8)∉s):YI.contains s=Va s:=by
 rw[ZXG];constructor
 ·intro h1;exact ZXQ.1 ZGS s ZQr
 ·intro h1;unfold Va ZaA at h1;obtain⟨i,hi,he⟩:=ZYh.1 h1;rw[ZYj]at hi;have hl:QN.length=125:=rfl;rw[hl]at hi;simp only[List.length_cons,ZW9,List.length_nil]at hi;have he2:(QN.drop i).take (s.length+2)=32::(s++ [32]):=by
   have:=eq_of_beq he;exact ZWN
  have hd:QN.drop i=32::(s++ [32])++(QN.drop i).drop (s.length+2):=by rw[<-he2,List.take_append_drop]
  have hd1:QN.drop (i+1)=s++32::(QN.drop i).drop (s.length+2):=by
   have:QN.drop (i+1)=(QN.drop i).drop 1:=ZRl
   rw[this];conv=>lhs;rw[hd]
   simp
  have hc:=ZXQ.1 ZGR i (by rw[ZYj];omega);rw[hd1,ZMx _ _ h,hd]at hc;simpa using hc
theorem Zk2{set s:Za}(hd:Zk set s=s.length){x:UInt8}(hx:x∈s):set.contains x=true:=by
 obtain⟨k,hk,rfl⟩:=ZYn.1 hx;exact Zro hd k hk
theorem ZG7(c:UInt8):(Ya++Zi).contains c=(Ya.contains c||Zi.contains c):=by simp[List.contains_eq_any_beq,List.any_append]
theorem ZML{p:UInt8->Bool}(h:(List.range 256).all (fun n=>p (UInt8.ofNat n))=true)(c:UInt8):p c=true:=by
 have h1:=ZXQ.1 h c.toNat (by simp;exact c.toNat_lt);rwa [UInt8.ofNat_toNat]at h1
theorem ZBU(c:UInt8):(Zi.contains c&&Ya.contains c)=false:=by
 have:=ZML (p:=fun c=> !(Zi.contains c&&Ya.contains c)) ZP5 c;rw[ZYf]at this;exact this
theorem Zou(s:Za):Q3 YI s=KS s:=by
 unfold Q3 KS;by_cases hr:Zk (Ya++Zi) s=s.length
 ·have h32:(32:UInt8)∉s:=fun hx=>by have:=Zk2 hr hx;revert this;decide
  rw[ZuQ s h32];cases s with
  |nil=>simp
  |cons c r=>
   have hc:=Zk2 hr (show c∈c::r from ZPm);rw[ZG7]at hc;have hdl:=ZBU c;rw[hr];simp only[List.isEmpty_cons,Bool.not_false,Bool.and_true,ZYi,List.take_succ_cons,List.take_zero,ZaB,BEq.rfl];by_cases hd:Zi.contains c=true
   ·rw[hd,ZYi]at hdl;rw[ZWR hd,ZWR U,hdl];simp;intro _;omega
   ·have hd':Zi.contains c=false:=by simpa using hd
    rw[hd',ZYc]at hc;rw[hd',hc];simp;intro _;rfl
 ·have e1:(Zk (Ya++Zi) s==s.length)=false:=by simpa using hr
  rw[e1,ZYx,Bool.false_and];have:decide (((if 0<Zk Zi s then 0 else Zk (Ya++Zi) s:Nat):Int)=s.length)=false\/s.isEmpty=true:=by
   by_cases h0:s= []
   ·right;rw[h0];rfl
   ·left;have:0<s.length:=by cases s with|nil=>exact absurd rfl h0|cons=>simp
    split<;>simp<;>omega
  rcases this with h|h<;>rw[h]<;>simp
def Ef(Zg:List Za)(p:Za×Za):Bool:=(Q5 p.2).isSome&&Q3 Zg p.1
def YG(ps:List (Za×Za)):List (Za×Int):=ps.map fun p=>(p.1,(Q5 p.2).getD 0)
abbrev ZiF(Zg:List Za)(st:St)(ps:List Za):Prop:=
 ZeI ps.length=true/\ZbN Zg st (ps.getD 0 [])=true/\(Zo (ps.drop 1)).all (Ef Zg)=true/\((Zo (ps.drop 1)).map (·.1)).Nodup
def Ug(Zg:List Za)(st:St)(p:Za)(ps:List Za):Option St:=
 if p=UJ then
  if ZiF Zg st ps then some ⟨st.names++ [ps.getD 0 []],some ⟨YG (Zo (ps.drop 1)),0⟩,st.tabs++ [(ps.getD 0 [],YG (Zo (ps.drop 1)))]⟩else none
 else if p=EP then
  match st.last with
  |none=>none
  |some t=>if(ps.length=t.Ze.length/\t.rows≠12)/\rowOk ps t.Ze=true then some ⟨st.names,some ⟨t.Ze,t.rows+1⟩,st.tabs⟩else none
 else none
def Xm(Zg:List Za)(st:St)(x:Za):Option St:=
 match fieldsOf x with
 |none=>none
 |some []=>some st
 |some (p::ps)=>Ug Zg st p ps
def Zbu(Zg:List Za):St->Nat->List Za->Int
 |_,_, []=> -1
 |st,k,x::r=>match Xm Zg st x with
  |none=>(k:Int)+1
  |some st'=>Zbu Zg st' (k+1) r
def Zbn(st:St):J7:=⟨st.names,st.last.map fun t=>(t.Ze.map (fun c=>Jw c.2),t.rows)⟩
theorem Zvm:∀(l:List (Za×Za)) (seen:List Za),Zai seen l=true↔(l.all (Ef YI)=true/\(l.map (·.1)).Nodup/\∀x∈l.map (·.1),x∉seen)
 | [],seen=>by simp[Zai]
 |(n,t)::l,seen=>by
  rw[Zai];have ih:=Zvm l (seen++ [n]);have ety:(t==Xr||t==VZ)=(Q5 t).isSome:=by
   unfold Q5 Xr VZ;by_cases h1:t= [105,110,116]
   ·rw[ZWR h1,h1];rfl
   ·rw[ZWQ h1];by_cases h2:t= [116,101,120,116]
    ·rw[ZWR h2,h2];rfl
    ·rw[ZWQ h2];simp[h1,h2]
  rw[ety];simp only[ZXN,ih,List.all_cons,Ef,Zou,ZWZ,ZYm,ZW3,ZYf,ZYo,ZYl,ZXt,ZXV,ZXK,not_or];constructor
  ·rintro⟨⟨⟨h1,h2⟩,h3⟩,h4,h5,h6⟩;refine⟨⟨⟨h3,h1⟩,h4⟩,⟨?_,h5⟩,?_⟩
   ·intro hm;exact(h6 n hm).2 rfl
   ·rintro x (rfl|hx)
    ·exact h2
    ·exact(h6 x hx).1
  ·rintro⟨⟨⟨h3,h1⟩,h4⟩,⟨h7,h5⟩,h8⟩;refine⟨⟨⟨h1,h8 n (.inl rfl)⟩,h3⟩,h4,h5,?_⟩;intro x hx;exact⟨h8 x (.inr hx),fun e=>h7 (e▸hx)⟩
theorem ZmE:∀(l:List (Za×Za)),l.all (Ef YI)=true->(YG l).map (fun c=>Jw c.2)=l.map (·.2)
 | [],_=>rfl
 |(n,t)::l,h=>by
  simp only[List.all_cons,ZXN,Ef]at h;have ih:=ZmE l h.2;unfold YG at ih ⊢;simp only[ZWZ,ZX2];simp only[ZX2]at ih;rw[ih];obtain⟨ty,hty⟩:=Option.isSome_iff_exists.1 h.1.1;rw[hty];simp only[Option.getD_some];rw[ZMA hty]
theorem ZJh(st:St)(h8:st.names.length<=8)(p:Za)(ps:List Za)(hne:∀x∈ps,x≠ []):Eg (Zbn st) p ps=(Ug YI st p ps).map Zbn:=by
 unfold Eg Ug;by_cases hp:p=UJ
 ·rw[ZWR hp,ZWR hp];have hiff:(Zae (p::ps)=true/\(Zbn st).names.length≠8/\(ps.getD 0 [])∉(Zbn st).names)↔ZiF YI st ps:=by
   unfold Zae ZiF ZbN Zdw ZeI;have e1:(p::ps).getD 1 []=ps.getD 0 []:=by cases ps<;>rfl
   have e2:(p::ps).drop 2=ps.drop 1:=ZPm
   rw[e1,e2,Zou];simp only[ZXN,ZXw,ZYf,ZYo,ZYl,Zvm,List.length_cons,Zbn];constructor
   ·rintro⟨⟨h1,h2,h3,h4,_⟩,h5,h6⟩;exact⟨U,⟨⟨h2,h6⟩,U⟩,h3,h4⟩
   ·rintro⟨h1,⟨⟨h2,h6⟩,h5⟩,h3,h4⟩;exact⟨⟨U,h2,h3,h4,ZPm⟩,U,h6⟩
  by_cases hok:ZiF YI st ps
  ·rw[ZWR hok,ZWR (hiff.2 hok)];simp only[Option.map_some,Zbn,ZYe,J7.mk.injEq,true_and,Prod.mk.injEq,and_true];exact(ZmE _ hok.2.2.1).symm
  ·rw[ZWQ hok,ZWQ (fun h=>hok (hiff.1 h))];rfl
 ·rw[ZWQ hp,ZWQ hp];by_cases hr:p=EP
  ·rw[ZWR hr,ZWR hr];unfold rowFits Zbn;cases hl:st.last with
   |none=>rfl
   |some t=>
    simp only[Option.map_some];by_cases h1:ps.length=t.Ze.length/\t.rows≠12
    ·rw[ZWR (by rw[ZW5];exact h1)];simp only;rw[Zwk ps t.Ze hne];by_cases h2:rowOk ps t.Ze=true
     ·rw[ZWR h2,ZWR ⟨h1,h2⟩];rfl
     ·rw[ZWQ h2,ZWQ (fun h=>h2 h.2)];rfl
    ·rw[ZWQ (by rw[ZW5];exact h1),ZWQ (fun h=>h1 h.1)];rfl
  ·rw[ZWQ hr,ZWQ hr];rfl
def ZgX(y:Za):Prop:=y.head?≠some 39/\39∈y
theorem Zw2:∀s:Za,(s.drop (s.takeWhile fun c=>c≠32&&c≠39).length= []/\(JB 32 s).length=(s.takeWhile fun c=>c≠32&&c≠39).length)\/
  (∃r,s.drop (s.takeWhile fun c=>c≠32&&c≠39).length=32::r/\(JB 32 s).length=(s.takeWhile fun c=>c≠32&&c≠39).length)\/
  (∃r,s.drop (s.takeWhile fun c=>c≠32&&c≠39).length=39::r/\39∈s.take (JB 32 s).length)
 | []=>.inl ⟨rfl,rfl⟩
 |c::s=>by
  unfold JB;by_cases h1:c=32
  ·subst h1;exact .inr (.inl ⟨s,rfl,rfl⟩)
  ·by_cases h2:c=39
   ·subst h2;refine .inr (.inr ⟨s,rfl,?_⟩);rw[ZXs,ZWR ZPl];simp
   ·rw[ZXs,ZWR (by simp[h1,h2]),ZXs,ZWR ZQr];simp only[List.length_cons,List.drop_succ_cons,List.take_succ_cons];rcases Zw2 s with⟨h3,h4⟩|⟨r,h3,h4⟩|⟨r,h3,h4⟩
    ·exact .inl ⟨h3,by unfold JB at h4;omega⟩
    ·exact .inr (.inl ⟨r,h3,by unfold JB at h4;omega⟩)
    ·exact .inr (.inr ⟨r,h3,ZXe _ h4⟩)
theorem ZCr(s:Za):fieldsOf (32::s)=fieldsOf s:=by
 have h0:=Zmq s;cases h:JC s with
 |nil=>rw[ZjH h,ZjH (h0.trans h)]
 |cons c r=>
  cases hl:Qc (c::r)with
  |none=>rw[Zhd h hl,Zhd (h0.trans h) hl]
  |some n=>rw[Zfm h hl,Zfm (h0.trans h) hl]
theorem ZmQ:fieldsOf []=some []:=ZjH Zmr
theorem Zsf(f:Nat):∀s:Za,s.length<f->
  (∀l,XN f s=some l->fieldsOf s=some l)/\(XN f s=none->∀l,fieldsOf s=some l->∃y∈l,ZgX y):=by
 induction f with
 |zero=>intro s h;omega
 |succ f ih=>
  intro s hs;cases s with
  |nil=>
   rw[XN,ZmQ];exact ZTP
  |cons c r=>
   rw[XN];by_cases h32:c=32
   ·subst h32;rw[ZWR rfl,ZCr];exact ih r (by simpa using hs)
   ·rw[ZWQ h32];have ht:=Zmp c r h32;have ZtY:=ZAb (c::r);by_cases Xh:c=39
    ·subst Xh;have epl:YS (39::r)=(Yn (39::r)).2:=by simp[YS]
     have efl:Qc (39::r)=if 0<YS (39::r)/\(YS (39::r)=(39::r).length\/(39::r)[YS (39::r)]? =some 32)then some (YS (39::r))else none:=by
      unfold Qc;rw[ZWR ZPC,<-epl]
     generalize YS (39::r)=n at ZtY efl ⊢;by_cases h0:n=0
     ·simp only[h0,ZXR];rw[ZWQ U]at efl;rw[Zhd ht efl];exact⟨fun l h=>ZPs,fun _ l h=>ZPs⟩
     ·simp only[h0,ZXO];cases hd:(39::r).drop n with
      |nil=>
       have hn:n=(39::r).length:=by
        have:=congrArg List.length hd;simp only[ZXo,List.length_nil]at this;omega
       rw[ZWR ⟨U,.inl hn⟩]at efl;rw[Zfm ht efl,hd,ZmQ];exact ZTP
      |cons d r'=>
       have hg:(39::r)[n]? =some d:=by
        have:=congrArg List.head? hd;rw[List.head?_drop]at this;exact ZWN
       have hnl:n<(39::r).length:=(ZXq.1 hg).1;have hl':(d::r').length<f:=by
        rw[<-hd,ZXo];simp only[List.length_cons]at hs hnl ⊢;omega
       by_cases hd32:d=32
       ·rw[ZWR ⟨U,.inr (by rw[hg,hd32])⟩]at efl;rw[Zfm ht efl,hd];simp only[hd32,ZXR];have ih':=ih (32::r') (by rw[hd32]at hl';exact hl');cases hp:XN f (32::r')with
        |none=>
         refine⟨fun l h=>ZPs,fun _ l h=>?_⟩;cases hf:fieldsOf (32::r')with
         |none=>rw[hf]at h;cases h
         |some m=>
          rw[hf]at h;cases h;exact ZVV
        |some m=>
         rw[ih'.1 m hp];exact ZTP
       ·rw[ZWQ (by rw[hg];intro h;rcases h.2 with h|h;omega;exact hd32 (ZXc h))]at efl;rw[Zhd ht efl];simp only[hd32,ZXO];exact⟨fun l h=>ZPs,fun _ l h=>ZPs⟩
    ·have epl:YS (c::r)=((c::r).takeWhile fun c=>c≠32&&c≠39).length:=by simp[YS,Xh]
     have efl:Qc (c::r)=some (JB 32 (c::r)).length:=by
      unfold Qc;rw[ZWQ (by simpa using Xh)]
     have hpos:YS (c::r)≠0:=by rw[epl,ZXs,ZWR (by simp[h32,Xh])];simp
     have hsp:=Zw2 (c::r);rw[<-epl]at hsp;generalize YS (c::r)=n at ZtY hpos hsp ⊢;simp only[hpos,ZXO];rw[Zfm ht efl];rcases hsp with⟨h3,h4⟩|⟨r',h3,h4⟩|⟨r',h3,h4⟩
     ·rw[h4,h3,ZmQ];exact ZTP
     ·rw[h4,h3];have hl':(32::r').length<f:=by
       rw[<-h3,ZXo];simp only[List.length_cons]at hs ⊢;omega
      have ih':=ih (32::r') hl';simp only[ZXR];cases hp:XN f (32::r')with
      |none=>
       refine⟨fun l h=>ZPs,fun _ l h=>?_⟩;cases hf:fieldsOf (32::r')with
       |none=>rw[hf]at h;cases h
       |some m=>
        rw[hf]at h;cases h;exact ZVV
      |some m=>
       rw[ih'.1 m hp];exact ZTP
     ·rw[h3];simp only[show ¬(39:UInt8)=32 from ZPl,ZXO];refine⟨fun l h=>by(first|cases h|simp at h),fun _ l h=>?_⟩;cases hf:fieldsOf ((c::r).drop (JB 32 (c::r)).length)with
      |none=>rw[hf]at h;cases h
      |some m=>
       rw[hf]at h;cases h;refine⟨_,ZXn,?_,h4⟩;have:0<(JB 32 (c::r)).length:=by
        unfold JB;rw[ZXs,ZWR (by simpa using h32)];simp
       obtain⟨k,hk⟩:∃k,(JB 32 (c::r)).length=k+1:=⟨_,(Nat.succ_pred_eq_of_pos this).symm⟩;rw[hk,List.take_succ_cons];simpa using Xh
theorem Zre{y:Za}(h:ZgX y):Q3 YI y=false:=by
 rw[Zou];unfold KS;have:(Zk (Ya++Zi) y==y.length)=false:=by
  rw[ZX8];intro e;have:=Zk2 e h.2;revert this;decide
 rw[this];simp
theorem ZzX{y:Za}(h:ZgX y):Q5 y=none:=by
 unfold Q5;rw[ZWQ (fun e=>ZR0),ZWQ (fun e=>ZR0)]
theorem ZzY{y:Za}(h:ZgX y)(t:Int):Jj y t=false:=by
 unfold Jj;have e0:(y== [110,117,108,108])=false:=by
  rw[ZX8];intro e;have:=h.2;rw[e]at this;revert this;decide
 rw[e0,Bool.false_or];split
 ·have hne:y≠ []:=fun e=>by have:=h.2;rw[e]at this;cases this
  rw[Zvi y hne];simp only;have hm:39∈(if decide (y.head? =some 45)=true then y.drop 1 else y):=by
   split
   ·rename_i e;cases y with
    |nil=>exact ZTr
    |cons c r=>
     have hc:c=45:=by simpa using e
     have:=h.2;rw[hc]at this;exact ZWN
   ·exact h.2
  generalize (if decide (y.head? =some 45)=true then y.drop 1 else y)=d at hm ⊢;have hle:=Eu Zi d;rw[ZWR];right;apply Nat.lt_of_le_of_ne hle;intro e;have:=Zk2 e hm;revert this;decide
 ·have:=h.1;exact ZWN
theorem ZvI:∀(l:List Za),l.length%2=0->∀y∈l,∃q∈Zo l,y=q.1\/y=q.2
 | [],_,y,h=>ZPs
 | [_],h,_,_=>ZPY
 |n::t::r,h,y,hy=>by
  rw[Zo];rcases ZW3.1 hy with rfl|hy
  ·exact⟨_,ZXn,.inl rfl⟩
  ·rcases ZW3.1 hy with rfl|hy
   ·exact⟨_,ZXn,.inr rfl⟩
   ·obtain⟨q,hq,e⟩:=ZvI r (by simp at h;omega) y hy;exact⟨q,ZXe _ hq,e⟩
theorem Zrd(st:St)(p:Za)(ps:List Za)(h:∃y∈p::ps,ZgX y):Ug YI st p ps=none:=by
 obtain⟨y,hy,hb⟩:=h;unfold Ug;rcases ZW3.1 hy with rfl|hy
 ·rw[ZWQ (fun e=>ZR1),ZWQ (fun e=>ZR1)]
 ·split
  ·rw[ZWQ];rintro⟨h1,h2,h3,_⟩;cases ps with
   |nil=>cases hy
   |cons x l=>
    rcases ZW3.1 hy with rfl|hy
    ·unfold ZbN at h2;rw[List.getD_cons_zero,Zre hb]at h2;simp at h2
    ·have hl:l.length%2=0:=by
      have:=ZXL h1;simp only[List.length_cons]at this;omega
     obtain⟨q,hq,e⟩:=ZvI l hl y hy;have hok:=ZXQ.1 h3 q (by simpa using hq);unfold Ef at hok;rcases e with rfl|rfl
     ·rw[Zre hb]at hok;simp at hok
     ·rw[ZzX hb]at hok;simp at hok
  ·split
   ·cases st.last with
    |none=>rfl
    |some t=>
     simp only;rw[ZWQ];rintro⟨⟨h1,_⟩,h2⟩;obtain⟨k,hk,rfl⟩:=ZYn.1 hy;rw[Zo6 k hk U (ZzY hb _)]at h2;cases h2
   ·rfl
theorem ZwH(st:St)(h8:st.names.length<=8)(x:Za):EO (Zbn st) x=(Xm YI st x).map Zbn:=by
 have hf:=Zsf (x.length+1) x U;unfold EO Xm;cases hp:Xf x with
 |none=>
  cases hl:fieldsOf x with
  |none=>rfl
  |some l=>
   obtain⟨y,hy,hb⟩:=hf.2 hp l hl;cases l with
   |nil=>cases hy
   |cons p ps=>
    simp only;rw[Zrd st p ps ⟨y,hy,hb⟩];rfl
 |some l=>
  rw[hf.1 l hp];cases l with
  |nil=>rfl
  |cons p ps=>exact ZJh st h8 p ps (fun y hy=>(Zru hp y (ZXe _ hy)).1)
theorem ZBo{Zg:List Za}{st st':St}{x:Za}(h:Xm Zg st x=some st')(h8:st.names.length<=8):st'.names.length<=8:=by
 unfold Xm at h;split at h
 ·cases h
 ·cases h;exact h8
 ·unfold Ug at h;split at h
  ·split at h
   ·rename_i hok;cases h;have:=hok.2.1;unfold ZbN at this;simp only[ZXN,ZXw]at this;simp;omega
   ·cases h
  ·split at h
   ·split at h
    ·cases h
    ·split at h
     ·cases h;exact h8
     ·cases h
   ·cases h
theorem Zwn:∀(ls:List Za) (st:St) (k:Nat),st.names.length<=8->UH (Zbn st) k ls=Zbu YI st k ls
 | [],_,_,_=>rfl
 |x::ls,st,k,h8=>by
  rw[Zbu];cases hc:Xm YI st x with
  |none=>
   have:=ZwH st h8 x;rw[hc]at this;exact ZbR this
  |some st'=>
   have h1:=ZwH st h8 x;rw[hc]at h1;rw[Zk1 h1];exact Zwn ls st' (k+1) (ZBo hc h8)
end Go.Proofs.YthmlacabmlghbaaGreatDoor
