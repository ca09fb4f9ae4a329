import Derived.Test.YthmlacabmlghbaaGreatDoorBgJa24
set_option maxRecDepth 100000
set_option maxHeartbeats 8000000
set_option linter.unusedSimpArgs false
set_option linter.unusedVariables false
namespace Go.Proofs.YthmlacabmlghbaaGreatDoor
open Go.Proofs.Tryz
theorem ZYD{p:Prop}(h:p:=by clear hlo;go_wp2;exact⟨rfl,.inl ⟨HL.out,b',rfl,h0,h1,hB3⟩⟩):p:=h
theorem ZSn{p:Prop}(h:p:=by simp[results,Tryz.results27,go_sem,hc3]):p:=h
theorem ZWj{p:Prop}(h:p:=by rw[JG (t:=rp) ZPl hok,decide_eq_true_eq]at hf2;go_wp2_with fail;go_ret;exact .inl ⟨k'+1,_,U,Zo3 hf hA hf2,rfl,⟨k',t,hf,hf2,hle,rfl,hD,(hR.low hK1.size).keep hK3⟩,hP3,(hK1.trans hK2).trans hK3⟩):p:=h
theorem ZWi{p:Prop}(h:p:=by rw[JG (t:=rp) ZPl hok,decide_eq_false_iff_not]at hf2;have hb':=QM.of (hK1.trans hK2) hb;obtain⟨b,rfl,h1,h2,h3⟩:=hb';go_wp2;exact⟨rfl,.inr ⟨Zo2 hf hA hf2,b,rfl,h1,h2,h3⟩⟩):p:=h
theorem ZU6{p:Prop}(h:p:=by have hb':=QM.of hK1 hb;obtain⟨b,rfl,h1,h2,h3⟩:=hb';go_wp2;exact⟨rfl,.inr ⟨Zo1 hf hA,b,rfl,h1,h2,h3⟩⟩):p:=h
theorem ZWh{p:Prop}(h:p:=by rw[JG (t:=lp) ZPl hok,decide_eq_false_iff_not]at hf;obtain⟨b,rfl,h1,h2,h3⟩:=hb;go_wp2;exact⟨rfl,.inr ⟨Zo0 hf,b,rfl,h1,h2,h3⟩⟩):p:=h
theorem ZUN{p:Prop}(h:p:=by go_wp2_with fail;go_ret;exact⟨rfl,ZO _⟩):p:=h
theorem ZSR{p:Prop}(h:p:=by clear hA1 hA3;go_wp2;exact⟨rfl,.inr ⟨HA.out,b,rfl,h1,h2,h3⟩⟩):p:=h
theorem ZSQ{p:Prop}(h:p:=by clear hA1 HS;go_wp2_with fail;go_ret;exact .inl ⟨k2,_,hle,HA.out,rfl,⟨t,HD.out,hR⟩,hP2,hK⟩):p:=h
section
open Go.RowKit
def Zxw(W:World)(j:Int)(e:Ending)(W':World):Prop:=
 (j=5/\XD W.heap.size 5 0 W e W')\/(j=6/\XD W.heap.size 6 0 W e W')\/(j=0/\∃n y,e= .returned (.iface n y)/\Below W.heap.size W W')
theorem ZGd(W:World)(M:Nat)(db:List Tb)(n:TypeId)(y:Value)(t:Tr)(hD:J4 W M db)(hq:KL W (.iface n y) t)(hs:sz t<=100000):
  Calls prog 29 #[.map (some M),.iface n y] W (Zxw W (ZaO db t)):=by
 have HJ:Hid (ZaO db t=if(jq db t []).2.lost then 5 else if(jq db t []).2.ZG then 6 else 0):=rfl;have HN:Hid (∀w',w'=W.alloc (.cells #[.map (some M),.bool false] 161)->Calls prog 62 #[.pointer (some ⟨W.heap.size,0,none⟩),.iface n y,.pointer none] w' (Jn W w' W.heap.size M false (jq db t []))):=fun w' e=>by
  subst e;exact hq _ W.heap.size M db false 0 [] W.heap.size W.heap.size _ hD ⟨(ZWT _ W).alloc (ZWS _) _,ZWS _,ZWV W _⟩ rfl (ZWS _) ZPm (fun s h=>ZPs) ZPo U
 clear hD hq;generalize ZaO db t=j at *;generalize jq db t []=R at *;obtain⟨Zq,lo,un⟩:=R;unfold Jn at HN;go_enter func29,ntmps29;go_wp2_with fail;refine(HN.out _ rfl).mono ?_;rintro e w1 (⟨hlo,b',rfl,h0,h1,hB3⟩|⟨hlo,qn,qy,tv,rfl,hK,hC,_⟩)
 ·have HL:Hid (j=5):=by show _=_;rw[HJ.out];have h:lo=true:=hlo;rw[h];rfl
  exact ZYD
 ·obtain rfl:lo=false:=hlo;obtain⟨z0,z1,zf⟩:=hC.cells;have XE:Hid (Below W.heap.size W w1):=hC.low;clear hC hK;cases un with
  |true=>
   have HL:Hid (j=6):=by show _=_;rw[HJ.out];rfl
   go_wp2_with fail;refine(ZdS 6 0 _).mono ?_;rintro e w' ⟨rfl,rfl⟩;go_wp2;exact⟨rfl,.inr (.inl ⟨HL.out,w1.heap.size,rfl,ZPm,ZPm,XE.out.alloc XE.out.size _⟩)⟩
  |false=>
   have HL:Hid (j=0):=by show _=_;rw[HJ.out];rfl
   go_wp2_with fail;go_ret;exact .inr (.inr ⟨HL.out,qn,qy,rfl,XE.out⟩)
end
theorem ZoN:∀(k:Nat) (r:Za),r.length<=k->∀(acc:Za) (n:Nat),(Qk acc n r).1.length<=acc.length+r.length
 |0,r,h,acc,n=>by
  have:r= []:=ZX7.1 U;subst this;rw[Zci];exact ZTh
 |k+1, [],h,acc,n=>by rw[Zci];exact ZTh
 |k+1,c::r,h,acc,n=>by
  have hr:r.length<=k:=ZPv
  by_cases h1:c=10
  ·subst h1;rw[Zg1];exact ZTh
  ·by_cases h2:c=39
   ·subst h2;cases r with
    |nil=>rw[Zdh _ _ _ (fun r' e=>ZPF)];simp
    |cons e r=>
     by_cases h3:e=39
     ·subst h3;rw[Zg3];have:=ZoN k r (by simp at hr;omega) (acc++ [39]) (n+2);exact ZWm
     ·rw[Zdh _ _ _ (fun r' e'=>h3 (by cases e';rfl))];simp
   ·rw[Zg2 _ _ _ _ h1 h2];have:=ZoN k r hr (acc++ [c]) (n+1);exact ZWm
theorem ZJC(s:Za):(Z9 s).1.text.length<=s.length:=by
 unfold Z9 Qs;split
 ·split
  ·exact ZTh
  ·exact ZTh
 ·split
  ·exact ZWD
  ·split
   ·show(Yn s).1.length<=_;unfold Yn;have:=ZoN _ (s.drop 1) (ZWS _) [] 1;rw[ZXo]at this;simp only[List.length_nil]at this;omega
   ·split
    ·exact ZWD
    ·split
     ·exact ZWD
     ·exact ZTh
theorem ZJG(s:Za)(f:Nat):∀(i:Nat) (l:List RW),YK s f i= .ok l->∀w∈l,w.text.length<=s.length:=by
 induction f with
 |zero=>intro i l h;unfold YK at h;cases h;exact fun w hw=>(by cases hw)
 |succ f ih=>
  intro i l h;unfold YK at h;split at h
  ·cases h;exact fun w hw=>(by cases hw)
  ·rename_i c r e;have hl:=congrArg List.length e;rw[ZXo]at hl;split at h
   ·exact ih _ _ h
   ·split at h
    ·exact ih _ _ h
    ·split at h
     ·cases h
     ·cases hr:YK s f (i+(Z9 (c::r)).2)with
      |error e=>rw[hr]at h;cases h
      |ok l'=>
       rw[hr]at h;cases h;intro w hw;rcases ZW3.1 hw with rfl|hw
       ·have:=ZJC (c::r);omega
       ·exact ih _ _ hr w hw
theorem ZJI{s:Za}{l:List RW}(h:XB s= .ok l):∀w∈l,w.text.length<=400:=by
 have h4:=(ZfZ h).2.2;unfold XB at h;split at h
 ·cases h
 ·exact fun w hw=>ZW0 (ZJG s _ _ _ h w hw) h4
section
open Go.RowKit
theorem ZAR(pe po:Addr)(w:World):
  CallsD prog 61 #[.pointer (some pe),.pointer (some po)] .returning w fun e u' w'=>e= .returned (.tuple #[])/\u'= .returning/\w'=w:=by
 refine callsD_of_wpS func61 rfl fun c₀ cs hu=>?_;simp only[ntmps61,ZXY,List.length_cons,List.length_nil,Nat.reduceAdd,Nat.reduceSub,ZXZ,Array.replicate_zero,ZX0,ZX1,List.nil_append,List.cons_append];apply wpS_seq;apply wpS_region;simp[wpOpsS,go_sem,recoverD,hu,Exit.thenS];refine wpS_of_wp ?_;go_wp2;cases c₀;simp_all [bodyPostS,results,Tryz.results61]
theorem ZAQ(pe po:Addr)(b:Nat)(old:Value)(w:World)(hc:w.cell? pe=some old)(hz:w.frozen? pe=false):
  CallsD prog 61 #[.pointer (some pe),.pointer (some po)] (.panicking (thrown b)) w fun e u' w'=>
   e= .returned (.tuple #[])/\u'= .panicking [{v:=.iface 77 (.pointer (some ⟨b,0,none⟩)),recovered:=true}]/\w'=w.setCell pe (.iface 77 (.pointer (some ⟨b,0,none⟩))):=by
 refine callsD_of_wpS func61 rfl fun c₀ cs hu=>?_;simp only[ntmps61,ZXY,List.length_cons,List.length_nil,Nat.reduceAdd,Nat.reduceSub,ZXZ,Array.replicate_zero,ZX0,ZX1,List.nil_append,List.cons_append];apply wpS_seq;apply wpS_region;simp[wpOpsS,go_sem,recoverD,hu,thrown,Exit.thenS];refine wpS_of_wp ?_;have YU:∀w,(Instr.typeAssert (.iface 77 (.pointer (some ⟨b,0,none⟩))) 20 77 true).run prog w= .ok (.tuple #[.pointer (some ⟨b,0,none⟩),.bool true]) w:=fun _=>ZPn
 go_wp2;cases c₀;simp_all [bodyPostS,results,Tryz.results61]
theorem ZAP(pd pq:Addr)(other:Int)(w:World)(G:Addr->World->Prop)(B:Nat->World->Prop)
  (h:Calls prog 28 #[.pointer (some pd),.pointer (some pq)] (Y9 w other) fun e w2=>Below (w.heap.size+2) (Y9 w other) w2/\
   ((∃q,e= .returned (.pointer (some q))/\G q w2)\/(∃b,e= .panicked (thrown b)/\B b w2))):
  Calls prog 27 #[.int .i64 other,.func (.func 28) #[] #[.pointer (some pd),.pointer (some pq)]] w fun e w'=>∃w2,Below (w.heap.size+2) (Y9 w other) w2/\
   ((∃q,G q w2/\e= .returned (.tuple #[.pointer (some q),.nilIface])/\w'=w2.setCell ⟨w.heap.size+1,0,none⟩ .nilIface)\/
    (∃b,B b w2/\e= .returned (.tuple #[.pointer none,E9 b])/\w'=w2.setCell ⟨w.heap.size+1,0,none⟩ (E9 b))):=by
 have Xi:∀(fn:Fn) (first cap:Array Value) (w:World),(Instr.makeFunc fn first cap).run prog w= .ok (.func fn first cap) w:=fun _ _ _ _=>rfl;have hc1:(Y9 w other).cell? ⟨w.heap.size+1,0,none⟩=some .nilIface:=ZQk
 have hf1:(Y9 w other).frozen? ⟨w.heap.size+1,0,none⟩=false:=ZQk
 have H:=h;have HH:Hid (Calls prog 28 #[.pointer (some pd),.pointer (some pq)] (Y9 w other) fun e w2=>Below (w.heap.size+2) (Y9 w other) w2/\
   ((∃q,e= .returned (.pointer (some q))/\G q w2)\/(∃b,e= .panicked (thrown b)/\B b w2))):=H
 clear h H;go_enter_defers func27,ntmps27;go_wp2_with fail;refine HH.out.mono ?_;rintro e w2 ⟨hB,⟨q,rfl,hG⟩|⟨b,rfl,Zm2⟩⟩
 ·have hc2:w2.cell? ⟨w.heap.size+1,0,none⟩=some .nilIface:=(hB.cell (p:=⟨w.heap.size+1,0,none⟩) ZPm).trans hc1;have hf2:w2.frozen? ⟨w.heap.size+1,0,none⟩=false:=(hB.frozen (p:=⟨w.heap.size+1,0,none⟩) ZPm).trans hf1;go_wp2;refine leaves_cons (f:=61) (args:=#[.pointer (some ⟨w.heap.size+1,0,none⟩),.pointer (some ⟨w.heap.size,0,none⟩)]) ZPm ZQU ?_;refine(ZAR _ _ _).mono ?_;rintro e u' w'' ⟨rfl,rfl,rfl⟩;have hc3:(w2.setCell ⟨w.heap.size+1,0,none⟩ .nilIface).cell? ⟨w.heap.size+1,0,none⟩=some .nilIface:=World.cell?_setCell_same' _ _ _ ZQV;exact⟨.tuple #[.pointer (some q),.nilIface],ZSn,w2,hB,.inl ⟨q,hG,rfl,rfl⟩⟩
 ·have hc2:w2.cell? ⟨w.heap.size+1,0,none⟩=some .nilIface:=(hB.cell (p:=⟨w.heap.size+1,0,none⟩) ZPm).trans hc1;have hf2:w2.frozen? ⟨w.heap.size+1,0,none⟩=false:=(hB.frozen (p:=⟨w.heap.size+1,0,none⟩) ZPm).trans hf1;go_wp2;refine leaves_cons (f:=61) (args:=#[.pointer (some ⟨w.heap.size+1,0,none⟩),.pointer (some ⟨w.heap.size,0,none⟩)]) ZPm ZQU ?_;refine(ZAQ _ _ b .nilIface _ hc2 hf2).mono ?_;rintro e u' w'' ⟨rfl,rfl,rfl⟩;have hc3:(w2.setCell ⟨w.heap.size+1,0,none⟩ (E9 b)).cell? ⟨w.heap.size+1,0,none⟩=some (E9 b):=World.cell?_setCell_same' _ _ _ ZQV;exact⟨.tuple #[.pointer none,E9 b],ZSn,w2,hB,.inr ⟨b,Zm2,rfl,rfl⟩⟩
end
section
open Go.RowKit
open T NT PK
theorem Zo0{ws:List RW}{k:Nat}{nt:NT}(h:hd ws k≠some lp):ans (round nt) (Zc ws k)=none:=by
 rw[ZgT,KW h];rfl
theorem Zo1{ws:List RW}{k:Nat}{nt:NT}(h:hd ws k=some lp)(h2:ans (P nt) (Zc ws (k+1))=none):ans (round nt) (Zc ws k)=none:=by
 rw[ZgT,Um h,Option.bind_some,h2];rfl
theorem Zo2{ws:List RW}{k k':Nat}{nt:NT}(h:hd ws k=some lp)(h2:ans (P nt) (Zc ws (k+1))=some (Zc ws k'))(h3:hd ws k'≠some rp):ans (round nt) (Zc ws k)=none:=by
 rw[ZgT,Um h,Option.bind_some,h2,Option.bind_some,KW h3]
theorem Zo3{ws:List RW}{k k':Nat}{nt:NT}(h:hd ws k=some lp)(h2:ans (P nt) (Zc ws (k+1))=some (Zc ws k'))(h3:hd ws k'=some rp):ans (round nt) (Zc ws k)=some (Zc ws (k'+1)):=by
 rw[ZgT,Um h,Option.bind_some,h2,Option.bind_some,Um h3]
def Zbi(Pb:Nat)(ws:List RW)(nt:NT)(k n0 k':Nat)(x:Value)(w':World):Prop:=∃m t,hd ws k=some lp/\hd ws m=some rp/\k+1<=m/\k'=m+1/\D nt (sl ws (k+1) m) t/\Zl Pb n0 w' (.v x) t
theorem Zbi.split{Pb:Nat}{ws:List RW}{nt:NT}{k n0 k':Nat}{x:Value}{w':World}(h:Zbi Pb ws nt k n0 k' x w'):∃o c a t,tok o=lp/\tok c=rp/\sl ws k k'=o::(a++ [c])/\D nt a t/\Zl Pb n0 w' (.v x) t:=by
 obtain⟨m,t,h1,h2,h3,rfl,h5,h6⟩:=h;have l1:=Yu h1;have l2:=Yu h2;refine⟨ws[k],ws[m],_,t,Yc h1 l1,Yc h2 l2,?_,h5,h6⟩;rw[Yj l1 U,Zpj l2 h3]
def Zl6(ws:List RW)(nt:NT)(k k':Nat)(x:Value)(w':World):Prop:=∃m t,hd ws k=some lp/\hd ws m=some rp/\k+1<=m/\k'=m+1/\D nt (sl ws (k+1) m) t/\Zdd x t
theorem Zl6.split{ws:List RW}{nt:NT}{k k':Nat}{x:Value}{w':World}(h:Zl6 ws nt k k' x w'):∃o c a t,tok o=lp/\tok c=rp/\sl ws k k'=o::(a++ [c])/\D nt a t/\Zdd x t:=by
 obtain⟨m,t,h1,h2,h3,rfl,h5,h6⟩:=h;have l1:=Yu h1;have l2:=Yu h2;refine⟨ws[k],ws[m],_,t,Yc h1 l1,Yc h2 l2,?_,h5,h6⟩;rw[Yj l1 U,Zpj l2 h3]
theorem ZvD(Pb:Nat)(ws:List RW)(k:Nat)(W:World)(hP:PS Pb ws k W)(hq:Xp Pb ws 64 query (k+1)):
  Calls prog 139 #[.pointer (some ⟨Pb,0,none⟩),.func (.func 64) #[.pointer (some ⟨Pb,0,none⟩)] #[]] W (YR Pb ws k (ans (round query) (Zc ws k)) (Zbi Pb ws query k W.heap.size) W):=by
 have hok:=hP.ok;go_enter func139,ntmps139;go_wp2_with fail;refine(ZeP Pb ws k [40] _ hP ZPl).mono ?_;rintro e w1 (⟨hf,hk,rfl,hP1,hK1⟩|⟨hf,hb⟩)
 ·rw[JG (t:=lp) ZPl hok,ZXw]at hf;go_wp2_with fail;refine(hq (k+1) w1 (ZWS _) hP1).mono ?_;rintro e w2 (⟨k',x,hle,hA,rfl,⟨t,hD,hR⟩,hP2,hK2⟩|⟨hA,hb⟩)
  ·obtain⟨n,y,rfl⟩:=hR.iface;go_wp2_with fail;refine(ZeP Pb ws k' [41] _ hP2 ZPl).mono ?_;rintro e w3 (⟨hf2,hk2,rfl,hP3,hK3⟩|⟨hf2,hb⟩)
   ·exact ZWj
   ·exact ZWi
  ·exact ZU6
 ·exact ZWh
theorem ZI3(Pb:Nat)(ws:List RW)(k:Nat)(W:World)(hP:PS Pb ws k W)(hq:QW Pb ws 229 expr (k+1)):
  Calls prog 298 #[.pointer (some ⟨Pb,0,none⟩),.func (.func 229) #[.pointer (some ⟨Pb,0,none⟩)] #[]] W (YR Pb ws k (ans (round expr) (Zc ws k)) (Zl6 ws expr k) W):=by
 have hok:=hP.ok;go_enter func298,ntmps298;go_wp2_with fail;refine(ZeP Pb ws k [40] _ hP ZPl).mono ?_;rintro e w1 (⟨hf,hk,rfl,hP1,hK1⟩|⟨hf,hb⟩)
 ·rw[JG (t:=lp) ZPl hok,ZXw]at hf;go_wp2_with fail;refine(hq (k+1) w1 (ZWS _) hP1).mono ?_;rintro e w2 (⟨k',x,hle,hA,rfl,⟨t,hD,hR⟩,hP2,hK2⟩|⟨hA,hb⟩)
  ·obtain⟨n,y,rfl⟩:=(hR 0 0 W).iface;go_wp2_with fail;refine(ZeP Pb ws k' [41] _ hP2 ZPl).mono ?_;rintro e w3 (⟨hf2,hk2,rfl,hP3,hK3⟩|⟨hf2,hb⟩)
   ·rw[JG (t:=rp) ZPl hok,ZXw]at hf2;go_wp2_with fail;go_ret;exact .inl ⟨k'+1,_,U,Zo3 hf hA hf2,rfl,⟨k',t,hf,hf2,hle,rfl,hD,hR⟩,hP3,(hK1.trans hK2).trans hK3⟩
   ·exact ZWi
  ·exact ZU6
 ·exact ZWh
theorem ZI2(Pb:Nat)(ws:List RW)(k:Nat)(W:World)(hP:PS Pb ws k W)(hq:Xp Pb ws 185 cnd (k+1)):
  Calls prog 302 #[.pointer (some ⟨Pb,0,none⟩),.func (.func 185) #[.pointer (some ⟨Pb,0,none⟩)] #[]] W (YR Pb ws k (ans (round cnd) (Zc ws k)) (Zbi Pb ws cnd k W.heap.size) W):=by
 have hok:=hP.ok;go_enter func302,ntmps302;go_wp2_with fail;refine(ZeP Pb ws k [40] _ hP ZPl).mono ?_;rintro e w1 (⟨hf,hk,rfl,hP1,hK1⟩|⟨hf,hb⟩)
 ·rw[JG (t:=lp) ZPl hok,ZXw]at hf;go_wp2_with fail;refine(hq (k+1) w1 (ZWS _) hP1).mono ?_;rintro e w2 (⟨k',x,hle,hA,rfl,⟨t,hD,hR⟩,hP2,hK2⟩|⟨hA,hb⟩)
  ·obtain⟨n,y,rfl⟩:=hR.iface;go_wp2_with fail;refine(ZeP Pb ws k' [41] _ hP2 ZPl).mono ?_;rintro e w3 (⟨hf2,hk2,rfl,hP3,hK3⟩|⟨hf2,hb⟩)
   ·exact ZWj
   ·exact ZWi
  ·exact ZU6
 ·exact ZWh
end
section
open Go.RowKit
open T NT PK
def Sg(ws:List RW)(p:T->Bool)(k1 k2:Nat)(s:Za):Prop:=
 (∃(h:k1<ws.length),p (tok ws[k1])=true/\k2=k1+1/\s=(ws[k1]).text/\s≠ [])\/((∀t,hd ws k1=some t->p t=false)/\k2=k1/\s= [])
theorem ZcX(ws:List RW)(k:Nat):(Zc ws k).length=ws.length-k:=by unfold Zc;simp
theorem ZgS{ws:List RW}{k k':Nat}{nt:NT}(h:ans (P nt) (Zc ws k)=some (Zc ws k')):k<k':=by
 have:=Zd1 h;rw[ZcX,ZcX]at this;omega
theorem ZbU{Pb:Nat}{ws:List RW}{k1:Nat}{W:World}{ss:List Za}(p:T->Bool)(hK:∀x∈YE.map Prod.fst,ss.contains x=p (Je x))(hS:∀x∈Y0.map Prod.fst,ss.contains x=p (Vt x))(hn:p name=false)(hl:p lit=false)(h0:ss.contains []=false)(hok:∀w∈ws,Yi w){e:Ending}{w':World}
  (h:Zje Pb ws k1 W (Uq ws k1 ss) (.string ⟨(Qq ws k1).toArray⟩) (.string ⟨#[]⟩) e w'):∃k2 s,e= .returned (.string ⟨s.toArray⟩)/\Sg ws p k1 k2 s/\PS Pb ws k2 w'/\Zb Pb W w':=by
 obtain⟨hKp,⟨hf,hk,rfl,hP1⟩|⟨hf,rfl,hP1⟩⟩:=h
 ·refine⟨k1+1,Qq ws k1,rfl,.inl ⟨hk,?_,rfl,?_,?_⟩,hP1,hKp⟩
  ·rw[fx p hK hS hn hl hok,Zcy hk]at hf;exact hf
  ·have hf2:=hf;rw[fx p hK hS hn hl hok]at hf2;obtain⟨t,ht,hp⟩:=Zq7 hf2;exact Zpz hk hok (by rw[ht];intro e;cases e;rw[hl]at hp;cases hp)
  ·intro e;unfold Uq QD at hf;rw[e,h0]at hf;simp at hf
 ·refine⟨k1, [],rfl,.inr ⟨fun t ht=>?_,rfl,rfl⟩,hP1,hKp⟩;rw[fx p hK hS hn hl hok]at hf;exact Zq6 hf ht
theorem ZdR{w:RW}(hw:Yi w){p:T->Bool}(hp:p (tok w)=true){L:List Za}(hK:∀x∈YE.map Prod.fst,p (Je x)=true->x∈L)(hS:∀x∈Y0.map Prod.fst,p (Vt x)=true->x∈L)(hn:p name=false)(hl:p lit=false):w.text∈L:=by
 unfold tok at hp;rcases hw with⟨h,ht⟩|⟨h,ht⟩|h|h|h
 ·rw[h,ZWR rfl]at hp;exact hK _ ht hp
 ·rw[h,ZWQ ZPl,ZWR rfl]at hp;exact hS _ ht hp
 ·rw[h,ZWQ (show ¬Yz=YC by decide),ZWQ (show ¬Yz=ZT by decide),ZWR (show Yz=Yz from rfl),hn]at hp;cases hp
 ·rw[h,ZWQ (show ¬Yh=YC by decide),ZWQ (show ¬Yh=ZT by decide),ZWQ (show ¬Yh=Yz by decide),hl]at hp;cases hp
 ·rw[h,ZWQ (show ¬Yd=YC by decide),ZWQ (show ¬Yd=ZT by decide),ZWQ (show ¬Yd=Yz by decide),hl]at hp;cases hp
theorem ZvB(n1 n2:Nat)(y1 y2:Value)(s:Za)(W:World):
  Calls prog 235 #[.agg #[.iface n1 y1,.string ⟨s.toArray⟩,.iface n2 y2]] W fun e w'=>e= .returned (.iface 312 (.agg #[.iface n1 y1,.string ⟨s.toArray⟩,.iface n2 y2]))/\Below W.heap.size W w':=by
 go_enter func235,ntmps235;exact ZUN
theorem Zvx(n1 n2:Nat)(y1 y2:Value)(s:Za)(W:World):
  Calls prog 265 #[.agg #[.iface n1 y1,.string ⟨s.toArray⟩,.iface n2 y2]] W fun e w'=>e= .returned (.iface 407 (.agg #[.iface n1 y1,.string ⟨s.toArray⟩,.iface n2 y2]))/\Below W.heap.size W w':=by
 go_enter func265,ntmps265;exact ZUN
end
section
open Go.RowKit
open T NT PK
theorem ZA3{ws:List RW}{k1:Nat}(h:∀t,hd ws k1=some t->(t==Qr)=false):ans (R cnd) (Zc ws k1)=some (Zc ws k1):=by
 cases e:Zc ws k1 with
 |nil=>exact Zdf cnd ZPm
 |cons u r=>
  have:=h u (Ji e);rw[ZqH,ZWQ ZQ9]
theorem ZrD{ws:List RW}{k1:Nat}(hk:k1<ws.length)(h:(tok ws[k1]==Qr)=true):ans (R cnd) (Zc ws k1)=(ans (P ZF) (Zc ws (k1+1))).bind (ans (R cnd)):=by
 rw[Za4 hk,ZqH,ZWR ZPv]
theorem ZID(Pb:Nat)(ws:List RW)(k b1 b2 S cap:Nat)(W:World)(hP:PS Pb ws k W)(hS:Zcd Pb b1 b2 S cap [[111,114]] W)(hq:Xp Pb ws 233 ZF k):
  Calls prog 232 #[.func (.func 233) #[.pointer (some ⟨Pb,0,none⟩)] #[],.func (.func 267) #[] #[.pointer (some ⟨b1,0,none⟩),.pointer (some ⟨b2,0,none⟩)],.func (.func 235) #[] #[]] W (YR Pb ws k (ans (P cnd) (Zc ws k)) (Part Pb ws cnd k W.heap.size) W):=by
 have hok:=hP.ok;go_enter func232,ntmps232;go_wp2_with fail;refine(hq k W (ZWS _) hP).mono ?_;rintro e w1 (⟨k1,x,hle,hA,rfl,⟨t,hD,hR⟩,hP1,hK1⟩|⟨hA,hb⟩)
 ·obtain⟨n,y,rfl⟩:=hR.iface;have hA1:Hid (ans (P cnd) (Zc ws k)=ans (R cnd) (Zc ws k1)):=by show _=_;rw[ZqT,hA,Option.bind_some]
  clear hA;go_wp2_with fail;refine(ZdK Pb ws k1 b1 b2 S cap _ _ hP1 (hS.keep hK1) ZPm).mono ?_;rintro e w2 hT;obtain⟨k2,s,rfl,hs,hP2,hK2⟩:=ZbU (·==Qr) ZPl ZPl ZPl ZPl ZPl hok hT;clear hT;have HS:Hid (Sg ws (·==Qr) k1 k2 s):=hs;clear hs;have HD:Hid (D cnd (sl ws k k1) t):=.Uy hD;clear hD;have ZcC:=hP2.le;go_wp2_with fail;go_loopg [7,8] (ws.length-k2+1) (fun gk lv sv wr=>∃(k1 k2:Nat) (t:Tr) (n:Nat) (y:Value) (s:Za),gk=ws.length-k2+1/\k2<=ws.length/\k<=k1/\lv= .iface n y/\sv= .string ⟨s.toArray⟩/\Hid (D cnd (sl ws k k1) t)/\Zl Pb W.heap.size wr (.v (.iface n y)) t/\Hid (ans (P cnd) (Zc ws k)=ans (R cnd) (Zc ws k1))/\Hid (Sg ws (·==Qr) k1 k2 s)/\PS Pb ws k2 wr/\Zb Pb W wr);case atStart=>exact⟨k1,k2,t,n,y,s,rfl,ZcC,hle,rfl,rfl,HD,hR.keep hK2,hA1,HS,hP2,hK1.trans hK2⟩
  case round=>
   obtain⟨k1,k2,t,n,y,s,rfl,hl2,hle,rfl,rfl,HD,hR,hA1,HS,hP2,hK⟩:=hrel;rcases HS.out with⟨hk1,hp,rfl,hs,hne⟩|⟨hno,rfl,rfl⟩
   ·have hne':(s== [])=false:=by simpa using hne
    have HX:Hid (s=(ws[k1]).text/\(tok ws[k1]==Qr)=true):=⟨hs,hp⟩;have HN:Hid (s≠ []):=hne;clear HS hs hp hne;go_wp2_with fail;refine(hq (k1+1) wr U hP2).mono ?_;rintro e w3 (⟨k3,x,hle3,hA3,rfl,⟨t3,hD3,XP⟩,hP3,hK3⟩|⟨hA3,hb⟩)
    ·obtain⟨n3,y3,rfl⟩:=XP.iface;have ZbB:=ZgS hA3;go_wp2_with fail;refine(ZvB n n3 y y3 s _).mono ?_;rintro e w4 ⟨rfl,hB4⟩;have YP:=hP3.keep hB4;have hK4:=(hK.trans hK3).trans (Zb.of Pb hB4);go_wp2_with fail;refine(ZdK Pb ws k3 b1 b2 S cap _ _ YP (hS.keep hK4) ZPm).mono ?_;rintro e w5 hT;obtain⟨k5,s5,rfl,hs5,Xy,Yg⟩:=ZbU (·==Qr) ZPl ZPl ZPl ZPl ZPl hok hT;clear hT;have HS5:Hid (Sg ws (·==Qr) k3 k5 s5):=hs5;have hk5:k3<=k5:=by rcases hs5 with⟨_,_,h,_⟩|⟨_,h,_⟩<;>omega
     clear hs5;have hl5:=Xy.le;have HR5:Hid (Zl Pb W.heap.size w5 (.v (.iface 312 (.agg #[.iface n y,.string ⟨s.toArray⟩,.iface n3 y3]))) (nd {kind:=s} (l2 t t3))):=
      Zl.ZaT (by rw[HX.out.1];exact ZdR (p:=(·==Qr)) (hok _ (ZWX hk1)) HX.out.2 ZPl ZPl ZPl ZPl) (hR.keep ((hK3.trans (Zb.of Pb hB4)).trans Yg)) ((XP.low hK.size).keep ((Zb.of Pb hB4).trans Yg))
     have XL:Hid (ans (P cnd) (Zc ws k)=ans (R cnd) (Zc ws k3)):=by
      show _=_;rw[hA1.out,ZrD hk1 HX.out.2,hA3,Option.bind_some]
     have HD5:Hid (D cnd (sl ws k k3) (nd {kind:=s} (l2 t t3))):=by
      show D _ _ _;rw[QR ws (show k<=k1 by omega) (show k1<=k3 by omega),Yj hk1 U,HX.out.1];exact .Uz ZRa HD.out hD3
     clear hA3 hD3 HD hA1 hR XP;go_wp2_with fail;go_roundg (ws.length-k5+1);case measure=>omega
     case rel=>exact ZT1
    ·have hb':=QM.of hK hb;obtain⟨b,rfl,h1,h2,h3⟩:=hb';have HA:Hid (ans (P cnd) (Zc ws k)=none):=by show _=_;rw[hA1.out,ZrD hk1 HX.out.2,hA3];rfl
     exact ZSR
   ·have HA:Hid (ans (P cnd) (Zc ws k)=some (Zc ws k2)):=by show _=_;rw[hA1.out,ZA3 hno]
    exact ZSQ
 ·obtain⟨b,rfl,h1,h2,h3⟩:=hb;go_wp2;exact⟨rfl,.inr ⟨by rw[ZqT,hA];rfl,b,rfl,h1,h2,h3⟩⟩
theorem ZA4{ws:List RW}{k1:Nat}(h:∀t,hd ws k1=some t->(t==Qa)=false):ans (R ZF) (Zc ws k1)=some (Zc ws k1):=by
 cases e:Zc ws k1 with
 |nil=>exact Zdf ZF ZPm
 |cons u r=>
  have:=h u (Ji e);rw[ZqJ,ZWQ ZQ9]
theorem ZrE{ws:List RW}{k1:Nat}(hk:k1<ws.length)(h:(tok ws[k1]==Qa)=true):ans (R ZF) (Zc ws k1)=(ans (P neg) (Zc ws (k1+1))).bind (ans (R ZF)):=by
 rw[Za4 hk,ZqJ,ZWR ZPv]
theorem ZIE(Pb:Nat)(ws:List RW)(k b1 b2 S cap:Nat)(W:World)(hP:PS Pb ws k W)(hS:Zcd Pb b1 b2 S cap [[97,110,100]] W)(hq:Xp Pb ws 266 neg k):
  Calls prog 232 #[.func (.func 266) #[.pointer (some ⟨Pb,0,none⟩)] #[],.func (.func 267) #[] #[.pointer (some ⟨b1,0,none⟩),.pointer (some ⟨b2,0,none⟩)],.func (.func 235) #[] #[]] W (YR Pb ws k (ans (P ZF) (Zc ws k)) (Part Pb ws ZF k W.heap.size) W):=by
 have hok:=hP.ok;go_enter func232,ntmps232;go_wp2_with fail;refine(hq k W (ZWS _) hP).mono ?_;rintro e w1 (⟨k1,x,hle,hA,rfl,⟨t,hD,hR⟩,hP1,hK1⟩|⟨hA,hb⟩)
 ·obtain⟨n,y,rfl⟩:=hR.iface;have hA1:Hid (ans (P ZF) (Zc ws k)=ans (R ZF) (Zc ws k1)):=by show _=_;rw[ZqW,hA,Option.bind_some]
  clear hA;go_wp2_with fail;refine(ZdK Pb ws k1 b1 b2 S cap _ _ hP1 (hS.keep hK1) ZPm).mono ?_;rintro e w2 hT;obtain⟨k2,s,rfl,hs,hP2,hK2⟩:=ZbU (·==Qa) ZPl ZPl ZPl ZPl ZPl hok hT;clear hT;have HS:Hid (Sg ws (·==Qa) k1 k2 s):=hs;clear hs;have HD:Hid (D ZF (sl ws k k1) t):=.Ux hD;clear hD;have ZcC:=hP2.le;go_wp2_with fail;go_loopg [7,8] (ws.length-k2+1) (fun gk lv sv wr=>∃(k1 k2:Nat) (t:Tr) (n:Nat) (y:Value) (s:Za),gk=ws.length-k2+1/\k2<=ws.length/\k<=k1/\lv= .iface n y/\sv= .string ⟨s.toArray⟩/\Hid (D ZF (sl ws k k1) t)/\Zl Pb W.heap.size wr (.v (.iface n y)) t/\Hid (ans (P ZF) (Zc ws k)=ans (R ZF) (Zc ws k1))/\Hid (Sg ws (·==Qa) k1 k2 s)/\PS Pb ws k2 wr/\Zb Pb W wr);case atStart=>exact⟨k1,k2,t,n,y,s,rfl,ZcC,hle,rfl,rfl,HD,hR.keep hK2,hA1,HS,hP2,hK1.trans hK2⟩
  case round=>
   obtain⟨k1,k2,t,n,y,s,rfl,hl2,hle,rfl,rfl,HD,hR,hA1,HS,hP2,hK⟩:=hrel;rcases HS.out with⟨hk1,hp,rfl,hs,hne⟩|⟨hno,rfl,rfl⟩
   ·have hne':(s== [])=false:=by simpa using hne
    have HX:Hid (s=(ws[k1]).text/\(tok ws[k1]==Qa)=true):=⟨hs,hp⟩;have HN:Hid (s≠ []):=hne;clear HS hs hp hne;go_wp2_with fail;refine(hq (k1+1) wr U hP2).mono ?_;rintro e w3 (⟨k3,x,hle3,hA3,rfl,⟨t3,hD3,XP⟩,hP3,hK3⟩|⟨hA3,hb⟩)
    ·obtain⟨n3,y3,rfl⟩:=XP.iface;have ZbB:=ZgS hA3;go_wp2_with fail;refine(ZvB n n3 y y3 s _).mono ?_;rintro e w4 ⟨rfl,hB4⟩;have YP:=hP3.keep hB4;have hK4:=(hK.trans hK3).trans (Zb.of Pb hB4);go_wp2_with fail;refine(ZdK Pb ws k3 b1 b2 S cap _ _ YP (hS.keep hK4) ZPm).mono ?_;rintro e w5 hT;obtain⟨k5,s5,rfl,hs5,Xy,Yg⟩:=ZbU (·==Qa) ZPl ZPl ZPl ZPl ZPl hok hT;clear hT;have HS5:Hid (Sg ws (·==Qa) k3 k5 s5):=hs5;have hk5:k3<=k5:=by rcases hs5 with⟨_,_,h,_⟩|⟨_,h,_⟩<;>omega
     clear hs5;have hl5:=Xy.le;have HR5:Hid (Zl Pb W.heap.size w5 (.v (.iface 312 (.agg #[.iface n y,.string ⟨s.toArray⟩,.iface n3 y3]))) (nd {kind:=s} (l2 t t3))):=
      Zl.ZaT (by rw[HX.out.1];exact ZdR (p:=(·==Qa)) (hok _ (ZWX hk1)) HX.out.2 ZPl ZPl ZPl ZPl) (hR.keep ((hK3.trans (Zb.of Pb hB4)).trans Yg)) ((XP.low hK.size).keep ((Zb.of Pb hB4).trans Yg))
     have XL:Hid (ans (P ZF) (Zc ws k)=ans (R ZF) (Zc ws k3)):=by
      show _=_;rw[hA1.out,ZrE hk1 HX.out.2,hA3,Option.bind_some]
     have HD5:Hid (D ZF (sl ws k k3) (nd {kind:=s} (l2 t t3))):=by
      show D _ _ _;rw[QR ws (show k<=k1 by omega) (show k1<=k3 by omega),Yj hk1 U,HX.out.1];exact .Uw ZRa HD.out hD3
     clear hA3 hD3 HD hA1 hR XP;go_wp2_with fail;go_roundg (ws.length-k5+1);case measure=>omega
     case rel=>exact ZT1
    ·have hb':=QM.of hK hb;obtain⟨b,rfl,h1,h2,h3⟩:=hb';have HA:Hid (ans (P ZF) (Zc ws k)=none):=by show _=_;rw[hA1.out,ZrE hk1 HX.out.2,hA3];rfl
     exact ZSR
   ·have HA:Hid (ans (P ZF) (Zc ws k)=some (Zc ws k2)):=by show _=_;rw[hA1.out,ZA4 hno]
    exact ZSQ
 ·obtain⟨b,rfl,h1,h2,h3⟩:=hb;go_wp2;exact⟨rfl,.inr ⟨by rw[ZqW,hA];rfl,b,rfl,h1,h2,h3⟩⟩
end
section
open Go.RowKit
open T NT PK
theorem ZA5{ws:List RW}{k1:Nat}(h:∀t,hd ws k1=some t->isAdd t=false):ans (R expr) (Zc ws k1)=some (Zc ws k1):=by
 cases e:Zc ws k1 with
 |nil=>exact Zdf expr ZPm
 |cons u r=>
  have:=h u (Ji e);rw[ZqK,ZWQ ZQ9]
theorem ZrF{ws:List RW}{k1:Nat}(hk:k1<ws.length)(h:isAdd (tok ws[k1])=true):ans (R expr) (Zc ws k1)=(ans (P term) (Zc ws (k1+1))).bind (ans (R expr)):=by
 rw[Za4 hk,ZqK,ZWR ZPv]
theorem ZIF(Pb:Nat)(ws:List RW)(k b1 b2 S cap:Nat)(W:World)(hP:PS Pb ws k W)(hS:Zcd Pb b1 b2 S cap [[43], [45]] W)(hq:QW Pb ws 264 term k):
  Calls prog 263 #[.func (.func 264) #[.pointer (some ⟨Pb,0,none⟩)] #[],.func (.func 267) #[] #[.pointer (some ⟨b1,0,none⟩),.pointer (some ⟨b2,0,none⟩)],.func (.func 265) #[] #[]] W (YR Pb ws k (ans (P expr) (Zc ws k)) (Vy ws expr k) W):=by
 have hok:=hP.ok;go_enter func263,ntmps263;go_wp2_with fail;refine(hq k W (ZWS _) hP).mono ?_;rintro e w1 (⟨k1,x,hle,hA,rfl,⟨t,hD,hR⟩,hP1,hK1⟩|⟨hA,hb⟩)
 ·obtain⟨n,y,rfl⟩:=(hR 0 0 W).iface;have hA1:Hid (ans (P expr) (Zc ws k)=ans (R expr) (Zc ws k1)):=by show _=_;rw[ZqY,hA,Option.bind_some]
  clear hA;go_wp2_with fail;refine(ZdK Pb ws k1 b1 b2 S cap _ _ hP1 (hS.keep hK1) ZPm).mono ?_;rintro e w2 hT;obtain⟨k2,s,rfl,hs,hP2,hK2⟩:=ZbU isAdd ZPl ZPl ZPl ZPl ZPl hok hT;clear hT;have HS:Hid (Sg ws isAdd k1 k2 s):=hs;clear hs;have HD:Hid (D expr (sl ws k k1) t):=.Uj hD;clear hD;have ZcC:=hP2.le;go_wp2_with fail;go_loopg [7,8] (ws.length-k2+1) (fun gk lv sv wr=>∃(k1 k2:Nat) (t:Tr) (n:Nat) (y:Value) (s:Za),gk=ws.length-k2+1/\k2<=ws.length/\k<=k1/\lv= .iface n y/\sv= .string ⟨s.toArray⟩/\Hid (D expr (sl ws k k1) t)/\Zdd (.iface n y) t/\Hid (ans (P expr) (Zc ws k)=ans (R expr) (Zc ws k1))/\Hid (Sg ws isAdd k1 k2 s)/\PS Pb ws k2 wr/\Zb Pb W wr);case atStart=>exact⟨k1,k2,t,n,y,s,rfl,ZcC,hle,rfl,rfl,HD,hR,hA1,HS,hP2,hK1.trans hK2⟩
  case round=>
   obtain⟨k1,k2,t,n,y,s,rfl,hl2,hle,rfl,rfl,HD,hR,hA1,HS,hP2,hK⟩:=hrel;rcases HS.out with⟨hk1,hp,rfl,hs,hne⟩|⟨hno,rfl,rfl⟩
   ·have hne':(s== [])=false:=by simpa using hne
    have HX:Hid (s=(ws[k1]).text/\isAdd (tok ws[k1])=true):=⟨hs,hp⟩;have HN:Hid (s≠ []):=hne;clear HS hs hp hne;go_wp2_with fail;refine(hq (k1+1) wr U hP2).mono ?_;rintro e w3 (⟨k3,x,hle3,hA3,rfl,⟨t3,hD3,XP⟩,hP3,hK3⟩|⟨hA3,hb⟩)
    ·obtain⟨n3,y3,rfl⟩:=(XP 0 0 W).iface;have ZbB:=ZgS hA3;go_wp2_with fail;refine(Zvx n n3 y y3 s _).mono ?_;rintro e w4 ⟨rfl,hB4⟩;have YP:=hP3.keep hB4;have hK4:=(hK.trans hK3).trans (Zb.of Pb hB4);go_wp2_with fail;refine(ZdK Pb ws k3 b1 b2 S cap _ _ YP (hS.keep hK4) ZPm).mono ?_;rintro e w5 hT;obtain⟨k5,s5,rfl,hs5,Xy,Yg⟩:=ZbU isAdd ZPl ZPl ZPl ZPl ZPl hok hT;clear hT;have HS5:Hid (Sg ws isAdd k3 k5 s5):=hs5;have hk5:k3<=k5:=by rcases hs5 with⟨_,_,h,_⟩|⟨_,h,_⟩<;>omega
     clear hs5;have hl5:=Xy.le;have HR5:Hid (Zdd (.iface 407 (.agg #[.iface n y,.string ⟨s.toArray⟩,.iface n3 y3])) (nd {kind:=s} (l2 t t3))):=
      fun _ _ _=>Zl.arith (by rw[HX.out.1];exact ZdR (p:=isAdd) (hok _ (ZWX hk1)) HX.out.2 ZPl ZPl ZPl ZPl) (hR _ _ _) (XP _ _ _)
     have XL:Hid (ans (P expr) (Zc ws k)=ans (R expr) (Zc ws k3)):=by
      show _=_;rw[hA1.out,ZrF hk1 HX.out.2,hA3,Option.bind_some]
     have HD5:Hid (D expr (sl ws k k3) (nd {kind:=s} (l2 t t3))):=by
      show D _ _ _;rw[QR ws (show k<=k1 by omega) (show k1<=k3 by omega),Yj hk1 U,HX.out.1];exact .Ui ZRa HD.out hD3
     clear hA3 hD3 HD hA1 hR XP;go_wp2_with fail;go_roundg (ws.length-k5+1);case measure=>omega
     case rel=>exact ZT1
    ·have hb':=QM.of hK hb;obtain⟨b,rfl,h1,h2,h3⟩:=hb';have HA:Hid (ans (P expr) (Zc ws k)=none):=by show _=_;rw[hA1.out,ZrF hk1 HX.out.2,hA3];rfl
     exact ZSR
   ·have HA:Hid (ans (P expr) (Zc ws k)=some (Zc ws k2)):=by show _=_;rw[hA1.out,ZA5 hno]
    exact ZSQ
 ·obtain⟨b,rfl,h1,h2,h3⟩:=hb;go_wp2;exact⟨rfl,.inr ⟨by rw[ZqY,hA];rfl,b,rfl,h1,h2,h3⟩⟩
theorem ZA7{ws:List RW}{k1:Nat}(h:∀t,hd ws k1=some t->isMul t=false):ans (R term) (Zc ws k1)=some (Zc ws k1):=by
 cases e:Zc ws k1 with
 |nil=>exact Zdf term ZPm
 |cons u r=>
  have:=h u (Ji e);rw[ZqO,ZWQ ZQ9]
theorem ZrH{ws:List RW}{k1:Nat}(hk:k1<ws.length)(h:isMul (tok ws[k1])=true):ans (R term) (Zc ws k1)=(ans (P factor) (Zc ws (k1+1))).bind (ans (R term)):=by
 rw[Za4 hk,ZqO,ZWR ZPv]
theorem ZII(Pb:Nat)(ws:List RW)(k b1 b2 S cap:Nat)(W:World)(hP:PS Pb ws k W)(hS:Zcd Pb b1 b2 S cap [[42], [47], [37]] W)(hq:QW Pb ws 286 factor k):
  Calls prog 263 #[.func (.func 286) #[.pointer (some ⟨Pb,0,none⟩)] #[],.func (.func 267) #[] #[.pointer (some ⟨b1,0,none⟩),.pointer (some ⟨b2,0,none⟩)],.func (.func 265) #[] #[]] W (YR Pb ws k (ans (P term) (Zc ws k)) (Vy ws term k) W):=by
 have hok:=hP.ok;go_enter func263,ntmps263;go_wp2_with fail;refine(hq k W (ZWS _) hP).mono ?_;rintro e w1 (⟨k1,x,hle,hA,rfl,⟨t,hD,hR⟩,hP1,hK1⟩|⟨hA,hb⟩)
 ·obtain⟨n,y,rfl⟩:=(hR 0 0 W).iface;have hA1:Hid (ans (P term) (Zc ws k)=ans (R term) (Zc ws k1)):=by show _=_;rw[Zq5,hA,Option.bind_some]
  clear hA;go_wp2_with fail;refine(ZdK Pb ws k1 b1 b2 S cap _ _ hP1 (hS.keep hK1) ZPm).mono ?_;rintro e w2 hT;obtain⟨k2,s,rfl,hs,hP2,hK2⟩:=ZbU isMul ZPl ZPl ZPl ZPl ZPl hok hT;clear hT;have HS:Hid (Sg ws isMul k1 k2 s):=hs;clear hs;have HD:Hid (D term (sl ws k k1) t):=.UA hD;clear hD;have ZcC:=hP2.le;go_wp2_with fail;go_loopg [7,8] (ws.length-k2+1) (fun gk lv sv wr=>∃(k1 k2:Nat) (t:Tr) (n:Nat) (y:Value) (s:Za),gk=ws.length-k2+1/\k2<=ws.length/\k<=k1/\lv= .iface n y/\sv= .string ⟨s.toArray⟩/\Hid (D term (sl ws k k1) t)/\Zdd (.iface n y) t/\Hid (ans (P term) (Zc ws k)=ans (R term) (Zc ws k1))/\Hid (Sg ws isMul k1 k2 s)/\PS Pb ws k2 wr/\Zb Pb W wr);case atStart=>exact⟨k1,k2,t,n,y,s,rfl,ZcC,hle,rfl,rfl,HD,hR,hA1,HS,hP2,hK1.trans hK2⟩
  case round=>
   obtain⟨k1,k2,t,n,y,s,rfl,hl2,hle,rfl,rfl,HD,hR,hA1,HS,hP2,hK⟩:=hrel;rcases HS.out with⟨hk1,hp,rfl,hs,hne⟩|⟨hno,rfl,rfl⟩
   ·have hne':(s== [])=false:=by simpa using hne
    have HX:Hid (s=(ws[k1]).text/\isMul (tok ws[k1])=true):=⟨hs,hp⟩;have HN:Hid (s≠ []):=hne;clear HS hs hp hne;go_wp2_with fail;refine(hq (k1+1) wr U hP2).mono ?_;rintro e w3 (⟨k3,x,hle3,hA3,rfl,⟨t3,hD3,XP⟩,hP3,hK3⟩|⟨hA3,hb⟩)
    ·obtain⟨n3,y3,rfl⟩:=(XP 0 0 W).iface;have ZbB:=ZgS hA3;go_wp2_with fail;refine(Zvx n n3 y y3 s _).mono ?_;rintro e w4 ⟨rfl,hB4⟩;have YP:=hP3.keep hB4;have hK4:=(hK.trans hK3).trans (Zb.of Pb hB4);go_wp2_with fail;refine(ZdK Pb ws k3 b1 b2 S cap _ _ YP (hS.keep hK4) ZPm).mono ?_;rintro e w5 hT;obtain⟨k5,s5,rfl,hs5,Xy,Yg⟩:=ZbU isMul ZPl ZPl ZPl ZPl ZPl hok hT;clear hT;have HS5:Hid (Sg ws isMul k3 k5 s5):=hs5;have hk5:k3<=k5:=by rcases hs5 with⟨_,_,h,_⟩|⟨_,h,_⟩<;>omega
     clear hs5;have hl5:=Xy.le;have HR5:Hid (Zdd (.iface 407 (.agg #[.iface n y,.string ⟨s.toArray⟩,.iface n3 y3])) (nd {kind:=s} (l2 t t3))):=
      fun _ _ _=>Zl.arith (by rw[HX.out.1];exact ZdR (p:=isMul) (hok _ (ZWX hk1)) HX.out.2 ZPl ZPl ZPl ZPl) (hR _ _ _) (XP _ _ _)
     have XL:Hid (ans (P term) (Zc ws k)=ans (R term) (Zc ws k3)):=by
      show _=_;rw[hA1.out,ZrH hk1 HX.out.2,hA3,Option.bind_some]
     have HD5:Hid (D term (sl ws k k3) (nd {kind:=s} (l2 t t3))):=by
      show D _ _ _;rw[QR ws (show k<=k1 by omega) (show k1<=k3 by omega),Yj hk1 U,HX.out.1];exact .UB ZRa HD.out hD3
     clear hA3 hD3 HD hA1 hR XP;go_wp2_with fail;go_roundg (ws.length-k5+1);case measure=>omega
     case rel=>exact ZT1
    ·have hb':=QM.of hK hb;obtain⟨b,rfl,h1,h2,h3⟩:=hb';have HA:Hid (ans (P term) (Zc ws k)=none):=by show _=_;rw[hA1.out,ZrH hk1 HX.out.2,hA3];rfl
     exact ZSR
   ·have HA:Hid (ans (P term) (Zc ws k)=some (Zc ws k2)):=by show _=_;rw[hA1.out,ZA7 hno]
    exact ZSQ
 ·obtain⟨b,rfl,h1,h2,h3⟩:=hb;go_wp2;exact⟨rfl,.inr ⟨by rw[Zq5,hA];rfl,b,rfl,h1,h2,h3⟩⟩
end
end Go.Proofs.YthmlacabmlghbaaGreatDoor
