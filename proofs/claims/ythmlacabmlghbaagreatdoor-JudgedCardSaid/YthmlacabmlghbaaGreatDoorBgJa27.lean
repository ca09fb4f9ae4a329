import Derived.Deep.CutBlock
import Derived.Test.YthmlacabmlghbaaGreatDoorBgJx
import Derived.Test.YthmlacabmlghbaaGreatDoorBgPrG
set_option maxRecDepth 100000
set_option maxHeartbeats 8000000
set_option linter.unusedSimpArgs false
set_option linter.unusedVariables false
namespace Go.Proofs.YthmlacabmlghbaaGreatDoor
open Go.Proofs.Tryz
theorem ZUF{p:Prop}(h:p:=by go_wp2_with fail;go_ret;exact⟨ZQ3,HB.out⟩):p:=h
theorem ZUq{p:Prop}(h:p:=by go_wp2;exact⟨rfl,.inl ⟨hlo,b',rfl,h0,h1,hB3⟩⟩):p:=h
theorem ZUY{p:Prop}(h:p:=by have HI1:=(show Hid _ from hI1);have HF:=(show Hid _ from hF);clear hI1 hF;go_wp2_with fail;go_ret2;exact .inr ⟨hlo,f1,f2,f3,rfl,(Fr.of_below ZE).trans HF.out,HI1.out⟩):p:=h
section
open Go.RowKit
open T NT
theorem ZIm:∀p∈YE++Y0,p.2=Qr->p.1= [111,114]:=by decide
theorem Zzg:∀p∈YE++Y0,p.2=Qa->p.1= [97,110,100]:=by decide
theorem ZEb:∀p∈YE++Y0,XI p.2=true->p.1= [97,110,121]\/p.1= [97,108,108]:=by decide
theorem Zvp{w:RW}(h:tok w=Qr):w.text= [111,114]:=ZIm _ (ZcY h ZPl ZPl) rfl
theorem ZqG{w:RW}(h:tok w=Qa):w.text= [97,110,100]:=Zzg _ (ZcY h ZPl ZPl) rfl
theorem ZtU{w:RW}(h:XI (tok w)=true):w.text= [97,110,121]\/w.text= [97,108,108]:=ZEb _ (ZcY rfl (ZnP h).2.1 (ZnP h).2.2) h
def Oc(t:Tr):Prop:=t= .nil\/UO t
def DJ(k:NT)(t:Tr):Prop:=match k with
 |query=>Zbk t
 |core=>Zbk t
 |cnd=>UO t
 |ZF=>UO t
 |neg=>UO t
 |basic=>UO t
 |items=>∀x∈elems t.kids,∃fi e,x=nd fi (l1 e)
 |NT.item=>∃fi e,t=nd fi (l1 e)
 |tail=>Oc t.Q6/\Oc t.Qn
 |after=>Oc t.Q6/\Oc t.Qn
 |Z6=>Oc t.Q6/\Oc t.Qn
 |_=>True
theorem Zwz{x y z:Tr}:∀{k:Tr},z∈elems (k.snoc y)->z∈elems k\/z=y
 | .nil,h=>by simp[Tr.snoc,elems]at h;exact .inr h
 | .node _ _ _ _ _ _ _,h=>by simp[Tr.snoc,elems]at h;exact .inr h
 | .cons a t,h=>by
  simp only[Tr.snoc,elems,ZW3]at h ⊢;rcases h with h|h
  ·exact .inl (.inl h)
  ·rcases Zwz (x:=x) h with h|h
   ·exact .inl (.inr h)
   ·exact .inr h
theorem Zw3{P:Tr->Prop}{x y:Tr}(h1:P x)(h2:P y):∀z∈elems (l2 x y),P z:=fun z hz=>by
 simp only[l2,elems,ZW3,ZXV,ZXK]at hz;rcases hz with rfl|rfl
 ·exact h1
 ·exact h2
theorem Zvn{P:Tr->Prop}{x:Tr}(h1:P x):∀z∈elems (l1 x),P z:=fun z hz=>by
 simp only[l1,elems,ZW3,ZXV,ZXK]at hz;rw[hz];exact h1
theorem D.dj{k:NT}{l:List RW}{t:Tr}(h:D k l t):DJ k t:=by
 induction h with
 |Kt _ ih=>exact ih
 |U4 _ _ _ ih=>exact ih
 |Uy _ ih=>exact ih
 |Ux _ ih=>exact ih
 |UC _ ih=>exact ih
 |VG _ _ _ ih=>exact ih
 |Ku hu _ _ ih1 ih2=>exact ZTo
 |Kv hu _ _ _ ih1 ih2=>exact ZTo
 |Ue _ _ _ _ ih=>exact Zk0 _ _ _ _ _ _ rfl ih.1 ih.2 ZQM
 |Uf _ _ _ _ _ ih=>exact Zk0 _ _ _ _ _ _ rfl ih.1 ih.2 ZQM
 |VI _ _ _ _ ih1 ih2=>exact Zk0 _ _ _ _ _ _ rfl ih2.1 ih2.2 ih1
 |VJ _ _ _ _ _ ih1 ih2=>exact Zk0 _ _ _ _ _ _ rfl ih2.1 ih2.2 ih1
 |UM _ _=>exact⟨.inl rfl,.inl rfl⟩
 |V5 _ _ _ _ ih=>exact ih
 |UL _ _ _ _ _ ih=>exact ih
 |U1 _ ih=>exact⟨.inr ih,.inl rfl⟩
 |Ub _ _ _ _ ih1 ih2=>exact⟨.inr ih1,ih2.2⟩
 |Ur _ _=>exact⟨.inl rfl,.inl rfl⟩
 |Us _ _ _ _ ih=>exact⟨.inl rfl,.inr ih⟩
 |Ke _ ih=>exact Zvn ih
 |VV _ _ _ ih1 ih2=>
  intro z hz;rcases Zwz (x:=z) hz with h|rfl
  ·exact ih1 z h
  ·exact ih2
 |item _ _=>exact ZTI
 |Kh _ _ _ _=>exact ZTI
 |Uz hu _ _ ih1 ih2=>exact ZmG _ _ (.inr (.inl (Zvp hu))) (Zw3 ih1 ih2)
 |Uw hu _ _ ih1 ih2=>exact ZmG _ _ (.inl (ZqG hu)) (Zw3 ih1 ih2)
 |UD _ _ ih=>exact ZmG _ _ (.inr (.inr rfl)) (Zvn ih)
 |VB _ _ _ _ ih=>exact ZBx _ _ rfl ih
 |VF _ _ _ _=>exact ZrX _ _ rfl
 |VE _ _ _ _ _=>exact ZrX _ _ rfl
 |VC _ _ _ _ _ _ ih=>exact ZmF _ _ _ (.inl rfl) ih
 |VD _ _ _ _ _ _ _ ih=>exact ZmF _ _ _ (.inl rfl) ih
 |QX _ hh _ _ _ _ _ ih=>exact ZmF _ _ _ (.inr (ZtU hh)) ih
 |J9 _ _ _ _ _=>exact ZBw _ _ _ rfl
 |_=>exact trivial
theorem J2(x:Tr):sz x.kids+sz x.Jo+sz x.YB+sz x.Q6+sz x.Qn<=sz x-1:=by
 cases x<;>simp[Tr.kids,Tr.Jo,Tr.YB,Tr.Q6,Tr.Qn,sz];omega
theorem Zlb(y:Tr):∀k:Tr,sz (k.snoc y)<=sz k+sz y
 | .nil=>by simp[Tr.snoc,sz]
 | .node _ _ _ _ _ _ _=>by simp[Tr.snoc,sz]
 | .cons a t=>by have:=Zlb y t;simp only[Tr.snoc,sz];omega
def extra:NT->Nat
 |NT.item=>1
 |items=>2
 |sources=>2
 |Zu=>2
 |tail=>2
 |after=>2
 |Z6=>2
 |_=>0
theorem D.sz{k:NT}{l:List RW}{t:Tr}(h:D k l t):sz t<=3*l.length+extra k:=by
 induction h
 case Ue x _ _ _ _ ih|Uf x _ _ _ _ _ ih=>have:=J2 x;simp only[_root_.Go.Proofs.YthmlacabmlghbaaGreatDoor.sz,XV,extra,List.length_cons]at *;omega
 case VI x y _ _ _ _ ih1 ih2|VJ x y _ _ _ _ _ ih1 ih2=>have:=J2 x;have:=J2 y;simp only[_root_.Go.Proofs.YthmlacabmlghbaaGreatDoor.sz,XV,extra,List.length_cons,ZW9]at *;omega
 case UM x _ ih|Ur x _ ih=>have:=J2 x;simp only[_root_.Go.Proofs.YthmlacabmlghbaaGreatDoor.sz,ZV,extra,List.length_cons]at *;omega
 case V5 x y _ _ _ ih1 ih2|UL x y _ _ _ _ ih1 ih2|Ub x y _ _ _ _ ih1 ih2|Us x y _ _ _ ih1 ih2=>have:=J2 x;have:=J2 y;simp only[_root_.Go.Proofs.YthmlacabmlghbaaGreatDoor.sz,ZV,extra,List.length_cons,ZW9]at *;omega
 case VV x y _ _ _ ih1 ih2|UI x y _ _ _ ih1 ih2|Ud x y _ _ _ ih1 ih2=>have:=J2 x;have:=Zlb y x.kids;simp only[_root_.Go.Proofs.YthmlacabmlghbaaGreatDoor.sz,nd,extra,List.length_cons,ZW9]at *;omega
 all_goals
  simp only[_root_.Go.Proofs.YthmlacabmlghbaaGreatDoor.sz,nd,l1,l2,ZV,extra,List.length_cons,ZW9,List.length_nil]at *;omega
theorem ZJn{M N K:Nat}{W:World}{t:Tr}{v:Value}(h:Zr M N W t v)(hK:W.heap.size<=K):Zr K K W t v:=
 (((ZoL t).1 v (h.fresh hK)).fresh (N':=K) hK)
theorem ZJ8(M N:Nat)(Zj tv:Value)(db:List Tb)(t:Tr)(W:World)(hdb:Vz [] W Zj db)(hdk:Zc2 db)(hq:Zbk t)(hl:sz t<=1000000)(hp:Zr M N W t tv)(hg:Good t):
  Calls prog 7 #[Zj,tv] W fun e W'=>e= .returned (.int .i64 (ZaO db t))/\Below W.heap.size W W':=by
 obtain⟨da,dc,rfl⟩:∃a c,Zj= .slice a db.length c:=by obtain⟨a,c,e,_⟩:=hdb;exact⟨a,c,e⟩
 obtain⟨o,rfl⟩:=EN hp;have HC:Hid (∀w',Jg W.heap.size (.slice da db.length dc) {} w'->Below W.heap.size W w'->w'.heap.size=W.heap.size+1->Calls prog 21 #[.pointer (some ⟨W.heap.size,0,none⟩),.pointer o,.pointer none] w' fun e W'=>∃v,e= .returned v/\Zb W.heap.size w' W'/\Jg W.heap.size (.slice da db.length dc) (jq db t []).2 W'):=fun w' hj hB _=>by
  have hp2:=ZJn hp (ZWS _);have hwide:∀g,g∈ [W.heap.size]->g∈ []\/W.heap.size<=g:=fun g hg=>.inr (by rw[ZXh.1 hg];exact ZWS _);have hI:JIn W.heap.size (.slice da db.length dc) db [] (.pointer none) w':=⟨(hdb.wide hwide).same (Same.of_below (X:= [W.heap.size]) hB) (fun _ h=>h),hdk,rfl,fun s hs=>by cases hs⟩;refine(hq W.heap.size W.heap.size _ db {} [] _ w' _ hj hI (by simpa using hl) (hp2.keep (Zb.of_below hB)) hg).mono ?_;rintro e W' ⟨v,rfl,h1,h2,_⟩;exact⟨v,rfl,h1,by rwa [Jr.none_or]at h2⟩
 have HE:Hid (ZaO db t=if(jq db t []).2.lost then 5 else if(jq db t []).2.ZG then 6 else 0):=rfl;generalize ZaO db t=R at *;generalize (jq db t []).2=r at *;clear hdb hdk hq hl hp hg;go_enter func7,ntmps7;go_wp2_with fail;refine(HC.out _ ?_ ?_ ?_).mono ?_
 ·exact ZWV W _
 ·exact Below.alloc (ZWT _ _) (ZWS _) _
 ·simp
 rintro e W' ⟨v,rfl,hK,hj⟩;obtain⟨j0,j1,j2⟩:=hj.cells;have hB:Below W.heap.size W W':=by
  have h0:Below W.heap.size W (W.alloc (.cells #[.slice da db.length dc,.bool false,.bool false] 68)):=Below.alloc (ZWT _ _) (ZWS _) _;exact⟨hK.os.trans h0.os,hK.tape.trans h0.tape,hK.output.trans h0.output,ZW0 h0.size hK.size,fun g hg=>(hK.block g U (ZXi hg h0.size)).trans (h0.block g hg)⟩
 have HB:=(show Hid _ from hB);clear HC hj hB hK;obtain⟨lost,ZG⟩:=r;cases lost
 ·cases ZG
  ·exact ZUF
  ·exact ZUF
 ·exact ZUF
end
section
open T NT
def ZdB:List Za:= [Yh,Yd, [110,117,108,108], [99,111,108,117,109,110], [99,111,117,110,116]]
def ZeZ:List Za:= [[105,110], [97,110,121], [97,108,108]]
def ZcG:Za:= [110,101,103]
def ZaR:Za:= [110,111,116]
def ZaP:Za:= [101,120,105,115,116,115]
def ZaQ:Za:= [105,115,110,117,108,108]
def ZbK:Za:= [99,111,109,112,97,114,101]
inductive K:Nat->Tr->Prop
 |leaf {f:Fl}:f.kind∈ZdB->K 0 (nd f .nil)
 |un {f:Fl} {x:Tr}:f.kind=ZcG\/f.kind∈Yf->K 0 x->K 0 (nd f (l1 x))
 |bin {f:Fl} {x y:Tr}:f.kind∈Ec->K 0 x->K 0 y->K 0 (nd f (l2 x y))
 |ZaT {f:Fl} {x y:Tr}:f.kind∈ZfQ->K 1 x->K 1 y->K 1 (nd f (l2 x y))
 |not_ {f:Fl} {x:Tr}:f.kind=ZaR->K 1 x->K 1 (nd f (l1 x))
 |Xu {f:Fl} {y:Tr}:f.kind=ZaP->K 2 y->K 1 (nd f (l1 y))
 |isNull {f:Fl} {x:Tr}:f.kind=ZaQ->K 0 x->K 1 (nd f (l1 x))
 |cmp {f:Fl} {x y:Tr}:f.kind=ZbK->K 0 x->K 0 y->K 1 (nd f (l2 x y))
 |within {f:Fl} {x y:Tr}:f.kind∈ZeZ->K 0 x->K 2 y->K 1 (nd f (l2 x y))
 |joined {f:Fl} {x y:Tr}:f.kind∈UK->K 2 x->K 2 y->K 2 (nd f (l2 x y))
 |select {f:Fl} {i fr g w h:Tr}:f.kind=QE->K 3 i->K 5 w->K 5 h->K 2 (.node f .nil i fr g w h)
 |ZeN:K 5 .nil
 |Zir {w:Tr}:K 1 w->K 5 w
 |EI:K 3 .nil
 |Kg {z r:Tr}:K 4 z->K 3 r->K 3 (.cons z r)
 |item {f:Fl} {t:Tr}:K 0 t->K 4 (nd f (l1 t))
theorem K.snoc{y:Tr}(hy:K 4 y):∀{k:Tr},K 3 k->K 3 (k.snoc y)
 | .nil,_=>.Kg hy .EI
 | .node _ _ _ _ _ _ _,h=>ZPs
 | .cons a t,h=>by
  cases h with
  |Kg h1 h2=>exact .Kg h1 (K.snoc hy h2)
theorem K.inv0{f:Fl}{k i fr g w h:Tr}(hk:K 0 (.node f k i fr g w h)):(k= .nil/\f.kind∈ZdB)\/(∃x,k=l1 x/\(f.kind=ZcG\/f.kind∈Yf)/\K 0 x)\/(∃x y,k=l2 x y/\f.kind∈Ec/\K 0 x/\K 0 y):=by
 generalize ht:Tr.node f k i fr g w h=t at hk;generalize hn:(0:Nat)=n at hk;cases hk with
 |leaf hf=>cases ht;exact .inl ⟨rfl,hf⟩
 |un hf hx=>cases ht;exact .inr (.inl ⟨_,rfl,hf,hx⟩)
 |bin hf hx hy=>cases ht;exact .inr (.inr ⟨_,_,rfl,hf,hx,hy⟩)
 |Zir _=>omega
 |_=>omega
theorem K.inv1{f:Fl}{k i fr g w h:Tr}(hk:K 1 (.node f k i fr g w h)):(∃x y,k=l2 x y/\f.kind∈ZfQ/\K 1 x/\K 1 y)\/(∃x,k=l1 x/\f.kind=ZaR/\K 1 x)\/(∃y,k=l1 y/\f.kind=ZaP/\K 2 y)\/(∃x,k=l1 x/\f.kind=ZaQ/\K 0 x)\/(∃x y,k=l2 x y/\f.kind=ZbK/\K 0 x/\K 0 y)\/(∃x y,k=l2 x y/\f.kind∈ZeZ/\K 0 x/\K 2 y):=by
 generalize ht:Tr.node f k i fr g w h=t at hk;generalize hn:(1:Nat)=n at hk;cases hk with
 |ZaT hf hx hy=>cases ht;exact .inl ⟨_,_,rfl,hf,hx,hy⟩
 |not_ hf hx=>cases ht;exact .inr (.inl ⟨_,rfl,hf,hx⟩)
 |Xu hf hx=>cases ht;exact .inr (.inr (.inl ⟨_,rfl,hf,hx⟩))
 |isNull hf hx=>cases ht;exact .inr (.inr (.inr (.inl ⟨_,rfl,hf,hx⟩)))
 |cmp hf hx hy=>cases ht;exact .inr (.inr (.inr (.inr (.inl ⟨_,_,rfl,hf,hx,hy⟩))))
 |within hf hx hy=>cases ht;exact .inr (.inr (.inr (.inr (.inr ⟨_,_,rfl,hf,hx,hy⟩))))
 |_=>omega
theorem K.inv2{f:Fl}{k i fr g w h:Tr}(hk:K 2 (.node f k i fr g w h)):(∃x y,k=l2 x y/\f.kind∈UK/\K 2 x/\K 2 y)\/(k= .nil/\f.kind=QE/\K 3 i/\K 5 w/\K 5 h):=by
 generalize ht:Tr.node f k i fr g w h=t at hk;generalize hn:(2:Nat)=n at hk;cases hk with
 |joined hf hx hy=>cases ht;exact .inl ⟨_,_,rfl,hf,hx,hy⟩
 |select hf hi hw hh=>cases ht;exact .inr ⟨rfl,hf,hi,hw,hh⟩
 |_=>omega
theorem K.ZEX{z r:Tr}(hk:K 3 (.cons z r)):K 4 z/\K 3 r:=by
 cases hk with
 |Kg h1 h2=>exact⟨h1,h2⟩
theorem K.ZEY{f:Fl}{t:Tr}(hk:K 4 (nd f (l1 t))):K 0 t:=by
 generalize ht:nd f (l1 t)=t' at hk;generalize hn:(4:Nat)=n at hk;cases hk with
 |item h=>cases ht;exact h
 |_=>omega
theorem K.ZEZ{t:Tr}(hk:K 5 t):t= .nil\/K 1 t:=by
 generalize hn:(5:Nat)=n at hk;cases hk with
 |ZeN=>exact ZS5
 |Zir h=>exact .inr h
 |_=>omega
theorem ZG9:Yh∈ZdB:=by decide
theorem ZHb:Yd∈ZdB:=by decide
theorem ZG8:([110,117,108,108]:Za)∈ZdB:=by decide
theorem Zu4:([99,111,108,117,109,110]:Za)∈ZdB:=by decide
theorem ZHa:([99,111,117,110,116]:Za)∈ZdB:=by decide
theorem ZM9:([97,110,121]:Za)∈ZeZ:=by decide
theorem ZM8:([97,108,108]:Za)∈ZeZ:=by decide
theorem ZK4:∀p∈YE++Y0,isSet p.2=true->p.1∈UK:=by decide
theorem ZyX:∀p∈YE++Y0,isAdd p.2=true->p.1∈Ec:=by decide
theorem ZHW:∀p∈YE++Y0,isMul p.2=true->p.1∈Ec:=by decide
theorem Zy4:∀p∈YE++Y0,isAgg p.2=true->p.1∈Yf:=by decide
theorem Zwv{w:RW}(h:isSet (tok w)=true):w.text∈UK:=ZK4 _ (ZcY rfl ZP8 ZP8) h
theorem ZyY{w:RW}(h:isAdd (tok w)=true):w.text∈Ec:=ZyX _ (ZcY rfl ZP8 ZP8) h
theorem ZHX{w:RW}(h:isMul (tok w)=true):w.text∈Ec:=ZHW _ (ZcY rfl ZP8 ZP8) h
theorem Zy7{w:RW}(h:isAgg (tok w)=true):w.text∈Yf:=Zy4 _ (ZcY rfl ZP8 ZP8) h
def kof:NT->Tr->Prop
 |query,t=>K 2 t
 |core,t=>K 2 t
 |items,t=>K 3 t.kids
 |NT.item,t=>K 4 t
 |expr,t=>K 0 t
 |term,t=>K 0 t
 |factor,t=>K 0 t
 |column,t=>K 0 t
 |cnd,t=>K 1 t
 |ZF,t=>K 1 t
 |neg,t=>K 1 t
 |basic,t=>K 1 t
 |tail,t=>K 5 t.Q6/\K 5 t.Qn
 |after,t=>K 5 t.Q6/\K 5 t.Qn
 |Z6,t=>K 5 t.Q6/\K 5 t.Qn
 |_,_=>True
theorem D.k{k:NT}{l:List RW}{t:Tr}(h:D k l t):kof k t:=by
 induction h with
 |Kt _ ih=>exact ih
 |Ku hu _ _ ih1 ih2=>exact K.joined (Zwv hu) ih1 ih2
 |Kv hu _ _ _ ih1 ih2=>exact K.joined (Zwv hu) ih1 ih2
 |U4 _ _ _ ih=>exact ih
 |Ue _ _ _ _ ih=>exact K.select rfl K.EI ih.1 ih.2
 |Uf _ _ _ _ _ ih=>exact K.select rfl K.EI ih.1 ih.2
 |VI _ _ _ _ ih1 ih2=>exact K.select rfl ih1 ih2.1 ih2.2
 |VJ _ _ _ _ _ ih1 ih2=>exact K.select rfl ih1 ih2.1 ih2.2
 |UM _ _=>exact⟨K.ZeN,K.ZeN⟩
 |V5 _ _ _ _ ih=>exact ih
 |UL _ _ _ _ _ ih=>exact ih
 |U1 _ ih=>exact⟨K.Zir ih,K.ZeN⟩
 |Ub _ _ _ _ ih1 ih2=>exact⟨K.Zir ih1,ih2.2⟩
 |Ur _ _=>exact⟨K.ZeN,K.ZeN⟩
 |Us _ _ _ _ ih=>exact⟨K.ZeN,K.Zir ih⟩
 |Ke _ ih=>exact K.Kg ih K.EI
 |VV _ _ _ ih1 ih2=>exact K.snoc ih2 ih1
 |item _ ih=>exact K.item ih
 |Kh _ _ _ ih=>exact K.item ih
 |Ei _ _=>trivial
 |UI _ _ _ _ _=>trivial
 |src _=>trivial
 |Ej _ _ _=>trivial
 |KU _ _=>trivial
 |Ud _ _ _ _ _=>trivial
 |JF _=>exact K.leaf Zu4
 |Uh _ _ _=>exact K.leaf Zu4
 |Uy _ ih=>exact ih
 |Uz hu _ _ ih1 ih2=>exact K.ZaT (by rw[show _=_ from Zvp hu];decide) ih1 ih2
 |Ux _ ih=>exact ih
 |Uw hu _ _ ih1 ih2=>exact K.ZaT (by rw[show _=_ from ZqG hu];decide) ih1 ih2
 |UD _ _ ih=>exact K.not_ rfl ih
 |UC _ ih=>exact ih
 |VB _ _ _ _ ih=>exact K.Xu rfl ih
 |VG _ _ _ ih=>exact ih
 |VF _ _ _ ih=>exact K.isNull rfl ih
 |VE _ _ _ _ ih=>exact K.isNull rfl ih
 |VC _ _ _ _ _ ih1 ih2=>exact K.within ZSg ih1 ih2
 |VD _ _ _ _ _ _ ih1 ih2=>exact K.within ZSg ih1 ih2
 |QX _ hh _ _ _ _ ih1 ih2=>
  refine K.within ?_ ih1 ih2;rcases ZtU hh with e|e
  ·rw[e];exact ZM9
  ·rw[e];exact ZM8
 |J9 _ _ _ ih1 ih2=>exact K.cmp rfl ih1 ih2
 |Uj _ ih=>exact ih
 |Ui hu _ _ ih1 ih2=>exact K.bin (ZyY hu) ih1 ih2
 |UA _ ih=>exact ih
 |UB hu _ _ ih1 ih2=>exact K.bin (ZHX hu) ih1 ih2
 |Vf _ _ ih=>exact K.un (.inl rfl) ih
 |Zea _ _=>exact K.leaf ZG9
 |Zeb _ _=>exact K.leaf ZHb
 |Un _=>exact K.leaf ZG8
 |Uo _ _ _ _=>exact K.leaf ZHa
 |QO hu _ _ _ ih=>exact K.un (.inr (Zy7 hu)) ih
 |Vg _ _ _ ih=>exact ih
 |Ve _ ih=>exact ih
end
section
open Go.RowKit
theorem ZGk(W:World)(C:Nat)(rv:Value):Calls prog 254 #[.pointer (some ⟨C,0,none⟩),.nilIface,rv] W fun e W'=>∃f1 f2 f3,e= .returned (.tuple #[.func f1 f2 f3,.int .i64 1])/\Below W.heap.size W W':=by
 go_enter func254,ntmps254;go_wp2_with fail;refine(Zoe _ _ _).mono ?_;rintro e w1 ⟨g1,g2,g3,rfl,hB⟩;go_wp2_with fail;go_ret2;exact⟨_,_,_,rfl,hB⟩
theorem ZGj(l:Value)(x:Tr)(hl:XK l x)(hil:∃n y,l= .iface n y)(W0 W:World)(C M:Nat)(cl:Bool)(m:Nat)(ss:List Sc)(nb n b:Nat)(hI:Z7 W0 W C M cl m ss nb n b)(hm:m+sz x<=1000000):Calls prog 254 #[.pointer (some ⟨C,0,none⟩),l,.pointer (some ⟨b,0,none⟩)] W (QT W0 W C M cl m ss nb b x):=by
 obtain⟨ln,ly,rfl⟩:=hil;have hcall:=hl W0 W C M cl m ss nb n b hI hm;unfold QT at *;go_enter func254,ntmps254;go_wp2_with fail;refine hcall.mono ?_;rintro e w1 (⟨hlo,b',rfl,h0,h1,hB3⟩|⟨hlo,f1,f2,f3,rfl,hF,hI1⟩)
 ·exact ZUq
 ·have HI1:=(show Hid _ from hI1);have HF:=(show Hid _ from hF);have HL:=(show Hid _ from hlo);clear hI1 hF hlo hcall;go_wp2_with fail;go_ret2;exact .inr ⟨HL.out,_,_,_,rfl,HF.out,HI1.out⟩
theorem ZuD(W0 W:World)(C b:Nat)(sv av:Value)(s:Za)(v:Value)(hv:v= .nilIface\/∃n y,v= .iface n y)(ho:W.heap[b]? =some (.cells #[sv,av,.pointer none] 256 (0,0))):Calls prog 218 #[.pointer (some ⟨C,0,none⟩),.agg #[.string ⟨s.toArray⟩,v],.pointer (some ⟨b,0,none⟩)] W fun e W'=>XD W.heap.size 5 0 W e W':=by
 have hbl:=(ZWU.1 ho).1;have c2:W.cell? ⟨b,2,none⟩=some (.pointer none):=ZP7
 rcases hv with rfl|⟨n,y,rfl⟩;all_goals
  go_enter func218,ntmps218;go_wp2_with fail;refine(ZcI _).mono ?_;rintro e w' ⟨b',rfl,h0,h1,hB3⟩;go_wp2;exact⟨rfl,b',rfl,h0,h1,((ZWT _ W).alloc (ZWS _) _).trans (hB3.mono ZPm)⟩
theorem ZEU{W0 W:World}{m nb n:Nat}{s:Sc}{up:List Sc}{sv av:Value}{xs:List XS}{nb' rb:Nat}(hsv:U0 W sv xs)(hs:Xk s xs)(ht:∀x∈xs,∃B,Qi B W0 x.T x.Ze)(hnb:nb<=n)(hup:Yv W0 W m up nb' nb av)(hr:W.heap[rb]? =some (.cells #[sv,av,.pointer none] 256 (0,0))):Yv W0 W m (inside (s::up)) nb n (.pointer (some ⟨rb,0,none⟩)):=
 ⟨rb,sv,av,.pointer none,xs,nb',rfl,hr,hsv,⟨hs.len,hs.names,hs.tabs,hs.nd,hs.ne,hs.le,hs.ok⟩,ht,hnb,hup,.inl ⟨by show pIn≠YV;decide,rfl⟩⟩
end
section
open Go.RowKit
theorem Zvc{W0 W wz w7:World}{C M:Nat}{cl cl2:Bool}{m nb n b:Nat}{sc:Sc}{up:List Sc}{sv av kv:Value}{xs:List XS}{nb' G rb mk mc g2 cap2:Nat}{ma:Option Addr}{ps:List (Nat×Nat)}{o:Obj}{ys ys':List Value}
  (hI:Z7 W0 W C M cl m (sc::up) nb n b)(Yy:sc.phase=YV)(ho:W.heap[b]? =some (.cells #[sv,av,.pointer (some ⟨G,0,none⟩)] 256 (0,0)))(hsv:U0 W sv xs)(hs:Xk sc xs)(ht:∀x∈xs,∃B,Qi B W0 x.T x.Ze)(hnb:nb<=n)(hup:Yv W0 W m up nb' nb av)
  (h6:Zgn W m nb n sv av sc xs G kv (.slice ma mk mc) rb ps)(hKW:Zb C W wz)(hC:Y3 W0 C M cl2 wz)(Vl:wz.ownsRow nb 452 2 (.slice ma mk mc) mk ys)(hmk:mk<=m)(EH:w7.ownsRow nb 452 2 (.slice (some ⟨g2,0,none⟩) (mk+1) cap2) (mk+1) ys')(Ut:(wz.alloc o).grownBy w7 (Value.slice ma mk mc).ownBlock):
  FX nb C W (w7.setCell ⟨G,2,none⟩ (.slice (some ⟨g2,0,none⟩) (mk+1) cap2))/\Z7 W0 (w7.setCell ⟨G,2,none⟩ (.slice (some ⟨g2,0,none⟩) (mk+1) cap2)) C M cl2 (m+1) (sc::up) nb (w7.setCell ⟨G,2,none⟩ (.slice (some ⟨g2,0,none⟩) (mk+1) cap2)).heap.size b:=by
 have hsz:wz.heap.size<=w7.heap.size:=by have:=Ut.size;simp at this;omega
 have hsW:=hKW.size;have hn:=hI.n;have hge:=h6.ge;have hG0:=h6.obj;have hck:W.heap[C]? =_:=hI.ck.obj;have hkeep:∀(g:Nat) (ob:Obj),wz.heap[g]? =some ob->some g≠(Value.slice ma mk mc).ownBlock->g≠G->(w7.setCell ⟨G,2,none⟩ (.slice (some ⟨g2,0,none⟩) (mk+1) cap2)).heap[g]? =some ob:=fun g ob e h1 h2=>by
  have hl:=(ZWU.1 e).1;exact(ZXf w7 ⟨G,2,none⟩ _ g h2).trans ((Ut.block g ZPo h1).trans ((ZXa wz o g hl).trans e))
 have hwz:∀(g:Nat) (cu:Array Value) (ty:TypeId),W.heap[g]? =some (.cells cu ty (0,0))->ty≠161->wz.heap[g]? =some (.cells cu ty (0,0)):=fun g cu ty e ht=>hKW.obj (fun eg=>by rw[eg,hck]at e;cases e;exact ht rfl) e;have VQ:=hwz _ _ _ hG0 ZPl;have hne:∀(g:Nat) (cu:Array Value) (ty:TypeId) (fr:Nat×Nat),wz.heap[g]? =some (.cells cu ty fr)->ty≠452->some g≠(Value.slice ma mk mc).ownBlock:=fun g cu ty fr e ht eg=>by
  rcases Vl.2 with⟨e1,_⟩|⟨g1,cap,cu1,e1,_,hh,_⟩
  ·rw[e1]at eg;cases eg
  ·rw[e1]at eg;cases eg;rw[e]at hh;cases hh;exact ht rfl
 have hCz:=hC.obj;have hCG:C≠G:=fun e=>by rw[e,VQ]at hCz;cases hCz
 have ZaL:∀(g:Nat) (cu:Array Value) (ty:TypeId),W.heap[g]? =some (.cells cu ty (0,0))->ty≠161->ty≠274->ty≠452->(w7.setCell ⟨G,2,none⟩ (.slice (some ⟨g2,0,none⟩) (mk+1) cap2)).heap[g]? =some (.cells cu ty (0,0)):=fun g cu ty e h1 h2 h3=>
  hkeep g _ (hwz g cu ty e h1) (hne g cu ty _ (hwz g cu ty e h1) h3) (fun eg=>by rw[eg,hG0]at e;cases e;exact h2 rfl)
 have EE:w7.heap[G]? =some (.cells #[kv,.pointer (some ⟨rb,0,none⟩),.slice ma mk mc] 274 (0,0)):=(Ut.block G (by have:=(ZWU.1 VQ).1;simp;omega) (hne _ _ _ _ VQ ZPl)).trans ((ZXa wz o G (ZWU.1 VQ).1).trans VQ);have hG8:=Xn (k:=2) (u:=.slice (some ⟨g2,0,none⟩) (mk+1) cap2) EE;have hlow:∀g,g<nb->g≠C->g<W.heap.size->(w7.setCell ⟨G,2,none⟩ (.slice (some ⟨g2,0,none⟩) (mk+1) cap2)).heap[g]? =W.heap[g]? :=fun g h1 h2 h3=>by
  have Zn:∃ob,wz.heap[g]? =some ob:=⟨_,Array.getElem?_eq_getElem (ZXi h3 hsW)⟩;obtain⟨ob,Zn⟩:=Zn;have h4:some g≠(Value.slice ma mk mc).ownBlock:=fun eg=>by
   have:=(Vl.lt g eg.symm).1;omega
  exact(hkeep g ob Zn h4 U).trans (Zn.symm.trans (hKW.block g h2 h3))
 have hS:Zjb W (w7.setCell ⟨G,2,none⟩ (.slice (some ⟨g2,0,none⟩) (mk+1) cap2)):=⟨fun g cu e=>ZaL g cu _ e ZPl ZPl ZPl,fun g cu e=>ZaL g cu _ e ZPl ZPl ZPl,fun g cu e=>ZaL g cu _ e ZPl ZPl ZPl⟩;have Zkq:(w7.setCell ⟨G,2,none⟩ (.slice (some ⟨g2,0,none⟩) (mk+1) cap2)).heap.size=w7.heap.size:=ZPm
 have hos:w7.os=W.os/\w7.tape=W.tape/\w7.output=W.output:=⟨Ut.os.trans hKW.os,Ut.tape.trans hKW.tape,Ut.output.trans hKW.output⟩;have hFX:FX nb C W (w7.setCell ⟨G,2,none⟩ (.slice (some ⟨g2,0,none⟩) (mk+1) cap2)):=by
  refine⟨hos.1,hos.2.1,hos.2.2,by rw[Zkq];omega,hlow,fun g ob e hp=>?_⟩;have hgC:g≠C:=fun eg=>by rw[eg,hck]at e;exact(hp _ _ _ (ZXc e).symm).1 rfl
  have hgG:g≠G:=fun eg=>by rw[eg,hG0]at e;exact(hp _ _ _ (ZXc e).symm).2.1 rfl
  have ez:=hKW.obj hgC e;refine hkeep g ob ez (fun eg=>?_) hgG;rcases Vl.2 with⟨e1,_⟩|⟨g1,cap,cu1,e1,_,hh,_⟩
  ·rw[e1]at eg;cases eg
  ·rw[e1]at eg;cases eg;rw[ez]at hh;exact(hp _ _ _ (ZXc hh)).2.2 rfl
 refine⟨hFX,⟨hFX.below hI.ck.low hI.nb hI.ck.hC (ZWS _),hI.ck.hC,hkeep C _ hCz (hne _ _ _ _ hCz ZPl) hCG⟩,?_,hI.nb,ZWS _,hI.gl,hI.len⟩;refine⟨b,sv,av,.pointer (some ⟨G,0,none⟩),xs,nb',rfl,hS.place _ _ ho,hsv.same hS.source,hs,ht,by rw[Zkq];omega,?_,.inr ⟨Yy,G,kv,.slice (some ⟨g2,0,none⟩) (mk+1) cap2,rb,ps,rfl,hge,?_,hG8,h6.keys.same hS.int,h6.is,hS.place _ _ h6.rows,⟨mk+1,ys',U,?_⟩,?_⟩⟩
 ·refine Yv.wide (Yv.same hS up nb' nb av (fun g cu hl e=>(hlow g hl ?_ (ZWU.1 e).1).trans e) (fun g cu hl e=>(hlow g hl ?_ (ZWU.1 e).1).trans e) hup) (Nat.le_succ _) (ZWS _)
  ·intro eg;rw[eg,hck]at e;cases e
  ·intro eg;rw[eg,hck]at e;cases e
 ·rw[Zkq];have:=(ZWU.1 EE).1;exact this
 ·exact ZaF EH EE ZPl
 ·intro g hg;rw[Zkq];exact(EH.lt g hg).2
end
section
open Go.RowKit
theorem Zui:(prog.info? 452).map (fun i=>(i.zero,i.size,i.bytes))=some (some (.agg #[.string ⟨#[]⟩,.nilFunc]),2,24):=by kernel_rfl
def Zbo(s:Za)(ty:Int):Int:=if s= [99,111,117,110,116]\/s= [115,117,109]then 1 else ty
def Zcg(s:Za)(ty:Int):Bool:=decide (s= [115,117,109])&&QC ty 1
theorem ZF9(s:Za)(v:Value)(hv:∃n y,v= .iface n y)(W0 W:World)(C M:Nat)(cl:Bool)(m:Nat)(sc:Sc)(up:List Sc)(nb n b:Nat)(hI:Z7 W0 W C M cl m (sc::up) nb n b)(Yy:sc.phase=YV)(x:Tr)(hx:XK v x)(hm:m+1+sz x<=1000000):
  Calls prog 218 #[.pointer (some ⟨C,0,none⟩),.agg #[.string ⟨s.toArray⟩,v],.pointer (some ⟨b,0,none⟩)] W fun e W'=>((jx x (inside (sc::up))).2.lost=true/\XD W0.heap.size 5 0 W0 e W')\/((jx x (inside (sc::up))).2.lost=false/\∃g1 g2 g3,e= .returned (.tuple #[.func g1 g2 g3,.int .i64 (Zbo s (ZI (jx x (inside (sc::up))).1))])/\FX nb C W W'/\Z7 W0 W' C M ((cl||(jx x (inside (sc::up))).2.ZG)||Zcg s (ZI (jx x (inside (sc::up))).1)) (m+1) (sc::up) nb W'.heap.size b):=by
 obtain⟨b0,sv,av,gv,xs,nb',e,ho,hsv,hs,ht,hnb,hup,hg⟩:=hI.pl;cases e;rcases hg with⟨hp,_⟩|⟨_,G,kv,mv,rb,ps,rfl,h6⟩
 ·exact absurd Yy hp
 obtain⟨vn,vy,rfl⟩:=hv;have hbl:=(ZWU.1 ho).1;have hGl:=(ZWU.1 h6.obj).1;have c2:W.cell? ⟨b,2,none⟩=some (.pointer (some ⟨G,0,none⟩)):=ZP7
 have g1:W.cell? ⟨G,1,none⟩=some (.pointer (some ⟨rb,0,none⟩)):=ZRy
 have hIn:∀w',Below W.heap.size W w'->Z7 W0 w' C M cl m (inside (sc::up)) nb n rb:=fun w' hb=>by
  have hI':=hI.below hb;have hx':∀(g:Nat) (ob:Obj),W.heap[g]? =some ob->w'.heap[g]? =some ob:=fun g ob e=>(hb.block g (ZWU.1 e).1).trans e;refine⟨hI'.ck,ZEU (hsv.same fun g cu e=>hx' g _ e) hs ht hnb (hup.below hb) (hx' _ _ h6.rows),hI'.nb,hI'.n,fun y hy=>?_,by simpa[inside]using hI'.len⟩;rcases ZW3.1 hy with rfl|hy
  ·exact hI'.gl sc ZXn
  ·exact hI'.gl y (ZXe _ hy)
 have HCT:Hid (∀w',Below W.heap.size W w'->Calls prog 254 #[.pointer (some ⟨C,0,none⟩),.iface vn vy,.pointer (some ⟨rb,0,none⟩)] w' (QT W0 w' C M cl m (inside (sc::up)) nb rb x)):=fun w' hb=>ZGj _ x hx ⟨vn,vy,rfl⟩ W0 w' C M cl m _ nb n rb (hIn w' hb) U;unfold QT at HCT;generalize jx x (inside (sc::up))=R at *;obtain⟨tx,rx,ux⟩:=R;generalize ZI tx=ty at *;have HI:=(show Hid _ from hI);go_enter func218,ntmps218;go_wp2_with fail;refine(ZbL _).mono ?_;rintro e w' ⟨rfl,rfl⟩;generalize Yb:W.alloc (.cells #[.string ⟨s.toArray⟩,.iface vn vy] 410)=Wp;have ZE:Below W.heap.size W Wp:=by rw[<-Yb];exact(ZWT _ W).alloc (ZWS _) _
 have Zn:Wp.heap[W.heap.size]? =some (.cells #[.string ⟨s.toArray⟩,.iface vn vy] 410 (0,0)):=by rw[<-Yb];exact ZWV W _
 clear Yb;obtain⟨p0,p1,_,_⟩:=U5 Zn;have c2p:=(ZE.cell (p:=⟨b,2,none⟩) hbl).trans c2;have g1p:=(ZE.cell (p:=⟨G,1,none⟩) hGl).trans g1;go_upto_region 2 with fail
 go_cut [8,9] (fun ov kv' wx=>∃f1 f2 f3,ov= .func f1 f2 f3/\kv'= .int .i64 ty/\rx=false/\Zb C W wx/\wx.heap[W.heap.size]? =some (.cells #[.string ⟨s.toArray⟩,.iface vn vy] 410 (0,0))/\Hid (Y3 W0 C M (cl||ux) wx));case first=>
  go_region_with (go_at_call 254;refine(HCT.out _ (ZW ZE 1)).mono ?_;intro e w1 hpost;rcases hpost with hbad|hgood;(focus (obtain⟨hlo,b',rfl,h0,h1,hB3⟩:=hbad;go_wp2;exact⟨rfl,.inl ⟨hlo,b',rfl,h0,h1,hB3⟩⟩));obtain⟨hlo,f1,f2,f3,rfl,hF1,hI1⟩:=hgood);all_goals
   go_wp2_with fail;go_meet;exact⟨f1,f2,f3,rfl,rfl,hlo,((Zb.of_below ZE).trans (Zb.drew _ _ 1)).trans (hF1.kp (by show pIn≠YV;decide)),hF1.fx.obj Zn ZPl,hI1.ck⟩
 case rest=>
  obtain⟨f1,f2,f3,rfl,rfl,hlo,hKx,hox,hCx⟩:=hcut;obtain⟨wx,ewx⟩:∃wx,wx=wc:=⟨_,rfl⟩;subst ewx;obtain⟨p0,p1,_,_⟩:=U5 hox;clear c2p g1p Zn;have EY:=(show Hid _ from hCx);clear hCx;have XE:Hid (rx=false):=hlo;clear hlo;generalize Ztm:(cl||ux)=cl1 at *;have ZxG:=(show Hid _ from Ztm);clear Ztm;go_upto_block 0 with fail
  go_cut [8,9] (fun ov kv' wz=>ov= .func f1 f2 f3/\kv'= .int .i64 (Zbo s ty)/\Zb C wx wz/\Hid (Y3 W0 C M (cl1||Zcg s ty) wz));case first=>
   by_cases hs1:s= [99,111,117,110,116]
   ·have HT:Hid (Zbo s ty=1):=by show _=_;simp[Zbo,hs1]
    have HU:Hid (Zcg s ty=false):=by show _=_;rw[hs1];rfl
    subst hs1;go_wp2_with fail;go_meet;case rel=>exact⟨rfl,by rw[HT.out],Zb.refl _ _,ZSh⟩
   ·have hb1:(s== [99,111,117,110,116])=false:=by simpa using hs1
    by_cases hs2:s= [115,117,109]
    ·have HT:Hid (Zbo s ty=1):=by show _=_;simp[Zbo,hs2]
     have HU:Hid (Zcg s ty=QC ty 1):=by show _=_;simp[Zcg,hs2]
     subst hs2;clear hs1;go_wp2_with fail;refine(ZkC W0 C M _ ty 1 _ EY.out).mono ?_;rintro e w2 ⟨rfl,hK2,hc2⟩;go_wp2_with fail;go_meet;case rel=>exact⟨rfl,by rw[HT.out],hK2,by rw[HU.out];exact hc2⟩
    ·have hb2:(s== [115,117,109])=false:=by simpa using hs2
     have HT:Hid (Zbo s ty=ty):=by show _=_;simp[Zbo,hs1,hs2]
     have HU:Hid (Zcg s ty=false):=by show _=_;simp[Zcg,hs2]
     clear hs1 hs2;go_wp2_with fail;go_meet;case rel=>exact⟨rfl,by rw[HT.out],Zb.refl _ _,ZSh⟩
  case rest=>
   obtain⟨rfl,rfl,hKz,hCz⟩:=hcut;obtain⟨wz,ewz⟩:∃wz,wz=wc:=⟨_,rfl⟩;subst ewz;have hKW:=hKx.trans hKz;have ZaL:∀(g:Nat) (cu:Array Value) (ty:TypeId),W.heap[g]? =some (.cells cu ty (0,0))->ty≠161->wz.heap[g]? =some (.cells cu ty (0,0)):=fun g cu ty e ht=>hKW.obj (fun eg=>ZSi) e;have hbz:=ZaL _ _ _ ho ZPl;have VQ:=ZaL _ _ _ h6.obj ZPl;have Zhr:=EY.out.obj;have hoz:=hKz.obj (fun eg=>by rw[<-eg,hox]at Zhr;cases Zhr) hox;obtain⟨mk,ys,hmk,hmo⟩:=h6.made;have Vl:wz.ownsRow nb 452 2 mv mk ys:=by
    refine⟨hmo.1,?_⟩;rcases hmo.2 with h0|⟨g,cap,cu,rfl,hg,hh,r⟩
    ·exact ZS4
    ·exact .inr ⟨g,cap,cu,rfl,hg,ZaL _ _ _ hh ZPl,r⟩
   obtain⟨ma,mc,rfl⟩:=U6 Vl;have KE:Hid (some G≠(Value.slice ma mk mc).ownBlock):=own_ne Vl VQ ZPl;have HNB:Hid (some b≠(Value.slice ma mk mc).ownBlock):=own_ne Vl hbz ZPl;obtain⟨y0,y1,y2,_⟩:=YW hbz;obtain⟨x0,x1,x2,_⟩:=YW VQ;obtain⟨p0z,p1z,_,_⟩:=U5 hoz;obtain⟨i1,hj0,hj1,hj2,XH⟩:=ZXd Zui;have ZD3:nb<=wz.heap.size:=by have:=hKW.size;have:=hI.n;omega
   have Znc:G<wz.heap.size:=(ZWU.1 VQ).1;have ZnA:b<wz.heap.size:=(ZWU.1 hbz).1;have HB:=(show Hid _ from hbz);have HG:=(show Hid _ from VQ);clear p0 p1 c2 g1 hbz VQ;go_wp2_with fail;go_region_law (refine ZX9 _ rfl _ _ 263 rfl nb 452 i1 (.agg #[.string ⟨#[]⟩,.nilFunc]) 2 24 underlying263 hj0 hj1 hj2 XH rfl ZPl (.slice ma mk mc) mk ys rfl (by exact Vl.alloc _) ⟨wz.heap.size,0,none⟩ 1 1 [.string ⟨s.toArray⟩,.func f1 f2 f3] rfl rfl ZRB ZPA U ZPq U ZPo _ rfl ?_;intro g2 cap2 w7 EH Xq hlies Zdz;have EE:=(Xq.block G ZPo KE.out).trans ((ZXa _ _ _ (by exact Znc)).trans (by exact HG.out));have Jq:=(Xq.block b ZPo HNB.out).trans ((ZXa _ _ _ (by exact ZnA)).trans (by exact HB.out));obtain⟨v0,v1,v2,_⟩:=YW EE;obtain⟨u0,u1,u2,_⟩:=YW Jq;have vf:=Vh EE 2);all_goals
    have hbG:b≠G:=fun e=>by rw[e,EE]at Jq;cases Jq
    have hb8:=(ZXf w7 ⟨G,2,none⟩ (.slice (some ⟨g2,0,none⟩) (mk+1) cap2) b hbG).trans Jq;have hG8:=Xn (k:=2) (u:=.slice (some ⟨g2,0,none⟩) (mk+1) cap2) EE;obtain⟨s0,s1,s2,_⟩:=YW hb8;have t2:(w7.setCell ⟨G,2,none⟩ (.slice (some ⟨g2,0,none⟩) (mk+1) cap2)).cell? ⟨G,2,none⟩=some (.slice (some ⟨g2,0,none⟩) (mk+1) cap2):=by
     generalize w7.setCell ⟨G,2,none⟩ (.slice (some ⟨g2,0,none⟩) (mk+1) cap2)=w8 at hG8;simp[World.cell?,hG8]
    have Ut:(wz.alloc (.cells #[.string ⟨s.toArray⟩,.func f1 f2 f3] 452)).grownBy w7 (Value.slice ma mk mc).ownBlock:=⟨Xq.os,Xq.tape,Xq.output,Xq.size,Xq.block⟩;have HPO:=(show Hid _ from Zvc hI Yy ho hsv hs ht hnb hup h6 hKW hCz.out Vl hmk EH Ut);generalize hw8:w7.setCell ⟨G,2,none⟩ (.slice (some ⟨g2,0,none⟩) (mk+1) cap2)=w8 at *;go_wp2_with fail;refine(ZuG _ _).mono ?_;rintro e w9 ⟨k1,k2,k3,rfl,hB9⟩;go_wp2_with fail;go_ret2;exact .inr ⟨XE.out,k1,k2,k3,rfl,HPO.out.1.trans (FX.of_below hB9),by rw[ZxG.out];exact(HPO.out.2.below hB9).wide (ZWS _)⟩
end
section
open Go.RowKit
theorem ZGa(s:Za)(hs1:s= [99,111,117,110,116])(W0 W:World)(C M:Nat)(cl:Bool)(m:Nat)(sc:Sc)(up:List Sc)(nb n b:Nat)(hI:Z7 W0 W C M cl m (sc::up) nb n b)(Yy:sc.phase=YV)(hm:m+1<=1000000):
  Calls prog 218 #[.pointer (some ⟨C,0,none⟩),.agg #[.string ⟨s.toArray⟩,.nilIface],.pointer (some ⟨b,0,none⟩)] W fun e W'=>∃g1 g2 g3,e= .returned (.tuple #[.func g1 g2 g3,.int .i64 1])/\FX nb C W W'/\Z7 W0 W' C M cl (m+1) (sc::up) nb W'.heap.size b:=by
 have HS1:=(show Hid _ from hs1);clear hs1;obtain⟨b0,sv,av,gv,xs,nb',e,ho,hsv,hs,ht,hnb,hup,hg⟩:=hI.pl;cases e;rcases hg with⟨hp,_⟩|⟨_,G,kv,mv,rb,ps,rfl,h6⟩
 ·exact absurd Yy hp
 have hbl:=(ZWU.1 ho).1;have hGl:=(ZWU.1 h6.obj).1;have c2:W.cell? ⟨b,2,none⟩=some (.pointer (some ⟨G,0,none⟩)):=ZP7
 have g1:W.cell? ⟨G,1,none⟩=some (.pointer (some ⟨rb,0,none⟩)):=ZRy
 have HCT:Hid (∀w',Below W.heap.size W w'->Calls prog 254 #[.pointer (some ⟨C,0,none⟩),.nilIface,.pointer (some ⟨rb,0,none⟩)] w' fun e W'=>∃f1 f2 f3,e= .returned (.tuple #[.func f1 f2 f3,.int .i64 1])/\Below w'.heap.size w' W'):=fun w' hb=>ZGk w' C _;have HI:=(show Hid _ from hI);go_enter func218,ntmps218;go_wp2_with fail;refine(ZbL _).mono ?_;rintro e w' ⟨rfl,rfl⟩;generalize Yb:W.alloc (.cells #[.string ⟨s.toArray⟩,.nilIface] 410)=Wp;have ZE:Below W.heap.size W Wp:=by rw[<-Yb];exact(ZWT _ W).alloc (ZWS _) _
 have Zn:Wp.heap[W.heap.size]? =some (.cells #[.string ⟨s.toArray⟩,.nilIface] 410 (0,0)):=by rw[<-Yb];exact ZWV W _
 clear Yb;obtain⟨p0,p1,_,_⟩:=U5 Zn;have c2p:=(ZE.cell (p:=⟨b,2,none⟩) hbl).trans c2;have g1p:=(ZE.cell (p:=⟨G,1,none⟩) hGl).trans g1;go_upto_region 2 with fail
 go_cut [8,9] (fun ov kv' wx=>∃f1 f2 f3,ov= .func f1 f2 f3/\kv'= .int .i64 1/\Zb C W wx/\wx.heap[W.heap.size]? =some (.cells #[.string ⟨s.toArray⟩,.nilIface] 410 (0,0))/\Hid (Y3 W0 C M cl wx));case first=>
  go_region_with (go_at_call 254;refine(HCT.out _ (ZW ZE 1)).mono ?_;intro e w1 hgood;obtain⟨f1,f2,f3,rfl,hB1⟩:=hgood);all_goals
   go_wp2_with fail;go_meet;exact⟨f1,f2,f3,rfl,rfl,((Zb.of_below ZE).trans (Zb.drew _ _ 1)).trans (Zb.of_below hB1),(hB1.block W.heap.size (ZWU.1 Zn).1).trans Zn,((HI.out.ck.below ZE).below (ZW (ZWT _ _) 1)).below hB1⟩
 case rest=>
  obtain⟨f1,f2,f3,rfl,rfl,hKx,hox,hCx⟩:=hcut;obtain⟨wx,ewx⟩:∃wx,wx=wc:=⟨_,rfl⟩;subst ewx;obtain⟨p0,p1,_,_⟩:=U5 hox;clear c2p g1p Zn;have EY:=(show Hid _ from hCx);clear hCx;go_upto_block 0 with fail
  go_cut [8,9] (fun ov kv' wz=>ov= .func f1 f2 f3/\kv'= .int .i64 1/\Zb C wx wz/\Hid (Y3 W0 C M cl wz));case first=>
   have hs1:=HS1.out;subst hs1;go_wp2_with fail;go_meet;case rel=>exact⟨rfl,rfl,Zb.refl _ _,EY.out⟩
  case rest=>
   obtain⟨rfl,rfl,hKz,hCz⟩:=hcut;obtain⟨wz,ewz⟩:∃wz,wz=wc:=⟨_,rfl⟩;subst ewz;have hKW:=hKx.trans hKz;have ZaL:∀(g:Nat) (cu:Array Value) (ty:TypeId),W.heap[g]? =some (.cells cu ty (0,0))->ty≠161->wz.heap[g]? =some (.cells cu ty (0,0)):=fun g cu ty e ht=>hKW.obj (fun eg=>ZSi) e;have hbz:=ZaL _ _ _ ho ZPl;have VQ:=ZaL _ _ _ h6.obj ZPl;have Zhr:=EY.out.obj;have hoz:=hKz.obj (fun eg=>by rw[<-eg,hox]at Zhr;cases Zhr) hox;obtain⟨mk,ys,hmk,hmo⟩:=h6.made;have Vl:wz.ownsRow nb 452 2 mv mk ys:=by
    refine⟨hmo.1,?_⟩;rcases hmo.2 with h0|⟨g,cap,cu,rfl,hg,hh,r⟩
    ·exact ZS4
    ·exact .inr ⟨g,cap,cu,rfl,hg,ZaL _ _ _ hh ZPl,r⟩
   obtain⟨ma,mc,rfl⟩:=U6 Vl;have KE:Hid (some G≠(Value.slice ma mk mc).ownBlock):=own_ne Vl VQ ZPl;have HNB:Hid (some b≠(Value.slice ma mk mc).ownBlock):=own_ne Vl hbz ZPl;obtain⟨y0,y1,y2,_⟩:=YW hbz;obtain⟨x0,x1,x2,_⟩:=YW VQ;obtain⟨p0z,p1z,_,_⟩:=U5 hoz;obtain⟨i1,hj0,hj1,hj2,XH⟩:=ZXd Zui;have ZD3:nb<=wz.heap.size:=by have:=hKW.size;have:=hI.n;omega
   have Znc:G<wz.heap.size:=(ZWU.1 VQ).1;have ZnA:b<wz.heap.size:=(ZWU.1 hbz).1;have HB:=(show Hid _ from hbz);have HG:=(show Hid _ from VQ);clear p0 p1 c2 g1 hbz VQ;go_wp2_with fail;go_region_law (refine ZX9 _ rfl _ _ 263 rfl nb 452 i1 (.agg #[.string ⟨#[]⟩,.nilFunc]) 2 24 underlying263 hj0 hj1 hj2 XH rfl ZPl (.slice ma mk mc) mk ys rfl (by exact Vl.alloc _) ⟨wz.heap.size,0,none⟩ 1 1 [.string ⟨s.toArray⟩,.func f1 f2 f3] rfl rfl ZRB ZPA U ZPq U ZPo _ rfl ?_;intro g2 cap2 w7 EH Xq hlies Zdz;have EE:=(Xq.block G ZPo KE.out).trans ((ZXa _ _ _ (by exact Znc)).trans (by exact HG.out));have Jq:=(Xq.block b ZPo HNB.out).trans ((ZXa _ _ _ (by exact ZnA)).trans (by exact HB.out));obtain⟨v0,v1,v2,_⟩:=YW EE;obtain⟨u0,u1,u2,_⟩:=YW Jq;have vf:=Vh EE 2);all_goals
    have hbG:b≠G:=fun e=>by rw[e,EE]at Jq;cases Jq
    have hb8:=(ZXf w7 ⟨G,2,none⟩ (.slice (some ⟨g2,0,none⟩) (mk+1) cap2) b hbG).trans Jq;have hG8:=Xn (k:=2) (u:=.slice (some ⟨g2,0,none⟩) (mk+1) cap2) EE;obtain⟨s0,s1,s2,_⟩:=YW hb8;have t2:(w7.setCell ⟨G,2,none⟩ (.slice (some ⟨g2,0,none⟩) (mk+1) cap2)).cell? ⟨G,2,none⟩=some (.slice (some ⟨g2,0,none⟩) (mk+1) cap2):=by
     generalize w7.setCell ⟨G,2,none⟩ (.slice (some ⟨g2,0,none⟩) (mk+1) cap2)=w8 at hG8;simp[World.cell?,hG8]
    have Ut:(wz.alloc (.cells #[.string ⟨s.toArray⟩,.func f1 f2 f3] 452)).grownBy w7 (Value.slice ma mk mc).ownBlock:=⟨Xq.os,Xq.tape,Xq.output,Xq.size,Xq.block⟩;have HPO:=(show Hid _ from Zvc hI Yy ho hsv hs ht hnb hup h6 hKW hCz.out Vl hmk EH Ut);generalize hw8:w7.setCell ⟨G,2,none⟩ (.slice (some ⟨g2,0,none⟩) (mk+1) cap2)=w8 at *;go_wp2_with fail;refine(ZuG _ _).mono ?_;rintro e w9 ⟨k1,k2,k3,rfl,hB9⟩;go_wp2_with fail;go_ret2;exact⟨k1,k2,k3,rfl,HPO.out.1.trans (FX.of_below hB9),(HPO.out.2.below hB9).wide (ZWS _)⟩
end
section
open Go.RowKit
theorem ZEV{ss:List Sc}(h:∀s∈ss,∃xs,Xk s xs):∀s∈inside ss,∃xs,Xk s xs:=by
 intro s hs;cases ss with
 |nil=>cases hs
 |cons s0 up=>
  rcases ZW3.1 hs with rfl|hs
  ·obtain⟨xs,h1⟩:=h s0 ZXn;exact⟨xs,h1.len,h1.names,h1.tabs,h1.nd,h1.ne,h1.le,h1.ok⟩
  ·exact h s (ZXe _ hs)
theorem Zux{s:Za}(hs:s∈Yf)(x:Tr)(ss:List Sc):jx (nd {kind:=s} (l1 x)) ss=((if s=Kj\/s=Ki then(jx x (inside ss)).1 else Xo),(Jr.or {lost:=decide (ZaX ss≠YV)} (jx x (inside ss)).2).or {ZG:=decide (s=Kk)&& !Xx (jx x (inside ss)).1 Xo}):=by
 have h4:s= [99,111,117,110,116]\/s=Kk\/s=Kj\/s=Ki:=by simpa[Yf,Kk,Kj,Ki]using hs
 rw[nd,jx,ZWQ (by show ¬s=ZcH;rcases h4 with h|h|h|h<;>rw[h]<;>decide),ZWQ (by show ¬(s=ZaS\/s=Jd);rcases h4 with h|h|h|h<;>rw[h]<;>decide),ZWQ (by show ¬s=ZfI;rcases h4 with h|h|h|h<;>rw[h]<;>decide),ZWR (by exact hs)];rfl
theorem Zuz(ss:List Sc):jx (nd {kind:= [99,111,117,110,116],star:=true} .nil) ss=(Xo,{lost:=decide (ZaX ss≠YV)}):=by
 rw[nd,jx,ZWQ ZPl,ZWQ ZPl,ZWQ ZPl,ZWR ZPl];rfl
theorem Zy8{s:Za}(hs:s∈Yf)(tx:Za):ZI (if s=Kj\/s=Ki then tx else Xo)=Zbo s (ZI tx):=by
 have h4:s= [99,111,117,110,116]\/s=Kk\/s=Kj\/s=Ki:=by simpa[Yf,Kk,Kj,Ki]using hs
 unfold Zbo;rcases h4 with rfl|rfl|rfl|rfl
 ·rw[ZWQ ZPl,ZWR ZPl];rfl
 ·rw[ZWQ ZPl,ZWR ZPl];rfl
 ·rw[ZWR ZPl,ZWQ ZPl]
 ·rw[ZWR ZPl,ZWQ ZPl]
theorem ZCb(l:Value)(x:Tr)(s:Za)(hs:s∈Yf)(hl:XK l x)(hty:Er x)(hil:∃n y,l= .iface n y):XK (.iface 410 (.agg #[Zv s,l])) (nd {kind:=s} (l1 x)):=by
 intro W0 W C M cl m ss nb nn b hI hm;have hsz:sz (nd {kind:=s} (l1 x))=1+sz x:=ZQ4
 obtain⟨sc,up,rfl⟩:∃sc up,ss=sc::up:=by
  cases ss with
  |nil=>have:=hI.pl;cases (show Value.pointer (some ⟨b,0,none⟩)= .pointer none from this)
  |cons sc up=>exact⟨sc,up,rfl⟩
 have hj:=Zux hs x (sc::up);have hft:=Zhf (hty (inside (sc::up)) (ZEV hI.pl.ZdN)) (.inl rfl:J6 Xo);have hat:=Zy8 hs (jx x (inside (sc::up))).1;have Qm:∀w',Below W.heap.size W w'->Calls prog 218 #[.pointer (some ⟨C,0,none⟩),.agg #[.string ⟨s.toArray⟩,l],.pointer (some ⟨b,0,none⟩)] w' (QT W0 w' C M cl m (sc::up) nb b (nd {kind:=s} (l1 x))):=fun w' hB=>by
  have hI':=hI.below hB;by_cases Yy:sc.phase=YV
  ·refine(ZF9 s l hil W0 w' C M cl m sc up nb nn b hI' Yy x hl U).mono ?_;rintro e w2 (⟨hlo,hbad⟩|⟨hlo,g1,g2,g3,rfl,hF,hI2⟩)
   ·exact .inl ⟨by rw[hj];simp[Jr.or,hlo],hbad⟩
   ·refine .inr ⟨by rw[hj];simp[Jr.or,hlo,ZaX,Yy],g1,g2,g3,by rw[hj,<-hat],⟨hF,fun h=>absurd Yy h⟩,?_⟩;have hu:(cl||(jx (nd {kind:=s} (l1 x)) (sc::up)).2.ZG)=((cl||(jx x (inside (sc::up))).2.ZG)||Zcg s (ZI (jx x (inside (sc::up))).1)):=by
     rw[hj,Zcg,<-Zw9,<-hft];simp[Jr.or,ZXx,Kk];try rfl
    rw[hu,hsz];exact hI2.wide U
  ·obtain⟨b0,sv,av,gv,xs,nb',e,ho,hsv,hsc,ht,hnb,hup,hg⟩:=hI'.pl;cases e;rcases hg with⟨_,rfl⟩|⟨hp,_⟩
   ·refine(ZuD W0 w' C b sv av s l (.inr hil) ho).mono ?_;intro e w2 hbad;exact .inl ⟨by rw[hj];simp[Jr.or,ZaX,Yy],hbad.Zsl hI'.ck.low⟩
   ·exact absurd hp Yy
 have HBA:=(show Hid _ from Qm);obtain⟨ln,ly,rfl⟩:=hil;clear Qm hj hft hat hI hl hty hs hm hsz;generalize (nd {kind:=s} (l1 x))=t at *;unfold QT at *;generalize jx t (sc::up)=R at *;unfold Zv;have ta:=ZwL (.agg #[.string ⟨s.toArray⟩,.iface ln ly]);have tb:=ZwM (.agg #[.string ⟨s.toArray⟩,.iface ln ly]);have tc:=Zps (.agg #[.string ⟨s.toArray⟩,.iface ln ly]);have td:=Zpt (.agg #[.string ⟨s.toArray⟩,.iface ln ly]);have te:=Zpu (.agg #[.string ⟨s.toArray⟩,.iface ln ly]);go_enter func167,ntmps167;go_wp2_with fail;have ZE:Below W.heap.size W (W.alloc (.cells #[.string ⟨s.toArray⟩,.iface ln ly] 410)):=(ZWT _ W).alloc (ZWS _) _;refine(HBA.out _ ZE).mono ?_;rintro e w1 (⟨hlo,b',rfl,h0,h1,hB3⟩|⟨hlo,f1,f2,f3,rfl,hF,hI1⟩)
 ·exact ZUq
 ·exact ZUY
theorem ZCi:XK (.iface 410 (.agg #[Zv [99,111,117,110,116],.nilIface])) (nd {kind:= [99,111,117,110,116],star:=true} .nil):=by
 intro W0 W C M cl m ss nb nn b hI hm;obtain⟨s,hs⟩:∃s:Za,s= [99,111,117,110,116]:=⟨_,rfl⟩;have hsz:sz (nd {kind:= [99,111,117,110,116],star:=true} .nil)=1:=by simp[nd,sz]
 obtain⟨sc,up,rfl⟩:∃sc up,ss=sc::up:=by
  cases ss with
  |nil=>have:=hI.pl;cases (show Value.pointer (some ⟨b,0,none⟩)= .pointer none from this)
  |cons sc up=>exact⟨sc,up,rfl⟩
 have hj:=Zuz (sc::up);have Qm:∀w',Below W.heap.size W w'->Calls prog 218 #[.pointer (some ⟨C,0,none⟩),.agg #[.string ⟨s.toArray⟩,.nilIface],.pointer (some ⟨b,0,none⟩)] w' (QT W0 w' C M cl m (sc::up) nb b (nd {kind:= [99,111,117,110,116],star:=true} .nil)):=fun w' hB=>by
  have hI':=hI.below hB;by_cases Yy:sc.phase=YV
  ·refine(ZGa s hs W0 w' C M cl m sc up nb nn b hI' Yy U).mono ?_;rintro e w2 ⟨g1,g2,g3,rfl,hF,hI2⟩;refine .inr ⟨by rw[hj];simp[ZaX,Yy],g1,g2,g3,by rw[hj];rfl,⟨hF,fun h=>absurd Yy h⟩,?_⟩;rw[hj,hsz,ZYc];exact hI2
  ·obtain⟨b0,sv,av,gv,xs,nb',e,ho,hsv,hsc,ht,hnb,hup,hg⟩:=hI'.pl;cases e;rcases hg with⟨_,rfl⟩|⟨hp,_⟩
   ·refine(ZuD W0 w' C b sv av s .nilIface (.inl rfl) ho).mono ?_;intro e w2 hbad;exact .inl ⟨by rw[hj];simp[ZaX,Yy],hbad.Zsl hI'.ck.low⟩
   ·exact absurd hp Yy
 have HBA:=(show Hid _ from Qm);clear Qm hj hI hm hsz;generalize (nd {kind:= [99,111,117,110,116],star:=true} .nil)=t at *;rw[<-hs];clear hs;unfold QT at *;generalize jx t (sc::up)=R at *;unfold Zv;have ta:=ZwL (.agg #[.string ⟨s.toArray⟩,.nilIface]);have tb:=ZwM (.agg #[.string ⟨s.toArray⟩,.nilIface]);have tc:=Zps (.agg #[.string ⟨s.toArray⟩,.nilIface]);have td:=Zpt (.agg #[.string ⟨s.toArray⟩,.nilIface]);have te:=Zpu (.agg #[.string ⟨s.toArray⟩,.nilIface]);go_enter func167,ntmps167;go_wp2_with fail;have ZE:Below W.heap.size W (W.alloc (.cells #[.string ⟨s.toArray⟩,.nilIface] 410)):=(ZWT _ W).alloc (ZWS _) _;refine(HBA.out _ ZE).mono ?_;rintro e w1 (⟨hlo,b',rfl,h0,h1,hB3⟩|⟨hlo,f1,f2,f3,rfl,hF,hI1⟩)
 ·exact ZUq
 ·exact ZUY
end
def Zy(n:Nat):Tr->Prop
 | .nil=>True
 | .cons h t=>Zy n h/\Zy n t
 | .node f k i fr g w h=>(f.text.length<=n/\f.Zd.length<=n/\f.Zx.length<=n)/\(f.kind=QE->g.len<=n)/\Zy n k/\Zy n i/\Zy n fr/\Zy n g/\Zy n w/\Zy n h
theorem Zy.parts{n:Nat}{x:Tr}(h:Zy n x):Zy n x.kids/\Zy n x.Jo/\Zy n x.YB/\Zy n x.Q6/\Zy n x.Qn:=by
 cases x with
 |nil=>exact⟨trivial,trivial,trivial,trivial,trivial⟩
 |cons a b=>exact⟨trivial,trivial,trivial,trivial,trivial⟩
 |node f k i fr g w hv=>
  obtain⟨_,_,h1,h2,h3,h4,h5,h6⟩:=h;exact⟨h1,h3,h4,h5,h6⟩
theorem Zy.snoc{n:Nat}{y:Tr}(hy:Zy n y):∀{k:Tr},Zy n k->Zy n (k.snoc y)
 | .nil,_=>⟨hy,trivial⟩
 | .node _ _ _ _ _ _ _,_=>⟨hy,trivial⟩
 | .cons a t,h=>⟨h.1,Zy.snoc hy h.2⟩
theorem Zy.node1{n:Nat}{f:Fl}{k:Tr}(hf:f.text.length<=n/\f.Zd.length<=n/\f.Zx.length<=n)(hk:Zy n k):Zy n (nd f k):=
 ⟨hf,fun _=>ZW8 _,hk,trivial,trivial,trivial,trivial,trivial⟩
theorem Zy.tl{n:Nat}{a b c d:Tr}(ha:Zy n a)(hb:Zy n b)(hc:Zy n c)(hd:Zy n d):Zy n (ZV a b c d):=
 ⟨⟨ZW8 _,ZW8 _,ZW8 _⟩,(fun h=>ZPs),trivial,trivial,ha,hb,hc,hd⟩
theorem Zy.sl{n:Nat}{s d:Bool}{i t:Tr}(hi:Zy n i)(ht:Zy n t)(hg:t.YB.len<=n):Zy n (XV s d i t):=
 ⟨⟨ZW8 _,ZW8 _,ZW8 _⟩,(fun _=>hg),trivial,hi,ht.parts.2.1,ht.parts.2.2.1,ht.parts.2.2.2.1,ht.parts.2.2.2.2⟩
theorem Zk8(y:Tr):∀k:Tr,(k.snoc y).len<=k.len+1
 | .nil=>ZWS _
 | .node _ _ _ _ _ _ _=>ZWS _
 | .cons a t=>Nat.succ_le_succ (Zk8 y t)
theorem D.ZjT{k:NT}{l:List RW}{t:Tr}(h:D k l t):t.YB.len<=l.length+1/\t.kids.len<=l.length+2/\((k=NT.Zu\/k=NT.Z6)->t.kids.len<=l.length/\t.YB.len<=l.length)/\1<=l.length:=by
 induction h
 case Ud x y _ _ _ ih1 ih2|VV x y _ _ _ ih1 ih2|UI x y _ _ _ ih1 ih2=>have:=Zk8 y x.kids;simp only[nd,Tr.kids,Tr.YB,Tr.len,ZW9,List.length_cons]at *;simp at *;omega
 all_goals
  simp only[nd,l1,l2,ZV,XV,Tr.kids,Tr.YB,Tr.len,ZW9,List.length_cons,List.length_nil]at *;try simp at *
  try omega
theorem D.fit{n:Nat}{k:NT}{l:List RW}{t:Tr}(h:D k l t)(hl:l.length<=n)(hw:∀w∈l,w.text.length<=n):Zy n t:=by
 induction h
 case Ue s r f t x _ _ _ hx ih|Uf s d r f t x _ _ _ _ hx ih=>have:=hx.ZjT.1;simp only[List.length_cons,ZW3]at hl hw;exact Zy.sl trivial (ih U (fun w h=>hw w ZPD)) U
 case VI s l f t x y _ _ hy hx ih1 ih2|VJ s d l f t x y _ _ _ hy hx ih1 ih2=>have:=hx.ZjT.1;simp only[List.length_cons,ZW9,ZW3,ZXt]at hl hw;exact Zy.sl (ih1 U (fun w h=>hw w ZPD)).parts.1 (ih2 U (fun w h=>hw w ZPD)) U
 case Kt|U4|Uy|Ux|UC|VG|Uj|UA|Vg|Ve=>rename_i ih1;have q1:=ih1 (by(try simp at hl);omega) (fun w h=>hw w ZPD);exact q1
 case Ku|Kv|Uz|Uw|VC|VD|QX|J9|Ui|UB=>rename_i ih1 ih2;have q1:=ih1 (by(try simp at hl);omega) (fun w h=>hw w ZPD);have q2:=ih2 (by(try simp at hl);omega) (fun w h=>hw w ZPD);exact Zy.node1 ⟨ZW8 _,ZW8 _,ZW8 _⟩ ⟨q1,q2,trivial⟩
 case UD|VB|VF|VE|Vf|QO|item|Ke|Ei|KU=>rename_i ih1;have q1:=ih1 (by(try simp at hl);omega) (fun w h=>hw w ZPD);exact Zy.node1 ⟨ZW8 _,ZW8 _,ZW8 _⟩ ⟨q1,trivial⟩
 case Zea|Un|Uo=>exact Zy.node1 ⟨ZW8 _,ZW8 _,ZW8 _⟩ trivial
 case VV|UI|Ud=>rename_i ih1 ih2;have q1:=ih1 (by(try simp at hl);omega) (fun w h=>hw w ZPD);have q2:=ih2 (by(try simp at hl);omega) (fun w h=>hw w ZPD);exact Zy.node1 ⟨ZW8 _,ZW8 _,ZW8 _⟩ (q2.snoc q1.parts.1)
 case UM=>rename_i ih1;have q1:=ih1 (by(try simp at hl);omega) (fun w h=>hw w ZPD);exact Zy.tl q1.parts.1 trivial trivial trivial
 case V5|UL=>rename_i ih1 ih2;have q1:=ih1 (by(try simp at hl);omega) (fun w h=>hw w ZPD);have q2:=ih2 (by(try simp at hl);omega) (fun w h=>hw w ZPD);exact Zy.tl q1.parts.1 q2.parts.2.2.1 q2.parts.2.2.2.1 q2.parts.2.2.2.2
 case U1=>rename_i ih1;have q1:=ih1 (by(try simp at hl);omega) (fun w h=>hw w ZPD);exact Zy.tl trivial trivial q1 trivial
 case Ub=>rename_i ih1 ih2;have q1:=ih1 (by(try simp at hl);omega) (fun w h=>hw w ZPD);have q2:=ih2 (by(try simp at hl);omega) (fun w h=>hw w ZPD);exact Zy.tl q2.parts.2.1 q2.parts.2.2.1 q1 q2.parts.2.2.2.2
 case Ur=>rename_i ih1;have q1:=ih1 (by(try simp at hl);omega) (fun w h=>hw w ZPD);exact Zy.tl trivial q1.parts.1 trivial trivial
 case Us=>rename_i ih1 ih2;have q1:=ih1 (by(try simp at hl);omega) (fun w h=>hw w ZPD);have q2:=ih2 (by(try simp at hl);omega) (fun w h=>hw w ZPD);exact Zy.tl trivial q1.parts.1 trivial q2
 case Zeb|src|JF=>exact Zy.node1 ⟨hw _ ZPm,ZW8 _,ZW8 _⟩ trivial
 case Ej=>exact Zy.node1 ⟨hw _ ZPm,ZW8 _,hw _ ZPm⟩ trivial
 case Uh=>exact Zy.node1 ⟨hw _ ZPm,hw _ ZPm,ZW8 _⟩ trivial
 case Kh=>rename_i ih1;have q1:=ih1 (by(try simp at hl);omega) (fun w h=>hw w ZPD);exact Zy.node1 ⟨ZW8 _,ZW8 _,hw _ ZPm⟩ ⟨q1,trivial⟩
end Go.Proofs.YthmlacabmlghbaaGreatDoor
