import Derived.OrdersIn
import Derived.Test.YthmlacabmlghbaaGreatDoorBgJa16
set_option maxRecDepth 100000
set_option maxHeartbeats 8000000
set_option linter.unusedSimpArgs false
set_option linter.unusedVariables false
namespace Go.Proofs.YthmlacabmlghbaaGreatDoor
open Go.Proofs.Tryz
theorem ZXz:type_of% @Go.World.putObj_heap_other:=@Go.World.putObj_heap_other
open Go.RowKit
def ZI(s:Za):Int:=if s=Xo then 1 else if s=ZaS then 2 else 0
def J6(s:Za):Prop:=s=Xo\/s=ZaS\/s=Jd
theorem Zw9:ZI Xo=1:=by decide
theorem ZMy:ZI Jd=0:=by decide
theorem Zuo(t:Int):J6 (Jw t):=by
 unfold Jw;split
 ·exact ZS5
 ·exact .inr (.inl rfl)
theorem Zxa{t:Int}(h:t=1\/t=2):ZI (Jw t)=t:=by
 rcases h with rfl|rfl<;>decide
def QC(a b:Int):Bool:=decide (a≠0)&&(decide (b≠0)&&decide (a≠b))
def Kr(a b:Int):Int:=if a=0 then b else a
theorem Zhf{a b:Za}(ha:J6 a)(hb:J6 b):(!Xx a b)=QC (ZI a) (ZI b):=by
 rcases ha with rfl|rfl|rfl<;>rcases hb with rfl|rfl|rfl<;>decide
theorem ZJf{a b:Za}(ha:J6 a):ZI (JI a b)=Kr (ZI a) (ZI b):=by
 rcases ha with rfl|rfl|rfl
 ·rfl
 ·rfl
 ·unfold JI Kr;rw[ZWR rfl,ZMy,ZWR rfl]
structure XS where
 name:Za
 T:Nat
 Ze:List (Za×Int)
def ZR(xs:List XS)(i:Nat):Nat:=((xs.take i).map fun x=>x.Ze.length).sum
theorem ZmR(xs:List XS)(i:Nat)(h:i<xs.length):ZR xs (i+1)=ZR xs i+xs[i].Ze.length:=by
 unfold ZR;rw[ZXA h,ZWY,List.sum_append];simp only[ZWZ,ZW2,List.sum_cons,List.sum_nil,Nat.add_zero]
theorem Zsi (xs : List XS) {i j : Nat} (hij : i <= j) (hj : j <= xs.length) : ZR xs i <= ZR xs j := by
  induction j with
  | zero => have : i = 0 := by omega
            subst this; exact ZWS _
  | succ j ih =>
    rcases Nat.lt_or_ge i (j + 1) with h | h
    · have h1 := ih U U
      rw [ZmR xs j U]
      omega
    · have : i = j + 1 := by omega
      subst this; exact ZWS _
theorem ZjI(xs:List XS)(h:∀x∈xs,x.Ze.length<=6):∀i,ZR xs i<=6*i:=by
 induction xs with
 |nil=>intro i;simp[ZR]
 |cons x xs ih=>
  intro i;cases i with
  |zero=>simp[ZR]
  |succ i=>
   have h1:=h x ZXn;have h2:=ih (fun y hy=>h y (ZXe _ hy)) i;unfold ZR at h2 ⊢;simp only[List.take_succ_cons,ZWZ,List.sum_cons];omega
theorem ZCx(xs:List XS){i j c d:Nat}(hi:i<xs.length)(hj:j<xs.length)(hc:c<xs[i].Ze.length)(hd:d<xs[j].Ze.length)(h:ZR xs i+c=ZR xs j+d):i=j/\c=d:=by
 rcases Nat.lt_trichotomy i j with hl|hl|hl
 ·have h1:=ZmR xs i hi;have h2:=Zsi xs (i:=i+1) (j:=j) hl U;omega
 ·subst hl;exact⟨rfl,U⟩
 ·have h1:=ZmR xs j hj;have h2:=Zsi xs (i:=j+1) (j:=i) hl U;omega
theorem ZGQ:∀i,i<3->∀c,c<6->∀j,j<3->∀d,d<6->QP i c=QP j d->i=j/\c=d:=by
 have hd:∀n:Nat,n<10->dec (n:Int)= [UInt8.ofNat (48+n)]:=fun n hn=>by
  unfold dec;rw[ZWQ U,Int.natAbs_natCast,Jc,ZWR hn]
 intro i hi c hc j hj d hd' h;unfold QP at h;rw[hd i U,hd c U,hd j U,hd d U]at h;simp only[List.cons_append,List.nil_append,List.cons.injEq,and_true,true_and]at h;have hu:∀a b:Nat,a<10->b<10->UInt8.ofNat (48+a)=UInt8.ofNat (48+b)->a=b:=fun a b ha hb e=>by
  have:=congrArg UInt8.toNat e;exact ZWH
 exact⟨hu _ _ U U h.1,hu _ _ U U h.2⟩
def Zjd(t:Tb)(Ze:List (Za×Int)):Prop:=t.Ze=Ze.map (·.1)/\t.types=Ze.map fun c=>Jw c.2
structure Zc1 (Ze:List (Za×Int)):Prop where
 nd:(Ze.map (·.1)).Nodup
 ty:∀c∈Ze,c.2=1\/c.2=2
 le:Ze.length<=6
 pos:1<=Ze.length
structure Xk (s:Sc) (xs:List XS):Prop where
 len:s.tabs.length=xs.length
 names:s.names=xs.map (·.name)
 tabs:∀(i:Nat) (t:Tb) (x:XS),s.tabs[i]? =some t->xs[i]? =some x->Zjd t x.Ze
 nd:s.names.Nodup
 ne:∀n∈s.names,n≠ []
 le:xs.length<=3
 ok:∀x∈xs,Zc1 x.Ze
theorem ZjA{text:Za}:∀{l:List Za},text∉l->∀c,Jb text l c= []
 | [],_,_=>rfl
 |x::r,h,c=>by
  rw[Jb,ZWQ (fun e=>h (by rw[e];exact ZXn)),ZjA (fun h'=>h (ZXe _ h'))]
theorem ZrS{text:Za}:∀{l:List Za} {i:Nat},l.Nodup->l[i]? =some text->∀c,Jb text l c= [c+i]
 | [],_,_,h,_=>ZPY
 |x::r,0,hn,h,c=>by
  rw[ZYm]at hn;have hx:x=text:=ZPv
  rw[Jb,ZWR hx,ZjA (by rw[<-hx];exact hn.1)];rfl
 |x::r,i+1,hn,h,c=>by
  rw[ZYm]at hn;have h':r[i]? =some text:=ZPv
  have hx:x≠text:=fun e=>hn.1 (by rw[e];exact ZXW h');rw[Jb,ZWQ hx,ZrS hn.2 h',show c+1+i=c+(i+1) from U]
theorem ZtA{Zd text:Za}:∀{ns:List Za} {ts:List Tb} {j:Nat} {p:Nat×Nat},p∈hits Zd text ns ts j->∃n t,j<=p.1/\ns[p.1-j]? =some n/\ts[p.1-j]? =some t/\(Zd= []\/Zd=n)/\text∈t.Ze
 | [],_,_,_,h=>ZQL
 |_::_, [],_,_,h=>ZQL
 |n::ns,t::ts,j,p,h=>by
  rw[hits]at h;rcases ZXt.1 h with h|h
  ·split at h
   ·cases h
   ·rename_i hc;obtain⟨c,hc2,rfl⟩:=ZXj.1 h;refine⟨n,t,ZWS _,ZPm,ZPm,?_,?_⟩
    ·by_cases h0:Zd= []
     ·exact ZS4
     ·by_cases h1:Zd=n
      ·exact .inr h1
      ·exact absurd ⟨h0,h1⟩ hc
    ·by_cases hm:text∈t.Ze
     ·exact hm
     ·rw[ZjA hm]at hc2;cases hc2
  ·obtain⟨n',t',h1,h2,h3,h4,h5⟩:=ZtA h;refine⟨n',t',U,?_,?_,h4,h5⟩
   ·rw[show p.1-j=(p.1-(j+1))+1 from U];simpa using h2
   ·rw[show p.1-j=(p.1-(j+1))+1 from U];simpa using h3
theorem ZzO{Zd text:Za}{s:Sc}{up:List Sc}{k:Nat}{t:Tb}(hnd:s.names.Nodup)(hn:s.names[k]? =some Zd)(hne:Zd≠ [])(ht:s.tabs[k]? =some t)(hno:text∉t.Ze):Ye Zd text (s::up)=none:=by
 have h0:hits Zd text s.names s.tabs 0= []:=by
  rw[List.eq_nil_iff_forall_not_mem];intro p hp;obtain⟨n,t',_,h2,h3,h4,h5⟩:=ZtA hp;rw[Nat.sub_zero]at h2 h3;have e:Zd=n:=h4.resolve_left hne;subst e;have hkp:k=p.1:=by
   have hk:=(ZXq.1 hn);have hp1:=(ZXq.1 h2);exact(List.getElem_inj hnd).1 (hk.2.trans hp1.2.symm)
  subst hkp;rw[ht]at h3;cases h3;exact hno h5
 refine Zjg (by rw[h0];simp) ?_;unfold QF;rw[ZXX hne,ZYi];exact ZXI.2 (ZXW hn)
theorem Xk.Zwp{s:Sc}{xs:List XS}(h:Xk s xs):s.names.length=s.tabs.length:=by rw[h.names,ZW5,h.len]
theorem Zra{Zd text:Za}{s:Sc}{up:List Sc}:(∃i c,Ye Zd text [s]=some (0,i,c)/\Ye Zd text (s::up)=some (0,i,c))\/(Ye Zd text [s]=none/\∀i c,Ye Zd text (s::up)≠some (0,i,c)):=by
 rcases Nat.lt_trichotomy (hits Zd text s.names s.tabs 0).length 1 with h|h|h
 ·have h0:(hits Zd text s.names s.tabs 0).length=0:=by omega
  rcases ZYk (QF Zd s.names)with hm|hm
  ·exact .inr ⟨Zjg U hm,fun i c e=>by rw[Zjg U hm]at e;cases e⟩
  ·refine .inr ⟨by rw[ZgW h0 hm];rfl,fun i c e=>?_⟩;rw[ZgW h0 hm]at e;cases hu:Ye Zd text up with
   |none=>rw[hu]at e;cases e
   |some q=>rw[hu]at e;simp at e
 ·exact .inl ⟨_,_,Zjh h,Zjh h⟩
 ·exact .inr ⟨Zjf h,fun i c e=>by rw[Zjf h]at e;cases e⟩
def Zbv(s:Sc)(i:Nat):Nat:=((s.tabs.take i).map fun t=>t.Ze.length).sum
theorem Xk.first{s:Sc}{xs:List XS}(h:Xk s xs)(i:Nat):ZR xs i=Zbv s i:=by
 have e:(s.tabs.map fun t=>t.Ze.length)=xs.map fun x=>x.Ze.length:=by
  refine List.ext_getElem (by rw[ZW5,ZW5,h.len]) fun j h1 h2=>?_;rw[ZW5]at h1 h2;have:=(h.tabs j _ _ (ZW1 h1) (ZW1 h2)).1;rw[ZYp,ZYp,this,ZW5]
 unfold ZR Zbv;rw[List.map_take,List.map_take,e]
theorem ZBs{Zd text:Za}{s:Sc}{up:List Sc}(h:(hits Zd text s.names s.tabs 0).length=0)(hm:QF Zd s.names=false):Xb Zd text (s::up)=Xb Zd text up:=by
 unfold Xb;rw[ZgW h hm];cases Ye Zd text up with
 |none=>rfl
 |some p=>obtain⟨l,i,c⟩:=p;simp
def ZdO(s:Sc)(i c:Nat):Bool:= !(decide (s.phase=YV)&& !s.groups.contains (QP i c))
theorem Xk.JF{s:Sc}{xs:List XS}(h:Xk s xs){i c:Nat}{t:Tb}{x:XS}(ht:s.tabs[i]? =some t)(hx:xs[i]? =some x)(hc:c<x.Ze.length):t.types.getD c []=Jw x.Ze[c].2/\ZI (Jw x.Ze[c].2)=x.Ze[c].2:=by
 obtain⟨h1,h2⟩:=h.tabs i t x ht hx;have hk:=h.ok x (ZXW hx);refine⟨?_,Zxa (hk.ty _ (ZWX hc))⟩;rw[h2,ZX6,ZXU,ZW1 hc];rfl
theorem ZBr{Zd text:Za}{s:Sc}{up:List Sc}{xs:List XS}(h:Xk s xs){i c:Nat}(hh:hits Zd text s.names s.tabs 0= [(i,c)]):∃x,∃hx:xs[i]? =some x,∃hc:c<x.Ze.length,Ye Zd text (s::up)=some (0,i,c)/\Xb Zd text (s::up)=(Jw x.Ze[c].2,{lost:= !ZdO s i c})/\ZI (Jw x.Ze[c].2)=x.Ze[c].2:=by
 have hat:Ye Zd text (s::up)=some (0,i,c):=by rw[Zjh (by rw[hh];rfl),hh];rfl
 obtain⟨s',t,e1,e2,e3⟩:=Zfj hat;have es:s=s':=by simpa using e1
 subst es;have hi:=(ZXq.1 e2).1;have hix:i<xs.length:=by rw[<-h.len];exact hi
 have hx:=ZW1 (l:=xs) hix;have hcc:=(h.tabs i t _ e2 hx).1;have hc:c<xs[i].Ze.length:=by rw[hcc,ZW5]at e3;exact e3
 obtain⟨h1,h2⟩:=h.JF e2 hx hc;refine⟨_,hx,hc,hat,?_,h2⟩;rw[ZmD hat e1 e2,h1];simp[ZdO]
def ZeW(xs:List XS)(p:Nat×Nat):Int:=(((xs[p.1]?).bind fun x=>x.Ze[p.2]?).map (·.2)).getD 0
def ZbC(xs:List XS)(l:List (Nat×Nat)):List Value:=l.flatMap fun p=> [.int .i64 ((ZR xs p.1+p.2:Nat):Int),.int .i64 (ZeW xs p)]
theorem ZDP(xs:List XS)(a b:List (Nat×Nat)):ZbC xs (a++b)=ZbC xs a++ZbC xs b:=by unfold ZbC;rw[ZYw]
theorem Zw8{xs:List XS}{i c:Nat}{x:XS}(hx:xs[i]? =some x)(hc:c<x.Ze.length):ZeW xs (i,c)=x.Ze[c].2:=by
 unfold ZeW;simp[hx,ZW1 hc]
theorem Ztx{Zd text n:Za}{Ze:List Za}{i:Nat}(h:(Zd≠ []/\Zd≠n)\/text∉Ze):U9 Zd text n Ze i= []:=by
 unfold U9;split
 ·rfl
 ·rename_i h';rcases h with h|h
  ·exact absurd h h'
  ·rw[ZjA h];rfl
theorem ZDQ{Zd text n:Za}{Ze:List Za}{i c:Nat}(hn:Ze.Nodup)(h1:Zd= []\/Zd=n)(h2:Ze[c]? =some text):U9 Zd text n Ze i= [(i,c)]:=by
 unfold U9;rw[ZWQ (by rintro⟨a,b⟩;rcases h1 with h|h;exact a h;exact b h),ZrS hn h2];simp
theorem ZAq(c:UInt8):blank c=(((c.toNat:Int)==32||(c.toNat:Int)==9)||(c.toNat:Int)==10):=by
 have:=Zji (p:=fun c=>blank c==(((c.toNat:Int)==32||(c.toNat:Int)==9)||(c.toNat:Int)==10)) ZP5 c;exact ZWN
theorem ZMY(c:UInt8)(w:World):
  Calls prog 128 #[.int .u8 c.toNat] w fun e w'=>e= .returned (.bool (blank c))/\w=w':=by
 have HB:Hid (blank c=(((c.toNat:Int)==32||(c.toNat:Int)==9)||(c.toNat:Int)==10)):=ZAq c;go_enter func128,ntmps128;go_wp2;all_goals
  go_ret;refine⟨Xw ?_,rfl⟩;rw[HB.out];try simp[*]
structure Za8 (rest:Za) (n:Nat):Prop where
 le:n<=rest.length
 same:∀(s:Za) (i:Nat),s.drop i=rest->YK s (s.length+1) (i+n)=YK s (s.length+1) i
structure Zxy (rest:Za) (n:Nat):Prop extends Za8 rest n where
 stop:∀h:n<rest.length,blank rest[n]=false/\(rest.drop n).take 2≠ [45,45]
theorem drop_at{s rest:Za}{i n:Nat}(h:s.drop i=rest)(hn:n<rest.length):∃hl:i+n<s.length,s[i+n]=rest[n]/\s.drop (i+n)=rest.drop n:=by
 subst h;rw[ZXo]at hn;refine⟨U,?_,ZRl⟩;simp
theorem Za8.sp{rest:Za}{n:Nat}(h:Za8 rest n)(hn:n<rest.length)(hb:blank rest[n]=true):Za8 rest (n+1):=by
 refine⟨U,fun s i e=>?_⟩;obtain⟨hl,e1,e2⟩:=drop_at e hn;rw[<-h.same s i e,Zk3 hl,e1,ZWR hb];rfl
theorem Za8.ln{rest:Za}{n:Nat}(h:Za8 rest n)(hn:n<rest.length)(hb:blank rest[n]=false)(hc:(rest.drop n).take 2= [45,45]):Za8 rest (n+JW (rest.drop n)):=by
 have hle:JW (rest.drop n)<=(rest.drop n).length:=ZwW _ _;rw[ZXo]at hle;refine⟨U,fun s i e=>?_⟩;obtain⟨hl,e1,e2⟩:=drop_at e hn;rw[<-h.same s i e,Zk3 hl,e1,ZWQ (by rw[hb];simp),e2,ZWR hc,Nat.add_assoc]
theorem ZoJ(s:Za)(a b:UInt8):Lib.hasPrefix s [a,b]=(s.take 2== [a,b]):=by
 rcases s with _|⟨c,_|⟨d,r⟩⟩
 ·simp[Lib.hasPrefix,List.isPrefixOf]
 ·simp[Lib.hasPrefix,List.isPrefixOf]
 ·simp[Lib.hasPrefix,List.isPrefixOf,Bool.beq_comm (a:=c),Bool.beq_comm (a:=d)]
theorem ZpI(rest:Za)(w:World)(hs:rest.length<=400):
  Calls prog 90 #[.string ⟨rest.toArray⟩] w fun e w'=>(∃n:Nat,e= .returned (.int .i64 n)/\Zxy rest n)/\w=w':=by
 have hex:=QY;go_enter func90,ntmps90;go_wp2_with fail;go_loopg [3] (rest.length+1) (fun gk iv wr=>∃k:Nat,gk=rest.length-k+1/\k<=rest.length/\iv= .int .i64 k/\w=wr/\Hid (Za8 rest k));case atStart=>exact⟨0,U,U,rfl,rfl,⟨U,fun s i e=>rfl⟩⟩
 case round=>
  obtain⟨k,rfl,hk,rfl,rfl,hg⟩:=hrel;by_cases hlt:k<rest.length
  ·have hsz:k<(ByteArray.mk rest.toArray).size:=hlt;go_wp2_with fail;refine(ZMY ((ByteArray.mk rest.toArray)[k]'hsz) _).mono ?_;rintro e w' ⟨rfl,rfl⟩;cases hb:blank ((ByteArray.mk rest.toArray)[k]'hsz)with
   |true=>
    have HG:Hid (Za8 rest (k+1)):=hg.out.sp hlt hb;clear hb;go_wp2_with fail;go_roundg (rest.length-(k+1)+1);case measure=>omega
    case rel=>exact⟨k+1,rfl,U,ZPp,rfl,HG⟩
   |false=>
    have HB:Hid (blank rest[k]=false):=hb;clear hb;have HT:Hid (List.take (List.length rest-k) (List.drop k rest)=rest.drop k):=by show _=_;rw[ZXB ZPO]
    go_wp2_with fail;rw[HT.out];refine(Tryz.strings_HasPrefix _ _ _).mono ?_;rintro e w' ⟨rfl,hw⟩;obtain rfl:=hw.symm;rw[show(ByteArray.mk (rest.drop k).toArray).data.toList=rest.drop k from rfl,show(ByteArray.mk #[45,45]).data.toList= [45,45] from rfl,ZoJ];cases hc:((rest.drop k).take 2== [45,45])with
    |true=>
     have HC:Hid ((rest.drop k).take 2= [45,45]):=by show _=_;simpa using hc
     have HG:Hid (Za8 rest (k+JW (rest.drop k))):=hg.out.ln hlt HB.out HC.out;have hll:1<=JW (rest.drop k):=by
      have h1:=HC.out;cases hd:rest.drop k with
      |nil=>rw[hd]at h1;simp at h1
      |cons c r=>
       rw[hd]at h1;unfold JW;have:c=45:=by
        cases r with
        |nil=>simp at h1
        |cons d r=>simp at h1;exact h1.1
       rw[ZXs,ZWR (by rw[this];decide)];simp
     have hle:=HG.out.le;clear hc;go_wp2_with fail;rw[HT.out];refine(ZM4 (rest.drop k) _ ZPO).mono ?_;rintro e w' ⟨rfl,rfl⟩;rw[show((rest.drop k).takeWhile KR).length=JW (rest.drop k) from rfl];generalize JW (rest.drop k)=m at HG hll hle ⊢;go_wp2_with fail;go_roundg (rest.length-(k+m)+1);case measure=>omega
     case rel=>exact⟨k+m,rfl,U,ZPp,rfl,HG⟩
    |false=>
     have HC:Hid ((rest.drop k).take 2≠ [45,45]):=by show _≠_;simpa using hc
     clear hc;go_wp2_with fail;go_ret;exact⟨⟨k,rfl,hg.out,fun _=>⟨HB.out,HC.out⟩⟩,rfl⟩
  ·go_wp2_with fail;go_ret;exact⟨⟨k,rfl,hg.out,fun h=>absurd h hlt⟩,rfl⟩
section
open Go.Shelf
attribute [local go_sem] Oper.semAt_some
theorem Zz6(x:Za)(h:Lib.indexByte x 10= -1):ZX x= [x]:=by
 unfold ZX;have key:∀(x cur:Za),Lib.indexByte x 10= -1->QZ cur x= [cur++x]:=by
  intro x;induction x with
  |nil=>intro cur _;simp[QZ]
  |cons c r ih=>
   intro cur h;unfold Lib.indexByte at h;by_cases hc:c=10
   ·subst hc;simp at h
   ·rw[ZWQ ZPE]at h;rw[Zml _ _ _ hc,ih (cur++ [c]) (by
     by_cases h2:Lib.indexByte r 10= -1
     ·exact h2
     ·rw[ZWQ ZQe]at h;rcases Zg0 10 r with⟨h3,_⟩|⟨k,_,h3,_⟩
      ·exact h3
      ·rw[h3]at h;omega)]
    simp
 simpa using key x [] h
theorem Zz7(x:Za)(k:Nat)(h:Lib.indexByte x 10=k):ZX x=x.take k::ZX (x.drop (k+1)):=by
 unfold ZX;have key:∀(x cur:Za) (k:Nat),Lib.indexByte x 10=k->QZ cur x=(cur++x.take k)::QZ [] (x.drop (k+1)):=by
  intro x;induction x with
  |nil=>intro cur k h;simp[Lib.indexByte]at h<;>omega
  |cons c r ih=>
   intro cur k h;unfold Lib.indexByte at h;by_cases hc:c=10
   ·subst hc;rw[ZWR ZPC]at h;obtain rfl:k=0:=by omega
    rw[Zrl];simp
   ·rw[ZWQ ZPE]at h;by_cases h2:Lib.indexByte r 10= -1
    ·rw[ZWR ZQe]at h;omega
    ·rw[ZWQ ZQe]at h;obtain⟨k,rfl⟩:∃k',k=k'+1:=⟨k-1,by
      rcases Zg0 10 r with⟨h3,_⟩|⟨j,_,h3,_⟩
      ·exact absurd h3 h2
      ·rw[h3]at h;omega⟩
     rw[Zml _ _ _ hc,ih (cur++ [c]) k U];simp
 simpa using key x [] k h
theorem ZLg(l Bs Bp Bv:Nat)(s:Za)(W:World)(hs:s.length<=90000)(hsp:Bs≠Bp)(hsv:Bs≠Bv)
  (h0:W.cell? ⟨Bs,0,none⟩=some (.string ⟨s.toArray⟩))(hf0:W.frozen? ⟨Bs,0,none⟩=false)(h1:W.cell? ⟨Bp,0,none⟩=some (.string ⟨#[10]⟩))(h2:W.cell? ⟨Bv,0,none⟩=some (.int .i64 0))
  (J:List Za->World->Prop)(Jp:List PanicEntry->World->Prop)
  (hJ:∀pre A v,J pre A->J pre (A.setCell ⟨Bs,0,none⟩ v))(hJd:∀pre A n,J pre A->J pre (A.drewN n))
  (hY:∀pre x post W1,J pre W1->pre++x::post=ZX s->YieldAt Fence.wide 2 prog l #[Zp x] W1 fun e W'=>
   (e= .returned (.bool true)/\J (pre++ [x]) W'/\W'.heap[Bs]? =W1.heap[Bs]?/\W'.heap[Bp]? =W1.heap[Bp]?/\W'.heap[Bv]? =W1.heap[Bv]?)\/(∃ch,e= .panicked ch/\Jp ch W'))
  (hstart:J [] W):
  CallsIn Fence.wide 3 prog 112 #[.func (.yield l) #[] #[],.pointer (some ⟨Bp,0,none⟩),.pointer (some ⟨Bs,0,none⟩),.pointer (some ⟨Bv,0,none⟩)] W fun e W'=>
   (∃v,e= .returned v/\J (ZX s) W')\/(∃ch,e= .panicked ch/\Jp ch W'):=by
 have hex:=QY;refine callsIn_of_wp func112 rfl trivial ?_ rfl;simp only[ntmps112,ZXY,List.length_cons,List.length_nil,Nat.reduceAdd,Nat.reduceSub,ZXZ,Array.replicate_zero,ZX0,ZX1,List.nil_append,List.cons_append];have HY:=hY;have HYH:Hid (∀pre x post W1,J pre W1->pre++x::post=ZX s->YieldAt Fence.wide 2 prog l #[Zp x] W1 fun e W'=>
   (e= .returned (.bool true)/\J (pre++ [x]) W'/\W'.heap[Bs]? =W1.heap[Bs]?/\W'.heap[Bp]? =W1.heap[Bp]?/\W'.heap[Bv]? =W1.heap[Bv]?)\/(∃ch,e= .panicked ch/\Jp ch W')):=HY
 have HJ:Hid (∀pre A v,J pre A->J pre (A.setCell ⟨Bs,0,none⟩ v)):=hJ;have HJd:Hid (∀pre A n,J pre A->J pre (A.drewN n)):=hJd;clear hY HY hJ hJd;gi_wp2;gi_loopw [7,8] (fun _ _ wr=>∃(x:Za) (pre:List Za),x.length<=s.length/\wr.cell? ⟨Bs,0,none⟩=some (.string ⟨x.toArray⟩)/\wr.frozen? ⟨Bs,0,none⟩=false/\wr.cell? ⟨Bp,0,none⟩=some (.string ⟨#[10]⟩)/\wr.cell? ⟨Bv,0,none⟩=some (.int .i64 0)/\J pre wr/\Hid (pre++ZX x=ZX s))
  (fun _ _ wr=>match wr.cell? ⟨Bs,0,none⟩with|some v=>Zk9 v|none=>0)
 case atStart=>exact⟨s, [],ZWS _,h0,hf0,h1,h2,hstart,rfl⟩
 case round=>
  clear h0 hf0 h1 h2 hstart;obtain⟨x,pre,hx,h0,hf0,h1,h2,hj,hl⟩:=hrel;rcases Zg0 10 x with⟨hi,_⟩|⟨k,hk,hi,_,_⟩
  ·have HL:Hid (pre++ [x]=ZX s):=by show _=_;rw[<-hl.out,Zz6 x hi]
   obtain⟨fn,tmps,assign,body,hy0,hR⟩:=HYH.out pre x [] wr hj HL.out;have hy:(Instr.yield l #[.string ⟨x.toArray⟩]).run prog wr= .ok (.round l fn tmps assign body) wr:=hy0;have HR:Hid _:=hR;clear hy0 hR;gi_wp2_with (refine⟨trivial,?_⟩;gi_at_call 113;refine((callsIn_wide (n:=2)).2 (Tryz.strings_Index_one ⟨x.toArray⟩ 10 _)).mono ?_;rintro e w' ⟨rfl,hw⟩;obtain rfl:=hw.symm);refine RoundIn.mono HR.out ?_;rintro e W3 (⟨rfl,hJ3,_⟩|⟨ch,rfl,hp⟩)
   ·gi_wp2;go_end0;rw[HL.out]at hJ3;exact .inl ⟨_,rfl,hJ3⟩
   ·exact ZUb
  ·have HL:Hid (pre++x.take k::ZX (x.drop (k+1))=ZX s):=by show _=_;rw[<-hl.out,Zz7 x k hi]
   obtain⟨fn,tmps,assign,body,hy0,hR⟩:=HYH.out pre (x.take k) _ wr hj HL.out;have hy:(Instr.yield l #[.string ⟨(x.take k).toArray⟩]).run prog wr= .ok (.round l fn tmps assign body) wr:=hy0;have HR:Hid _:=hR;clear hy0 hR;gi_wp2_with (refine⟨trivial,?_⟩;gi_at_call 113;refine((callsIn_wide (n:=2)).2 (Tryz.strings_Index_one ⟨x.toArray⟩ 10 _)).mono ?_;rintro e w' ⟨rfl,hw⟩;obtain rfl:=hw.symm);refine RoundIn.mono HR.out ?_;rintro e W3 (⟨rfl,hJ3,hb0,hb1,hb2⟩|⟨ch,rfl,hp⟩)
   ·have c0:W3.cell? ⟨Bs,0,none⟩=some (.string ⟨x.toArray⟩):=(ZXb (a:=⟨Bs,0,none⟩) hb0).trans h0;have f0:W3.frozen? ⟨Bs,0,none⟩=false:=(World.frozen?_of_block (a:=⟨Bs,0,none⟩) hb0).trans hf0;have c1:W3.cell? ⟨Bp,0,none⟩=some (.string ⟨#[10]⟩):=(ZXb (a:=⟨Bp,0,none⟩) hb1).trans h1;have c2:W3.cell? ⟨Bv,0,none⟩=some (.int .i64 0):=(ZXb (a:=⟨Bv,0,none⟩) hb2).trans h2;clear hb0 hb1 hb2 hy;gi_wp2;have et:List.take (List.length x-(k+1)) (List.drop (k+1) x)=x.drop (k+1):=ZXB ZR2;rw[et];have cn:(W3.setCell ⟨Bs,0,none⟩ (.string ⟨(x.drop (k+1)).toArray⟩)).cell? ⟨Bs,0,none⟩=some (.string ⟨(x.drop (k+1)).toArray⟩):=World.cell?_setCell_same' _ _ _ (by rw[c0];rfl);have q1:(W3.setCell ⟨Bs,0,none⟩ (.string ⟨(x.drop (k+1)).toArray⟩)).cell? ⟨Bp,0,none⟩=some (.string ⟨#[10]⟩):=
     (ZXb (w:=W3) (a:=⟨Bp,0,none⟩) (ZXf W3 ⟨Bs,0,none⟩ _ Bp (fun e=>hsp e.symm))).trans c1
    have q2:(W3.setCell ⟨Bs,0,none⟩ (.string ⟨(x.drop (k+1)).toArray⟩)).cell? ⟨Bv,0,none⟩=some (.int .i64 0):=
     (ZXb (w:=W3) (a:=⟨Bv,0,none⟩) (ZXf W3 ⟨Bs,0,none⟩ _ Bv (fun e=>hsv e.symm))).trans c2
    refine⟨⟨x.drop (k+1),pre++ [x.take k],ZPO,cn,by rw[World.frozen?_setCell];exact f0,q1,q2,HJ.out _ _ _ hJ3,?_⟩,?_⟩
    ·show(pre++ [x.take k])++ZX (x.drop (k+1))=ZX s;rw[<-HL.out];simp
    ·rw[cn,h0];simp only[Zk9,Zd4,ZXo];omega
   ·exact ZUb
end
def ZdF:Op->Bool
 | .defer _=>false
 |_=>true
theorem ZH0{o:Op}(h:ZdF o=true):∀c,o≠.defer c:=by
 intro c e;subst e;cases h
section
variable {P:Program} {l n:Nat} {Q:Exit->Act->World->Prop} {ops:Array Oper} {md:Region.Mode}
theorem Zvo{o:Oper}{a:Act}{w:World}{K:Act->World->Prop}(hd:ZdF o.op=true)(h:o.wp P a w K Q):o.wpIn (Fence.wide.inRound l) n P a w K Q:=by
 refine⟨fun f _=>trivial,?_⟩;rw[Oper.semAt_eq _ _ _ (ZH0 hd)];unfold Oper.wp at h;generalize (execOp a.eval o).run P w=r at *;cases r with
 |ok nx w'=>
  cases nx with
  |value v=>exact h
  |skip=>exact h
  |defer d=>exact h
  |enter f args=>exact⟨fun hx=>ZQl,(callsIn_wide (n:=n-1)).2 h⟩
  |row row args=>
   refine⟨fun hx=>ZQl,fun c cs _=>?_⟩;obtain⟨v,w'',r,s⟩:=h c cs;exact⟨v,w'',r,stepsIn_wide.2 s⟩
  |_=>exact h.elim
 |halt x w'=>
  cases x with
  |panic v=>exact h
  |_=>exact h.elim
theorem ZNe{i:Nat}{a:Act}{w:World}{K K':Act->World->Prop}(hnd:ops.all (fun o=>ZdF o.op)=true)(hQ:¬LetsOut Q)(hK:∀a w,K a w->K' a w)(h:wpOp P ops Q i K a w):wpOpIn (Fence.wide.inRound l) n P ops Q i K' a w:=by
 unfold wpOp at h;unfold wpOpIn;cases ho:ops[i]? with
 |none=>rw[ho]at h;exact hK _ _ h
 |some o=>
  rw[ho]at h;simp only at h ⊢;have hd:ZdF o.op=true:=by
   obtain⟨hi,e⟩:=ZWU.1 ho;have:=(Array.all_eq_true.1 hnd) i hi;rw[e]at this;exact this
  split at h
  ·rename_i hw;rw[ZWR hw];rcases h with h|h
   ·exact Zvo hd (Oper.wp_mono hK h)
   ·exact absurd h.2 hQ
  ·rename_i hw;rw[ZWQ hw];exact⟨fun f _=>trivial,hK _ _ h⟩
theorem Zxl(hnd:ops.all (fun o=>ZdF o.op)=true)(hQ:¬LetsOut Q):∀(fuel:Nat) (listed:Array Bool) (a:Act) (w:World),wpAny P md ops Q fuel listed a w->wpAnyIn (Fence.wide.inRound l) n P md ops Q fuel listed a w
 |0,_,_,_,h=>h
 |fuel+1,listed,a,w,h=>⟨h.1,fun i hi=>ZNe hnd hQ (fun a w=>Zxl hnd hQ fuel _ a w) (h.2 i hi)⟩
theorem Zo5{id:Nat}{S:World->Prop}{a:Act}{w:World}(hm:P.follows .mixedOrders=true)(hnd:ops.all (fun o=>ZdF o.op)=true)(hQ:¬LetsOut Q)(hS:S w.drew)
  (h:S w.drew->wpAnyH P .any ops Q S ops.size (Array.replicate ops.size false) a w.drew):(Code.region id ops true).wpIn (Fence.wide.inRound l) n P Q a w:=
 wpIn_region_any hm (Zxl hnd hQ _ _ _ _ (wpAny_of_held _ _ _ _ (h hS)))
theorem ZpM(hQ:¬LetsOut Q):∀(os:List Oper) (a:Act) (w:World),os.all (fun o=>ZdF o.op)=true->wpList P ops Q os a w->wpListIn (Fence.wide.inRound l) n P ops Q os a w
 | [],_,_,_,h=>h
 |o::rest,a,w,hd,h=>by
  rw[List.all_cons,ZXN]at hd;unfold wpList at h;unfold wpListIn;split at h
  ·rename_i hw;rw[ZWR hw];rcases h with h|h
   ·exact Zvo hd.1 (Oper.wp_mono (fun a w=>ZpM hQ rest a w hd.2) h)
   ·exact absurd h.2 hQ
  ·rename_i hw;rw[ZWQ hw];exact⟨fun f _=>trivial,ZpM hQ rest _ _ hd.2 h⟩
theorem ZdL{id:Nat}{os:List Oper}{a:Act}{w:World}(hnd:os.all (fun o=>ZdF o.op)=true)(hQ:¬LetsOut Q)(h:wpList P os.toArray Q os a w):(Code.region id os.toArray false).wpIn (Fence.wide.inRound l) n P Q a w:=
 wpIn_region_lit (ZpM hQ _ _ _ hnd h)
theorem Zlo{bf:FuncId}{a:Act}{w:World}{id:Nat}{c:Code}(h:EU bf P c (Exit.inBlock id Q) a w):EU bf P (Code.block id c) Q a w:=by
 intro b k cs hro hb;have h0:(lone (b.atR a (.code (.block id c)::k)) cs w).fenced P Fence.wide:=fenced_calm (n:=0) trivial (ZiL _) rfl;obtain⟨e,a₁,w₁,hq,harr⟩:=h b (.inBlock id::k) cs hro hb;cases e with
 |normal=>exact⟨.normal,a₁,w₁,hq,.head h0 stepR_block (StepsIn.trans harr (.one (fenced_calm (n:=0) trivial (ZiL _) rfl) stepR_inBlock))⟩
 |exit id'=>
  by_cases hid:id'=id
  ·simp only[Exit.inBlock,hid,ZXR]at hq;exact⟨.normal,a₁,w₁,hq,.head h0 stepR_block (harr.1 k (by simp[exitTo,hid]))⟩
  ·simp only[Exit.inBlock,hid,ZXO]at hq;have this:(id==id')=false:=by simp;exact fun h=>hid h.symm
   have hx:exitTo id' (.inBlock id::k)=exitTo id' k:=by simp[exitTo,this]
   exact⟨.exit id',a₁,w₁,hq,fun k' hk=>.head h0 stepR_block (harr.1 k' ZQ0),
    fun hr' hk=>let⟨k₁,h1,h2⟩:=harr.2 hr' ZQ0;⟨k₁,h1,.head h0 stepR_block h2⟩⟩
 |goto l=>
  have hx:gotoIn l (.inBlock id::k)=gotoIn l k:=by simp[gotoIn]
  exact⟨_,a₁,w₁,hq,fun k' hk=>.head h0 stepR_block (harr.1 k' ZQ0),
   fun hr' hk=>let⟨k₁,h1,h2⟩:=harr.2 hr' ZQ0;⟨k₁,h1,.head h0 stepR_block h2⟩⟩
 |ret=>exact ZTJ
 |panic ch=>exact ZTJ
 |outgrown=>exact ZTJ
end
theorem heap_drewN(A:World)(n:Nat):(A.drewN n).heap=A.heap:=by
 simp
theorem ZbQ{w:World}{bf:FuncId}{tmps:Array Value}{ps:Array Tmp}{assign body:Code}{b:Nat}(h:b<w.heap.size):(Qg w bf tmps ps assign body).heap[b]? =w.heap[b]? :=
 (ZXa _ _ b ZPo).trans (ZXa _ _ b h)
theorem ZoR(w:World)(bf:FuncId)(tmps:Array Value)(ps:Array Tmp)(assign body:Code):(Qg w bf tmps ps assign body).heap[w.heap.size]? =some (.deferred (some [])):=
 (ZXa _ _ w.heap.size ZPm).trans (ZWV w _)
theorem ZoS(w:World)(bf:FuncId)(tmps:Array Value)(ps:Array Tmp)(assign body:Code):(Qg w bf tmps ps assign body).heap[w.heap.size+1]? =some (.loop (ZcU bf tmps ps assign body w.heap.size .ready)):=by
 have:=ZWV (w.alloc (.deferred (some []))) (.loop (ZcU bf tmps ps assign body w.heap.size .ready));exact ZWq
theorem ZkJ{P:Program}{fn:Func}{tmps:Array Value}{R:Ending->World->Prop}{D:Nat}{w:World}{v:Value}(hD:w.heap[D]? =some (.deferred (some [])))(hres:(results fn tmps).run P (w.putObj D (.deferred none))= .ok v (w.putObj D (.deferred none)))(hR:R (.returned v) (w.putObj D (.deferred none))):
  bodyPostM Fence.wide 0 P fn R .normal {tmps:=tmps,defers:= [{target:=.collected D,args:=#[]}]} w:=by
 show LeavesInM Fence.wide 0 P fn tmps R [{target:=.collected D,args:=#[]}] .returning w;unfold LeavesInM;refine⟨ZPm,.inl ⟨D,_,rfl,run_takeDeferred hD,?_⟩⟩;unfold LeavesInM LeavesIn;exact⟨v,hres,hR⟩
theorem Zor{P:Program}{fn:Func}{a:Act}{R:Ending->World->Prop}{D:Nat}{w:World}{ch:List PanicEntry}(ha:a.defers= [{target:=.collected D,args:=#[]}])(hD:w.heap[D]? =some (.deferred (some [])))(hR:R (.panicked ch) (w.putObj D (.deferred none))):
  bodyPostM Fence.wide 0 P fn R (.panic ch) a w:=by
 show LeavesInM Fence.wide 0 P fn a.tmps R a.defers (.panicking ch) w;rw[ha];unfold LeavesInM;refine⟨ZPm,.inl ⟨D,_,rfl,run_takeDeferred hD,?_⟩⟩;unfold LeavesInM LeavesIn;exact hR
structure UY (l:Nat) (A A':World):Prop where
 os:A'.os=A.os
 tape:A'.tape=A.tape
 output:A'.output=A.output
 size:A'.heap.size=A.heap.size
 block:∀b,b≠l->A'.heap[b]? =A.heap[b]?
theorem UY.put(l:Nat)(A:World)(o:Obj):UY l A (A.putObj l o):=⟨rfl,rfl,rfl,by simp[World.putObj],fun b hb=>ZXz hb⟩
def Zjq(l D:Nat)(rb:Loop)(J:World->Prop)(Jp:List PanicEntry->World->Prop):Exit->Act->World->Prop
 | .normal,_,w=>w.heap[l]? =some (.loop rb)/\w.heap[D]? =some (.deferred (some []))/\∀A',UY l w A'->J A'
 | .panic ch,a,w=>a.defers= []/\Jp ch w
 |_,_,_=>False
theorem ZpP{P:Program}{l D n:Nat}{r:Loop}{fn:Func}{args:Array Value}{w:World}{J:World->Prop}{Jp:List PanicEntry->World->Prop}(hL:w.heap[l]? =some (.loop r))(hD:w.heap[D]? =some (.deferred (some [])))(hlD:D≠l)(hs:args.size=r.params.size)(hr:r.state= .ready)(hp:r.pending=none)(hfn:P.funcs[r.fn]? =some fn)
  (h:∀rb A2,UY l w A2->A2.heap[l]? =some (.loop rb)->A2.heap[D]? =some (.deferred (some []))->r.assign.wpIn (Fence.wide.inRound l) n P (Exit.then (fun a₁ w₁=>w₁=w/\r.body.wpIn (Fence.wide.inRound l) n P (Zjq l D rb J Jp) a₁ A2) (fun _ _ _=>False)) {tmps:=(r.params.zip args).foldl (fun tmps (t,a)=>tmps.setIfInBounds t a) r.tmps,defers:= []} w):
  YieldAt Fence.wide n P l args w fun e W'=>(e= .returned (.bool true)/\J W'/\W'.heap[l]? =some (.loop r)/\W'.heap[D]? =some (.deferred (some [])))\/(∃ch,e= .panicked ch/\Jp ch W'):=by
 refine⟨r.fn,_,r.assign,r.body,run_yield hL hs,ZKE trivial hfn ?_⟩;have hl:l<w.heap.size:=(ZWU.1 hL).1;refine Code.wpIn_mono ?_ (h {r with state:=.busy} (w.putObj l (.loop {r with state:=.busy})) (UY.put ..) (World.putObj_heap_same hl) ((ZXz hlD).trans hD));intro e a1 w1 hq;cases e with
 |normal=>
  obtain⟨rfl,hb⟩:=hq;refine⟨_,run_beginRound hL hr,Code.wpIn_mono ?_ hb⟩;intro e a2 w2 hq2;cases e with
  |normal=>
   obtain⟨h1,h2,h3⟩:=hq2;have hlt:l<w2.heap.size:=(ZWU.1 h1).1;refine⟨_,_,run_endRound none h1,.inl ⟨rfl,h3 _ (UY.put ..),?_,?_⟩⟩
   ·rw[World.putObj_heap_same hlt];cases r;simp only at hr hp;subst hr;subst hp;rfl
   ·rw[ZXz hlD];exact h2
  |panic ch=>exact⟨hq2.1,.inr ⟨ch,rfl,hq2.2⟩⟩
  |_=>exact hq2.elim
 |_=>exact hq.elim
theorem ZNc{bf:FuncId}{fnb:Func}{Q:Exit->Act->World->Prop}{a:Act}{w:World}{g:Operand}{ps:Array Tmp}{assign body:Code}(Bs Bn gb o m cap:Nat)(J:Nat->World->Prop)(Jp:List PanicEntry->World->Prop)
  (hfn:prog.funcs[bf]? =some fnb)(hg:a.eval g= .func (.func 158) #[] #[.pointer (some ⟨Bs,0,none⟩),.pointer (some ⟨Bn,0,none⟩)])(hps:ps.size=1)
  (hm:m<=6)(hcap:2*m<=cap)(hcap2:cap<=maxLen)(h0:w.cell? ⟨Bs,0,none⟩=some (.slice (some ⟨gb,o,none⟩) (2*m) cap))(h1:w.cell? ⟨Bn,0,none⟩=some (.int .i64 2))
  (hJd:∀k A n,J k A->J k (A.drewN n))(hJ0:J 0 (Qg w bf a.tmps ps assign body))
  (Zh5:∀k A rb A2,J k A->k<m->UY (w.heap.size+1) A A2->A2.heap[w.heap.size+1]? =some (.loop rb)->A2.heap[w.heap.size]? =some (.deferred (some []))->
   assign.wpIn (Fence.wide.inRound (w.heap.size+1)) 2 prog (Exit.then (fun a₁ w₁=>w₁=A/\body.wpIn (Fence.wide.inRound (w.heap.size+1)) 2 prog
    (Zjq (w.heap.size+1) w.heap.size rb (fun A'=>J (k+1) A'/\A'.heap[Bs]? =A.heap[Bs]?/\A'.heap[Bn]? =A.heap[Bn]?) Jp) a₁ A2) (fun _ _ _=>False))
    {tmps:=(ps.zip #[.slice (some ⟨gb,o+2*k,none⟩) 2 2]).foldl (fun tmps (t,a)=>tmps.setIfInBounds t a) a.tmps,defers:= []} A)
  (hdone:∀A A2,J m A->UY (w.heap.size+1) A A2->A2.heap[w.heap.size]? =some (.deferred (some []))->
   Q .normal {a with defers:={target:=.collected w.heap.size,args:=#[]}::a.defers} A2)
  (Zh0:∀ch A,Jp ch A->Q (.panic ch) {a with defers:={target:=.collected w.heap.size,args:=#[]}::a.defers} A):
  EU bf prog (Code.rangeFunc g ps assign body) Q a w:=by
 have hBs:Bs<w.heap.size:=ZWW w _ h0;have hBn:Bn<w.heap.size:=ZWW w _ h1;refine ZpL (gf:=158) hg (fun _ _=>rfl) ?_;refine Calls.mono ((callsIn_wide (n:=3)).1 (ZA8 (w.heap.size+1) Bs Bn gb o m cap (Qg w bf a.tmps ps assign body) hm hcap hcap2 ?_ ?_
  (fun k A=>J k A/\A.heap[w.heap.size+1]? =some (.loop (ZcU bf a.tmps ps assign body w.heap.size .ready))/\A.heap[w.heap.size]? =some (.deferred (some []))) Jp ?_ ?_ ?_)) ?_
 ·exact(ZXb (ZbQ hBs)).trans h0
 ·exact(ZXb (ZbQ hBn)).trans h1
 ·exact ZWb
 ·rintro k A ⟨hj,hL,hD⟩ hk;have hy:=ZpP (P:=prog) (n:=2) (l:=w.heap.size+1) (D:=w.heap.size) (args:=#[.slice (some ⟨gb,o+2*k,none⟩) 2 2]) hL hD U ZRt rfl rfl hfn (fun rb A2 h1 h2 h3=>Zh5 k A rb A2 hj hk h1 h2 h3);obtain⟨fn,tmps,U2,bd,hyr,hR⟩:=hy;refine⟨fn,tmps,U2,bd,hyr,RoundIn.mono hR ?_⟩;rintro e W' (⟨rfl,⟨h1,h2,h3⟩,h4,h5⟩|h)
  ·exact .inl ⟨rfl,⟨h1,h4,h5⟩,h2,h3⟩
  ·exact .inr h
 ·exact⟨hJ0,ZoS ..,ZoR ..⟩
 ·rintro e W' (⟨v,rfl,hj,hL,hD⟩|⟨ch,rfl,hp⟩)
  ·exact ZTS
  ·exact Zh0 ch W' hp
theorem ZNd{bf:FuncId}{fnb:Func}{Q:Exit->Act->World->Prop}{a:Act}{w:World}{g:Operand}{ps:Array Tmp}{assign body:Code}(Bs Bp Bv:Nat)(s:Za)(J:List Za->World->Prop)(Jp:List PanicEntry->World->Prop)
  (hfn:prog.funcs[bf]? =some fnb)(hg:a.eval g= .func (.func 112) #[] #[.pointer (some ⟨Bp,0,none⟩),.pointer (some ⟨Bs,0,none⟩),.pointer (some ⟨Bv,0,none⟩)])(hps:ps.size=1)
  (hs:s.length<=90000)(hsp:Bs≠Bp)(hsv:Bs≠Bv)
  (h0:w.cell? ⟨Bs,0,none⟩=some (.string ⟨s.toArray⟩))(hf0:w.frozen? ⟨Bs,0,none⟩=false)(h1:w.cell? ⟨Bp,0,none⟩=some (.string ⟨#[10]⟩))(h2:w.cell? ⟨Bv,0,none⟩=some (.int .i64 0))
  (hJs:∀pre A v,J pre A->J pre (A.setCell ⟨Bs,0,none⟩ v))(hJd:∀pre A n,J pre A->J pre (A.drewN n))(hJ0:J [] (Qg w bf a.tmps ps assign body))
  (Zh5:∀pre x post A rb A2,J pre A->pre++x::post=ZX s->UY (w.heap.size+1) A A2->A2.heap[w.heap.size+1]? =some (.loop rb)->A2.heap[w.heap.size]? =some (.deferred (some []))->
   assign.wpIn (Fence.wide.inRound (w.heap.size+1)) 2 prog (Exit.then (fun a₁ w₁=>w₁=A/\body.wpIn (Fence.wide.inRound (w.heap.size+1)) 2 prog
    (Zjq (w.heap.size+1) w.heap.size rb (fun A'=>J (pre++ [x]) A'/\A'.heap[Bs]? =A.heap[Bs]?/\A'.heap[Bp]? =A.heap[Bp]?/\A'.heap[Bv]? =A.heap[Bv]?) Jp) a₁ A2) (fun _ _ _=>False))
    {tmps:=(ps.zip #[Zp x]).foldl (fun tmps (t,a)=>tmps.setIfInBounds t a) a.tmps,defers:= []} A)
  (hdone:∀A A2,J (ZX s) A->UY (w.heap.size+1) A A2->A2.heap[w.heap.size]? =some (.deferred (some []))->
   Q .normal {a with defers:={target:=.collected w.heap.size,args:=#[]}::a.defers} A2)
  (Zh0:∀ch A,Jp ch A->Q (.panic ch) {a with defers:={target:=.collected w.heap.size,args:=#[]}::a.defers} A):
  EU bf prog (Code.rangeFunc g ps assign body) Q a w:=by
 have hBs:Bs<w.heap.size:=ZWW w _ h0;have ZE:Bp<w.heap.size:=ZWW w _ h1;have K3:Bv<w.heap.size:=ZWW w _ h2;refine ZpL (gf:=112) hg (fun _ _=>rfl) ?_;refine Calls.mono ((callsIn_wide (n:=3)).1 (ZLg (w.heap.size+1) Bs Bp Bv s (Qg w bf a.tmps ps assign body) hs hsp hsv ?_ ?_ ?_ ?_
  (fun k A=>J k A/\A.heap[w.heap.size+1]? =some (.loop (ZcU bf a.tmps ps assign body w.heap.size .ready))/\A.heap[w.heap.size]? =some (.deferred (some []))) Jp ?_ ?_ ?_ ?_)) ?_
 ·exact(ZXb (ZbQ hBs)).trans h0
 ·exact(World.frozen?_of_block (ZbQ hBs)).trans hf0
 ·exact(ZXb (ZbQ ZE)).trans h1
 ·exact(ZXb (ZbQ K3)).trans h2
 ·rintro pre A v ⟨h1,h2,h3⟩;exact⟨hJs pre A v h1,(ZXf A ⟨Bs,0,none⟩ _ _ (by show _≠Bs;omega)).trans h2,(ZXf A ⟨Bs,0,none⟩ _ _ (by show _≠Bs;omega)).trans h3⟩
 ·exact ZWb
 ·rintro pre x post A ⟨hj,hL,hD⟩ hk;have hy:=ZpP (P:=prog) (n:=2) (l:=w.heap.size+1) (D:=w.heap.size) (args:=#[Zp x]) hL hD U ZRt rfl rfl hfn (fun rb A2 h1 h2 h3=>Zh5 pre x post A rb A2 hj hk h1 h2 h3);obtain⟨fn,tmps,U2,bd,hyr,hR⟩:=hy;refine⟨fn,tmps,U2,bd,hyr,RoundIn.mono hR ?_⟩;rintro e W' (⟨rfl,⟨h1,h2,h3,h6⟩,h4,h5⟩|h)
  ·exact .inl ⟨rfl,⟨h1,h4,h5⟩,h2,h3,h6⟩
  ·exact .inr h
 ·exact⟨hJ0,ZoS ..,ZoR ..⟩
 ·rintro e W' (⟨v,rfl,hj,hL,hD⟩|⟨ch,rfl,hp⟩)
  ·exact ZTS
  ·exact Zh0 ch W' hp
section
open Go.Shelf
attribute [local go_sem] Oper.semAt_some
def isSp(c:UInt8):Bool:=c==9||c==10||c==11||c==12||c==13||c==32
def Xc(s:Za):Nat->List Za×Int
 |0=>([], -1)
 |k+1=>if isSp (s.getD k 0)then(if 0<=(Xc s k).2 then((Xc s k).1++ [(s.drop (Xc s k).2.toNat).take (k-(Xc s k).2.toNat)], -1)else Xc s k)else((Xc s k).1,if(Xc s k).2<0 then(k:Int)else(Xc s k).2)
theorem ZmU(s:Za)(k:Nat):Xc s (k+1)=if isSp (s.getD k 0)then(if 0<=(Xc s k).2 then((Xc s k).1++ [(s.drop (Xc s k).2.toNat).take (k-(Xc s k).2.toNat)], -1)else Xc s k)else((Xc s k).1,if(Xc s k).2<0 then(k:Int)else(Xc s k).2):=rfl
def ZjJ(s:Za):List Za:=if 0<=(Xc s s.length).2 then(Xc s s.length).1++ [s.drop (Xc s s.length).2.toNat]else(Xc s s.length).1
theorem Zsn(s:Za):∀k,(Xc s k).2= -1\/∃j:Nat,(Xc s k).2=j/\j<k
 |0=>.inl rfl
 |k+1=>by
  have ih:=Zsn s k;rw[ZmU];split
  ·split
   ·exact ZS5
   ·rcases ih with h|⟨j,h,h2⟩
    ·exact ZS3
    ·exact .inr ⟨j,h,U⟩
  ·rcases ih with h|⟨j,h,h2⟩
   ·rw[h];exact .inr ⟨k,rfl,U⟩
   ·rw[h];refine .inr ⟨j,?_,U⟩;show(if(j:Int)<0 then(k:Int)else j)=j;rw[ZWQ U]
theorem Zsm(s:Za):∀k,(Xc s k).1.length<=k
 |0=>ZWS _
 |k+1=>by
  have ih:=Zsm s k;rw[ZmU];split
  ·split
   ·simp;omega
   ·omega
  ·show(Xc s k).1.length<=k+1;omega
theorem Zso:ZjJ Kn=YI:=by decide +kernel
theorem ZuY:∀c∈Kn,c.toNat<128:=by decide +kernel
theorem ZCs(l Bs:Nat)(s:Za)(W:World)(hs:s.length<=90000)(hasc:∀c∈s,c.toNat<128)
  (J:List Za->World->Prop)(Jp:List PanicEntry->World->Prop)(hJd:∀pre A n,J pre A->J pre (A.drewN n))
  (hJ0:∀pre A,J pre A->A.cell? ⟨Bs,0,none⟩=some (.string ⟨s.toArray⟩)/\∀c:UInt8,c.toNat<128->A.cell? ⟨1,c.toNat,none⟩=some (.int .u8 (if isSp c then 1 else 0)))
  (hY:∀pre x W1,J pre W1->pre.length<=s.length->x.length<=s.length->YieldAt Fence.wide 2 prog l #[Zp x] W1 fun e W'=>(e= .returned (.bool true)/\J (pre++ [x]) W')\/(∃ch,e= .panicked ch/\Jp ch W'))
  (hstart:J [] W):
  CallsIn Fence.wide 3 prog 109 #[.func (.yield l) #[] #[],.pointer (some ⟨Bs,0,none⟩)] W fun e W'=>
   (∃v,e= .returned v/\J (ZjJ s) W')\/(∃ch,e= .panicked ch/\Jp ch W'):=by
 have hex:=QY;refine callsIn_of_wp func109 rfl trivial ?_ rfl;simp only[ntmps109,ZXY,List.length_cons,List.length_nil,Nat.reduceAdd,Nat.reduceSub,ZXZ,Array.replicate_zero,ZX0,ZX1,List.nil_append,List.cons_append];have HYH:Hid (∀pre x W1,J pre W1->pre.length<=s.length->x.length<=s.length->YieldAt Fence.wide 2 prog l #[Zp x] W1 fun e W'=>(e= .returned (.bool true)/\J (pre++ [x]) W')\/(∃ch,e= .panicked ch/\Jp ch W')):=hY;have HJd:Hid (∀pre A n,J pre A->J pre (A.drewN n)):=hJd;have HJ0:Hid (∀pre A,J pre A->A.cell? ⟨Bs,0,none⟩=some (.string ⟨s.toArray⟩)/\∀c:UInt8,c.toNat<128->A.cell? ⟨1,c.toNat,none⟩=some (.int .u8 (if isSp c then 1 else 0))):=hJ0;have ZxA:Hid (∀c∈s,c.toNat<128):=hasc;clear hY hJd hJ0 hasc;gi_wp2;gi_loopw [3,4] (fun st i wr=>∃k:Nat,k<=s.length/\i= .int .i64 k/\st= .int .i64 (Xc s k).2/\J (Xc s k).1 wr) (fun _ i _=>s.length-(intOf i).toNat);case atStart=>exact⟨0,U,rfl,rfl,hstart⟩
 case round=>
  clear hstart;obtain⟨k,hk,rfl,rfl,hj⟩:=hrel;obtain⟨hcs,JR⟩:=HJ0.out _ _ hj;have hst:=Zsn s k;have hle:=Zsm s k;by_cases hlt:k<s.length
  ·have hsz:k<(ByteArray.mk s.toArray).size:=hlt;obtain⟨c,hc⟩:∃c,(ByteArray.mk s.toArray)[k]'hsz=c:=⟨_,rfl⟩;have ZDw:c.toNat<128:=by rw[<-hc];exact ZxA.out _ (ZWX (l:=s) hlt)
   have HC:Hid (s.getD k 0=c):=by
    show s.getD k 0=c;rw[<-hc,ZX6,ZW1 hlt];rfl
   have hcc:=JR c ZDw;have hnot:¬(128:Int)<=(c.toNat:Int):=U
   clear JR;have hsucc:=ZmU s k;rw[HC.out]at hsucc;obtain⟨q,hq⟩:∃q,Xc s k=q:=⟨_,rfl⟩;rw[hq]at hst hle hj hsucc ⊢;obtain⟨pre,stt⟩:=q;simp only at hst hle hj hsucc ⊢;cases hsp:isSp c
   ·rw[hsp]at hcc hsucc;simp only[Bool.false_eq_true,ZXO]at hcc hsucc;have HSU:Hid (Xc s (k+1)=(pre,if stt<0 then(k:Int)else stt)):=hsucc;clear hsucc hsp hq;rcases hst with rfl|⟨j,rfl,hjk⟩
    ·gi_wp2;refine⟨⟨k+1,U,ZPx,?_,?_⟩,ZPB⟩
     ·rw[HSU.out];rfl
     ·rw[HSU.out];exact hj
    ·have hj0:¬(j:Int)<0:=by omega
     gi_wp2;refine⟨⟨k+1,U,ZPx,?_,?_⟩,ZPB⟩
     ·rw[HSU.out,ZWQ hj0]
     ·rw[HSU.out];exact hj
   ·rw[hsp]at hcc hsucc;simp only[ZXR]at hcc hsucc;rcases hst with rfl|⟨j,rfl,hjk⟩
    ·have HSU:Hid (Xc s (k+1)=(pre, -1)):=by show _=_;rw[hsucc,ZWQ U]
     clear hsucc hsp hq;gi_wp2;refine⟨⟨k+1,U,ZPx,?_,?_⟩,ZPB⟩
     ·rw[HSU.out]
     ·rw[HSU.out];exact hj
    ·have HSU:Hid (Xc s (k+1)=(pre++ [(s.drop j).take (k-j)], -1)):=by show _=_;rw[hsucc,ZWR U];rfl
     clear hsucc hsp hq;have hj0:(0:Int)<=(j:Int):=U
     obtain⟨fn,tmps,assign,body,hy0,hR⟩:=HYH.out pre ((s.drop j).take (k-j)) wr hj U (by rw[ZXS,ZXo];omega);have hy:(Instr.yield l #[.string ⟨((s.drop j).take (k-j)).toArray⟩]).run prog wr= .ok (.round l fn tmps assign body) wr:=hy0;have HR:Hid _:=hR;clear hy0 hR;gi_wp2;refine RoundIn.mono HR.out ?_;rintro e W3 (⟨rfl,hJ3⟩|⟨ch,rfl,hp⟩)
     ·clear hy;gi_wp2;refine⟨⟨k+1,U,ZPx,?_,?_⟩,ZPB⟩
      ·rw[HSU.out]
      ·rw[HSU.out];exact hJ3
     ·exact ZUb
  ·obtain rfl:k=s.length:=by omega
   have HE:Hid (ZjJ s=if 0<=(Xc s s.length).2 then(Xc s s.length).1++ [s.drop (Xc s s.length).2.toNat]else(Xc s s.length).1):=rfl;obtain⟨q,hq⟩:∃q,Xc s s.length=q:=⟨_,rfl⟩;rw[hq]at hst hle hj HE ⊢;obtain⟨pre,stt⟩:=q;simp only at hst hle hj HE ⊢;clear JR hq;rcases hst with rfl|⟨j,rfl,hjk⟩
   ·gi_wp2;go_end0;refine .inl ⟨_,rfl,?_⟩;rw[HE.out,ZWQ U];exact hj
   ·have hj0:(0:Int)<=(j:Int):=by omega
    obtain⟨fn,tmps,assign,body,hy0,hR⟩:=HYH.out pre (s.drop j) wr hj U ZPO;have hy:(Instr.yield l #[.string ⟨(s.drop j).toArray⟩]).run prog wr= .ok (.round l fn tmps assign body) wr:=hy0;have HR:Hid _:=hR;clear hy0 hR;have et:List.take (s.length-j) (List.drop j s)=s.drop j:=ZXB ZR2;gi_wp2;refine RoundIn.mono HR.out ?_;rintro e W3 (⟨rfl,hJ3⟩|⟨ch,rfl,hp⟩)
    ·clear hy;gi_wp2;go_end0;refine .inl ⟨_,rfl,?_⟩;rw[HE.out,ZWR hj0];exact hJ3
    ·exact ZUb
theorem Zxm{bf:FuncId}{fnb:Func}{Q:Exit->Act->World->Prop}{a:Act}{w:World}{g:Operand}{ps:Array Tmp}{assign body:Code}(Bs:Nat)(s:Za)(J:List Za->World->Prop)(Jp:List PanicEntry->World->Prop)
  (hfn:prog.funcs[bf]? =some fnb)(hg:a.eval g= .func (.func 109) #[] #[.pointer (some ⟨Bs,0,none⟩)])(hps:ps.size=1)(hs:s.length<=90000)(hasc:∀c∈s,c.toNat<128)
  (hJd:∀pre A n,J pre A->J pre (A.drewN n))
  (hJ0:∀pre A,J pre A->A.cell? ⟨Bs,0,none⟩=some (.string ⟨s.toArray⟩)/\∀c:UInt8,c.toNat<128->A.cell? ⟨1,c.toNat,none⟩=some (.int .u8 (if isSp c then 1 else 0)))
  (ZDa:J [] (Qg w bf a.tmps ps assign body))
  (Zh5:∀pre x A rb A2,J pre A->pre.length<=s.length->x.length<=s.length->UY (w.heap.size+1) A A2->A2.heap[w.heap.size+1]? =some (.loop rb)->A2.heap[w.heap.size]? =some (.deferred (some []))->
   assign.wpIn (Fence.wide.inRound (w.heap.size+1)) 2 prog (Exit.then (fun a₁ w₁=>w₁=A/\body.wpIn (Fence.wide.inRound (w.heap.size+1)) 2 prog
    (Zjq (w.heap.size+1) w.heap.size rb (fun A'=>J (pre++ [x]) A') Jp) a₁ A2) (fun _ _ _=>False))
    {tmps:=(ps.zip #[Zp x]).foldl (fun tmps (t,a)=>tmps.setIfInBounds t a) a.tmps,defers:= []} A)
  (hdone:∀A A2,J (ZjJ s) A->UY (w.heap.size+1) A A2->A2.heap[w.heap.size]? =some (.deferred (some []))->
   Q .normal {a with defers:={target:=.collected w.heap.size,args:=#[]}::a.defers} A2)
  (Zh0:∀ch A,Jp ch A->Q (.panic ch) {a with defers:={target:=.collected w.heap.size,args:=#[]}::a.defers} A):
  EU bf prog (Code.rangeFunc g ps assign body) Q a w:=by
 refine ZpL (gf:=109) hg (fun _ _=>rfl) ?_;refine Calls.mono ((callsIn_wide (n:=3)).1 (ZCs (w.heap.size+1) Bs s (Qg w bf a.tmps ps assign body) hs hasc
  (fun k A=>J k A/\A.heap[w.heap.size+1]? =some (.loop (ZcU bf a.tmps ps assign body w.heap.size .ready))/\A.heap[w.heap.size]? =some (.deferred (some []))) Jp ?_ ?_ ?_ ?_)) ?_
 ·exact ZWb
 ·rintro pre A ⟨h1,_,_⟩;exact hJ0 pre A h1
 ·rintro pre x A ⟨hj,hL,hD⟩ hpl hxl;have hy:=ZpP (P:=prog) (n:=2) (l:=w.heap.size+1) (D:=w.heap.size) (args:=#[Zp x]) hL hD U ZRt rfl rfl hfn (fun rb A2 h1 h2 h3=>Zh5 pre x A rb A2 hj hpl hxl h1 h2 h3);obtain⟨fn,tmps,U2,bd,hyr,hR⟩:=hy;refine⟨fn,tmps,U2,bd,hyr,RoundIn.mono hR ?_⟩;rintro e W' (⟨rfl,h1,h4,h5⟩|h)
  ·exact .inl ⟨rfl,h1,h4,h5⟩
  ·exact .inr h
 ·exact⟨ZDa,ZoS ..,ZoR ..⟩
 ·rintro e W' (⟨v,rfl,hj,hL,hD⟩|⟨ch,rfl,hp⟩)
  ·exact ZTS
  ·exact Zh0 ch W' hp
end
end Go.Proofs.YthmlacabmlghbaaGreatDoor
