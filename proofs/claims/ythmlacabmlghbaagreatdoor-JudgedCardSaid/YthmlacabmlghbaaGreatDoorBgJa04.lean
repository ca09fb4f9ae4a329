import Derived.BigQuiet
import Derived.Deep.AppendLies
import Derived.Deep.QuietTactic
import Derived.Deep.RegionHeld3
import Derived.Deep.RegionLaw
import Derived.Test.YthmlacabmlghbaaGreatDoorChecked
import Derived.WalkLawsBesides
import Derived.WalkSpells
import Derived.Test.YthmlacabmlghbaaGreatDoorBgJa03
set_option maxRecDepth 100000
set_option maxHeartbeats 8000000
set_option linter.unusedSimpArgs false
set_option linter.unusedVariables false
namespace Go.Proofs.YthmlacabmlghbaaGreatDoor
open Go.Proofs.Tryz
theorem ZPx{p:Prop}(h:p:=by go_num):p:=h
theorem ZV6{p:Prop}(h:p:=by rintro e w' ⟨rfl,rfl⟩;go_wp2;go_ret;exact⟨rfl,rfl⟩):p:=h
theorem ZUO{p:Prop}(h:p:=by go_wp2_with fail;go_ret;exact⟨rfl,rfl⟩):p:=h
theorem ZXd:type_of% @Go.info_parts:=@Go.info_parts
theorem ZXp:type_of% @Go.World.ownsRow_nil:=@Go.World.ownsRow_nil
theorem ZWT:type_of% @Go.RowKit.Below.refl:=@Go.RowKit.Below.refl
theorem ZXg:type_of% @Go.wpList_append_own:=@Go.wpList_append_own
theorem ZXm:type_of% @Go.cell_one_new:=@Go.cell_one_new
theorem ZW4:type_of% @Go.bodyPost_ret:=@Go.bodyPost_ret
theorem ZPW{p:Prop}(h:p:=by simp[results,Tryz.results17,go_sem]):p:=h
theorem ZUA{p:Prop}(h:p:=by go_wp2;refine bodyPost_ret (v:=.tuple #[.agg #[.string ⟨#[]⟩,.int .i64 0,.string ⟨#[]⟩],.bool false]) ZPW rfl ⟨ZP3,?_⟩;exact(Below.refl _ w).alloc (Nat.le_refl _) _):p:=h
theorem ZU4{p:Prop}(h:p:=by have h3:=HB1.out h1' U;go_wp2;refine bodyPost_ret (v:=.tuple #[.agg #[.string ⟨#[]⟩,.int .i64 0,.string ⟨#[]⟩],.bool false]) ZPW rfl ⟨ZP3,?_⟩;exact(Below.refl _ w).alloc (Nat.le_refl _) _):p:=h
theorem ZWW:type_of% @Go.World.block_lt_of_cell?:=@Go.World.block_lt_of_cell?
theorem ZXE:type_of% @Go.Addr.add_lit:=@Go.Addr.add_lit
def Xo:Za:= [105,110,116]
def Jd:Za:= [110,117,108,108]
def ZaS:Za:= [116,101,120,116]
def ZcH:Za:= [110,117,109]
def ZfI:Za:= [99,111,108,117,109,110]
def Kk:Za:= [115,117,109]
def Kj:Za:= [109,105,110]
def Ki:Za:= [109,97,120]
def QE:Za:= [115,101,108,101,99,116]
def ZcR:Za:= [119,104,101,114,101]
def YV:Za:= [103,114,111,117,112]
def pIn:Za:= [105,110,115,105,100,101]
def ZdJ:Za:= [114,111,119]
structure Tb where
 name:Za
 Ze:List Za
 types:List Za
structure Sc where
 names:List Za:= []
 tabs:List Tb:= []
 phase:Za:=ZcR
 groups:List Za:= []
def Jb(text:Za):List Za->Nat->List Nat
 | [],_=> []
 |x::r,c=>if x=text then c::Jb text r (c+1)else Jb text r (c+1)
def hits(Zd text:Za):List Za->List Tb->Nat->List (Nat×Nat)
 |n::ns,t::ts,i=>(if Zd≠ []/\Zd≠n then[]else(Jb text t.Ze 0).map fun c=>(i,c))++hits Zd text ns ts (i+1)
 |_,_,_=> []
def QF(Zd:Za)(names:List Za):Bool:=decide (Zd≠ [])&&names.contains Zd
def Ye(Zd text:Za):List Sc->Option (Nat×Nat×Nat)
 | []=>none
 |s::up=>
  match hits Zd text s.names s.tabs 0 with
  | [p]=>some (0,p.1,p.2)
  | []=>if QF Zd s.names then none else(Ye Zd text up).map fun p=>(p.1+1,p.2.1,p.2.2)
  |_=>none
def QP(src JF:Nat):Za:=dec src++ [32]++dec JF
def Xx(a b:Za):Bool:=decide (a=Jd)||decide (b=Jd)||decide (a=b)
def J3(a:Za):List Za->Bool
 | [b]=> !Xx a b
 |_=>true
structure Jr where
 lost:Bool:=false
 ZG:Bool:=false
def Jr.or(a b:Jr):Jr:=⟨a.lost||b.lost,a.ZG||b.ZG⟩
def Xb(Zd text:Za)(ss:List Sc):Za×Jr:=
 match Ye Zd text ss with
 |none=>(Jd,{lost:=true})
 |some (l,i,c)=>
  match ss[l]? with
  |none=>(Jd,{lost:=true})
  |some o=>(((o.tabs[i]?).map fun t=>t.types.getD c []).getD [],{lost:=decide (o.phase=YV)&& !o.groups.contains (QP i c)})
def inside:List Sc->List Sc
 | []=> []
 |s::up=>{s with phase:=pIn}::up
def ZaX:List Sc->Za
 | []=> []
 |s::_=>s.phase
mutual
def jx:Tr->List Sc->Za×Jr
 | .node f k _ _ _ _ _,ss=>
  if f.kind=ZcH then(Xo,{})
  else if f.kind=ZaS\/f.kind=Jd then(f.kind,{})
  else if f.kind=ZfI then Xb f.Zd f.text ss
  else if f.kind∈Yf then
   (if f.star then(Xo,{lost:=decide (ZaX ss≠YV)})
    else
     ((if f.kind=Kj\/f.kind=Ki then(Qo k (inside ss)).1 else Xo),
      (Jr.or {lost:=decide (ZaX ss≠YV)} (Qo k (inside ss)).2).or {ZG:=decide (f.kind=Kk)&& !Xx (Qo k (inside ss)).1 Xo}))
  else(Xo,EJ k ss)
 | .nil,_=>([],{})
 | .cons _ _,_=>([],{})
def Qo:Tr->List Sc->Za×Jr
 | .cons h _,ss=>jx h ss
 | .nil,_=>([],{})
 | .node _ _ _ _ _ _ _,_=>([],{})
def EJ:Tr->List Sc->Jr
 | .cons h t,ss=>Jr.or ((jx h ss).2.or {ZG:= !Xx (jx h ss).1 Xo}) (EJ t ss)
 | .nil,_=>{}
 | .node _ _ _ _ _ _ _,_=>{}
end
def ZL:Tr->Bool
 | .node f k _ _ _ _ _=>decide (f.kind∈Yf)||ZL k
 | .cons h t=>ZL h||ZL t
 | .nil=>false
def KZ(items YB:Tr):Bool:=ZL items||decide (0<YB.len)
def JP(db:List Tb)(n:Za):Option Tb:=db.find? fun t=>decide (t.name=n)
def XC(db:List Tb):List Tr->Sc->Bool->Sc×Bool
 | .node f _ _ _ _ _ _::r,s,ok=>
  let n:=if f.Zx= []then f.text else f.Zx
  match JP db f.text with
  |none=>XC db r s false
  |some t=>if s.names.contains n then XC db r s false else XC db r {s with names:=s.names++ [n],tabs:=s.tabs++ [t]} ok
 |_::r,s,ok=>XC db r s false
 | [],s,ok=>(s,ok)
def XJ(db:List Tb)(Jo:Tr):Sc×Bool:=XC db (elems Jo) {} (decide (Jo.len<=3))
def YO:List Tr->List Sc->List Za->Bool->List Za×Bool
 | .node f _ _ _ _ _ _::r,ss,gs,lost=>
  match Ye f.Zd f.text ss with
  |some (0,i,c)=>YO r ss (gs++ [QP i c]) lost
  |_=>YO r ss gs true
 |_::r,ss,gs,_=>YO r ss gs true
 | [],_,gs,lost=>(gs,lost)
def X3:List Za->List Za->List Za×Bool
 |a::r,b::q=>((if a=Jd then b else a)::(X3 r q).1,Xx a b&&(X3 r q).2)
 | [], []=>([],true)
 |_,_=>([],false)
def jx2:Tr->List Sc->Za×Jr
 | .cons _ (.cons h _),ss=>jx h ss
 |_,_=>([],{})
def ZY:List Tr->List Sc->List Za×Jr
 |x::r,ss=>((Qo x.kids ss).1::(ZY r ss).1,(Qo x.kids ss).2.or (ZY r ss).2)
 | [],_=>([],{})
def Vs(db:List Tb)(i fr g:Tr)(up:List Sc):Sc:=
 {(XJ db fr).1 with phase:=if KZ i g then YV else ZdJ,groups:=(YO (elems g) ((XJ db fr).1::up) [] false).1}
def Zpc(db:List Tb)(f:Fl)(i fr g:Tr)(up:List Sc):Jr:=
 (Jr.or {lost:= !(XJ db fr).2||(YO (elems g) ((XJ db fr).1::up) [] false).2} (ZY (elems i) (Vs db i fr g up::up)).2).or {lost:=f.star&&KZ i g}
def ZiC(db:List Tb)(f:Fl)(i fr g:Tr)(up:List Sc):List Za:=
 (ZY (elems i) (Vs db i fr g up::up)).1++(if f.star then(XJ db fr).1.tabs.flatMap (·.types)else[])
mutual
def jc(db:List Tb):Tr->List Sc->Jr
 | .node f k _ _ _ _ _,ss=>
  if f.kind= [97,110,100]\/f.kind= [111,114]\/f.kind= [110,111,116]then jcs db k ss
  else if f.kind= [101,120,105,115,116,115]then(K8 db k ss).2
  else if f.kind= [105,115,110,117,108,108]then(Qo k ss).2
  else if f.kind= [99,111,109,112,97,114,101]then
   ((Qo k ss).2.or (jx2 k ss).2).or {ZG:= !Xx (Qo k ss).1 (jx2 k ss).1}
  else if f.kind= [105,110]\/f.kind= [97,110,121]\/f.kind= [97,108,108]then
   ((Qo k ss).2.or (jq2 db k ss).2).or {ZG:=J3 (Qo k ss).1 (jq2 db k ss).1}
  else {}
 | .nil,_=>{}
 | .cons _ _,_=>{}
def jcs(db:List Tb):Tr->List Sc->Jr
 | .cons h t,ss=>(jc db h ss).or (jcs db t ss)
 | .nil,_=>{}
 | .node _ _ _ _ _ _ _,_=>{}
def jq(db:List Tb):Tr->List Sc->List Za×Jr
 | .node f k i fr g w h,up=>
  if f.kind=QE then
   (ZiC db f i fr g up,((jc db w ((XJ db fr).1::up)).or (jc db h (Vs db i fr g up::up))).or (Zpc db f i fr g up))
  else((X3 (K8 db k up).1 (jq2 db k up).1).1,((K8 db k up).2.or (jq2 db k up).2).or {ZG:= !(X3 (K8 db k up).1 (jq2 db k up).1).2})
 | .nil,_=>([],{})
 | .cons _ _,_=>([],{})
def K8(db:List Tb):Tr->List Sc->List Za×Jr
 | .cons h _,ss=>jq db h ss
 | .nil,_=>([],{})
 | .node _ _ _ _ _ _ _,_=>([],{})
def jq2(db:List Tb):Tr->List Sc->List Za×Jr
 | .cons _ t,ss=>K8 db t ss
 | .nil,_=>([],{})
 | .node _ _ _ _ _ _ _,_=>([],{})
end
def ZaO(db:List Tb)(t:Tr):Int:=if(jq db t []).2.lost then 5 else if(jq db t []).2.ZG then 6 else 0
section
open Go.RowKit
theorem Xw{a b:Bool}(h:a=b):Ending.returned (.bool a)= .returned (.bool b):=by rw[h]
theorem ZcV{k:IntKind}{a b:Int}(h:a=b):Ending.returned (.int k a)= .returned (.int k b):=by rw[h]
theorem ZKA{a a' b b':Value}(h:a=a')(h':b=b'):Ending.returned (.tuple #[a,b])= .returned (.tuple #[a',b']):=by rw[h,h']
theorem Zm{k:IntKind}{a b:Int}(h:a=b):Value.int k a= .int k b:=by rw[h]
theorem ZMT{a b:Bool}(h:a=b):Value.bool a= .bool b:=by rw[h]
theorem Zf3(t s:Za)(w:World)(hs:s.length<=100000)(ht:t.length<=100000):
  Calls prog 73 #[.string ⟨t.toArray⟩,.string ⟨s.toArray⟩] w fun e w'=>e= .returned (.bool (ZaA t s))/\w=w':=by
 have hex:=QY;go_enter func73,ntmps73;go_wp2;go_loop [5] (fun i=>∃k:Nat,k<=s.length+1/\i= .int .i64 k/\Hid (∀j,j<k->j+t.length<=s.length->(s.drop j).take t.length≠t)) (fun i=>s.length+1-(intOf i).toNat);case atStart=>exact⟨0,ZW8 _,rfl,ZPZ⟩
 case round=>
  obtain⟨k,hk,rfl,hn⟩:=hrel;by_cases hlt:k+t.length<=s.length
  ·go_wp2
   ·go_ret;have he:(List.take t.length (List.drop k s)==t)=true:=by assumption
    exact⟨Xw (Zrs k hlt (by simpa using he)).symm,rfl⟩
   ·have he:(List.take t.length (List.drop k s)==t)=false:=by assumption
    refine⟨⟨k+1,U,ZPx,?_⟩,ZQq⟩;intro j hj hl;by_cases hjk:j=k
    ·subst hjk;simpa using he
    ·exact ZTs
  ·go_wp2;go_ret;refine⟨Xw ?_,rfl⟩;refine(ZAa ?_).symm;intro j hj;exact hn.out j U hj
theorem Zf4(s set:Za)(w:World)(hs:s.length<=100000)(ht:set.length<=100000):
  Calls prog 37 #[.string ⟨s.toArray⟩,.string ⟨set.toArray⟩] w fun e w'=>e= .returned (.int .i64 (Zk set s))/\w=w':=by
 have hex:=QY;go_enter func37,ntmps37;go_wp2;go_loop [5] (fun i=>∃k:Nat,k<=s.length/\i= .int .i64 k/\Hid (∀j,(h:j<k)->(h':j<s.length)->set.contains s[j]=true)) (fun i=>s.length-(intOf i).toNat);case atStart=>exact⟨0,ZW8 _,rfl,ZPZ⟩
 case round=>
  obtain⟨k,hk,rfl,hn⟩:=hrel;by_cases hlt:k<s.length
  ·have hone:Hid ((s.drop k).take 1= [s[k]]):=by rw[ZXl hlt];rfl
   go_wp2_with fail;rw[hone.out];refine(Zf3 [s[k]] set _ ht ZQh).mono ?_;rintro e w' ⟨rfl,rfl⟩;rw[Zdg];cases hc:set.contains s[k]
   ·go_wp2;go_ret;exact⟨ZcV (by rw[Zrw set s k hlt hn.out hc]),rfl⟩
   ·go_wp2;refine⟨⟨k+1,U,ZPx,?_⟩,ZQq⟩;intro j hj hl;by_cases hjk:j=k
    ·subst hjk;exact hc
    ·exact ZTs
  ·go_wp2;go_ret;exact⟨ZcV (by rw[Zjn set s (fun j h=>hn.out j U h)];omega),rfl⟩
theorem Zwb(s:Za)(w:World)(hs:s.length<=90000):
  Calls prog 72 #[.string ⟨s.toArray⟩] w fun e w'=>e= .returned (.bool (Va s))/\w=w':=by
 have happ:=ZgZ;go_enter func72,ntmps72;go_wp2_with fail;refine(Zf3 (32::(s++ [32])) QN _ ZAk ZPN).mono ?_;exact ZV6
theorem Zwc(s:Za)(w:World)(hs:s.length<=90000):
  Calls prog 35 #[.string ⟨s.toArray⟩] w fun e w'=>e= .returned (.bool (KS s))/\w=w':=by
 have hex:=QY;cases s with
 |nil=>
  go_enter func35,ntmps35;exact ZUO
 |cons c s=>
  go_enter func35,ntmps35;go_wp2_with fail;refine(Zf4 [c] Ya _ ZQh Zz3).mono ?_;rintro e w' ⟨rfl,rfl⟩;go_wp2_with fail;refine(Zf4 (c::s) (Ya++Zi) _ U Zrp).mono ?_;rintro e w' ⟨rfl,rfl⟩;go_wp2_with fail;refine(Zwb (c::s) _ hs).mono ?_;rintro e w' ⟨rfl,rfl⟩;have hle:=Eu (Ya++Zi) (c::s);have hle1:=Eu Ya [c];have hN:=Zz2 c s;have HN:Hid (KS (c::s)=_):=hN;clear hN;go_wp2;all_goals
   go_ret;refine⟨Xw ?_,rfl⟩;rw[HN.out];simp[*]
end
section
open Go.RowKit
theorem ZoW(s:Za)(w:World)(hs:s.length<=90000):
  Calls prog 34 #[.string ⟨s.toArray⟩] w fun e w'=>e= .returned (.tuple #[.string ⟨(Yn s).1.toArray⟩,.int .i64 (Yn s).2])/\w=w':=by
 have hex:=QY;have happ:=ZgZ;go_enter func34,ntmps34;go_wp2;go_loop [4,5] (fun t i=>∃(k:Nat) (acc:Za),1<=k/\k<=s.length+1/\acc.length<=k/\i= .int .i64 k/\t= .string ⟨acc.toArray⟩/\Hid (Qk acc k (s.drop k)=Yn s)) (fun _ i=>s.length+1-(intOf i).toNat);case atStart=>exact⟨1, [],U,U,ZPm,rfl,rfl,rfl⟩
 case round=>
  obtain⟨k,acc,hk1,hk,hacc,rfl,rfl,hq⟩:=hrel;by_cases hlt:k<s.length
  ·have hsz:k<(ByteArray.mk s.toArray).size:=hlt;have hd:=VH s k hlt;have HD:Hid (s.drop k=s[k]::s.drop (k+1)):=hd;have H1:Hid ((s.drop k).take 1= [s[k]]):=ZAn s k hlt;clear hd;go_wp2
   ·have h1:(((ByteArray.mk s.toArray)[k].toNat:Int) != 10)=true:=by assumption
    have h2:(((ByteArray.mk s.toArray)[k].toNat:Int) != 39)=true:=ZPu
    refine⟨⟨k+1,acc++ [s[k]],U,U,ZPo,ZPx,by rw[H1.out],?_⟩,ZQq⟩;show Qk (acc++ [s[k]]) (k+1) (s.drop (k+1))=Yn s;have n1:s[k]≠10:=Zd3 10 h1 rfl;have n2:s[k]≠39:=Zd3 39 h2 rfl;rw[<-hq.out,HD.out,Zg2 _ _ _ _ n1 n2]
   ·have h2:(((ByteArray.mk s.toArray)[k].toNat:Int) != 39)=false:=by assumption
    have hl2:k+1<s.length:=U
    have h3:((((ByteArray.mk s.toArray)[k+1]'hl2).toNat:Int)==39)=true:=ZPu
    refine⟨⟨k+2,acc++ [39],U,U,ZPo,ZPx,rfl,?_⟩,ZQq⟩;show Qk (acc++ [39]) (k+2) (s.drop (k+2))=Yn s;have e1:s[k]=39:=Zbp 39 h2 rfl;have e2:s[k+1]=39:=Zd2 39 h3 rfl;rw[<-hq.out,HD.out,VH s (k+1) hl2,e1,e2,Zg3]
   ·have h2:(((ByteArray.mk s.toArray)[k].toNat:Int) != 39)=false:=by assumption
    have hl2:k+1<s.length:=U
    have h3:((((ByteArray.mk s.toArray)[k+1]'hl2).toNat:Int)==39)=false:=ZPu
    go_ret2;have e1:s[k]=39:=Zbp 39 h2 rfl;have e2:s[k+1]≠39:=Zch 39 h3 rfl;have hr:Yn s=(acc,k+1):=by
     rw[<-hq.out,HD.out,e1,Zdh _ _ _ (fun r' e=>e2 (by rw[VH s (k+1) hl2]at e;exact(ZXk e).1))]
    exact ZTF
   ·have h2:(((ByteArray.mk s.toArray)[k].toNat:Int) != 39)=false:=by assumption
    go_ret2;have e1:s[k]=39:=Zbp 39 h2 rfl;have hr:Yn s=(acc,k+1):=by
     rw[<-hq.out,HD.out,e1,Zdh _ _ _ (fun r' e=>by rw[ZXH U]at e;cases e)]
    exact ZTF
   ·have h1:(((ByteArray.mk s.toArray)[k].toNat:Int) != 10)=false:=by assumption
    go_ret2;have hr:Yn s=([],0):=by
     have e1:s[k]=10:=Zbp 10 h1 rfl;rw[<-hq.out,HD.out,e1,Zg1]
    exact ZTF
  ·go_wp2;go_ret2;have hr:Yn s=([],0):=by
    rw[<-hq.out,ZXH U,Zci]
   exact ZTF
theorem ZoV(s:Za)(neg:Bool)(w:World)(hs:s.length<=90000)(hd:Zk Zi s=s.length):
  Calls prog 38 #[.string ⟨s.toArray⟩,.bool neg] w fun e w'=>e= .returned (.tuple #[.int .i64 (YN s neg).1,.bool (YN s neg).2])/\w=w':=by
 have hex:=QY;go_enter func38,ntmps38;go_wp2;go_loop [6,7,8] (fun n i _=>∃(k:Nat) (x:Int),k<=s.length/\ -9223372036854775808<=x/\x<=0/\i= .int .i64 k/\n= .int .i64 x/\Hid (JO x (s.drop k)=JO 0 s)) (fun _ i _=>s.length-(intOf i).toNat);case atStart=>exact⟨0,0,U,U,U,rfl,rfl,rfl⟩
 case round=>
  obtain⟨k,x,hk,hx1,hx2,rfl,rfl,hq⟩:=hrel;by_cases hlt:k<s.length
  ·have hb:=Zz0 hd k hlt;obtain⟨hb1,hb2⟩:=hb;have hb3:48<=((ByteArray.mk s.toArray)[k]'hlt).toNat:=hb1;have hb4:((ByteArray.mk s.toArray)[k]'hlt).toNat<=57:=hb2;clear hb1 hb2;have HD:Hid (s.drop k=s[k]::s.drop (k+1)):=VH s k hlt;have HT:Hid ((-9223372036854775808+((((ByteArray.mk s.toArray)[k]'hlt).toNat:Int)-48)).tdiv 10= -((9223372036854775808-((((ByteArray.mk s.toArray)[k]'hlt).toNat:Int)-48))/10)):=Zmo _ U U;go_wp2
   ·have h1:x<(-9223372036854775808+((((ByteArray.mk s.toArray)[k]'hlt).toNat:Int)-48)).tdiv 10:=by assumption
    go_ret2;have hr:=Zmm (s:=s) neg (by rw[<-hq.out,HD.out,Zjk];exact ZWR h1);exact ZTF
   ·have h1:(-9223372036854775808+((((ByteArray.mk s.toArray)[k]'hlt).toNat:Int)-48)).tdiv 10<=x:=by assumption
    rw[HT.out]at h1;have w1:wrap64 (10*x)=10*x:=IntWalk.wrap64_in _ ⟨U,U⟩;have w2:wrap64 (10*x-((((ByteArray.mk s.toArray)[k]'hlt).toNat:Int)-48))=10*x-((((ByteArray.mk s.toArray)[k]'hlt).toNat:Int)-48):=IntWalk.wrap64_in _ ⟨U,U⟩;refine⟨⟨k+1,10*x-((((ByteArray.mk s.toArray)[k]'hlt).toNat:Int)-48),U,U,U,ZPx,by rw[w1,w2],?_⟩,ZQq⟩;show JO (10*x-((s[k].toNat:Int)-48)) (s.drop (k+1))=JO 0 s;have h1':¬x<(-9223372036854775808+((s[k].toNat:Int)-48)).tdiv 10:=by
     show ¬x<(-9223372036854775808+((((ByteArray.mk s.toArray)[k]'hlt).toNat:Int)-48)).tdiv 10;rw[HT.out];omega
    rw[<-hq.out,HD.out,Zjk,ZWQ h1']
  ·have hs0:Hid (JO 0 s=some x):=by
    show JO 0 s=some x;rw[<-hq.out,ZXH U];rfl
   cases neg
   ·go_wp2;go_ret2;have hr:=Zjl hs0.out;refine⟨ZKA (Zm ?_) (ZMT ?_),rfl⟩
    ·rw[hr];exact Zz9 x hx1 hx2
    ·rw[hr];by_cases h0:x= -9223372036854775808
     ·rw[h0];rfl
     ·simp[h0]
   ·go_wp2;go_ret2;have hr:=Zrr hs0.out;exact ZTF
end
section
open Go.RowKit
def QZ(cur:Za):Za->List Za
 | []=> [cur]
 |c::r=>if c=10 then cur::QZ [] r else QZ (cur++ [c]) r
def ZX(s:Za):List Za:=QZ [] s
theorem Zrl(cur r:Za):QZ cur (10::r)=cur::QZ [] r:=by rw[QZ];rfl
theorem Zml(cur:Za)(c:UInt8)(r:Za)(h:c≠10):QZ cur (c::r)=QZ (cur++ [c]) r:=by rw[QZ,ZWQ h]
theorem Zz4(s:Za):∀cur,(QZ cur s).length<=s.length+1:=by
 induction s with
 |nil=>intro cur;simp[QZ]
 |cons c r ih=>
  intro cur;rw[QZ];have h1:=ih [];have h2:=ih (cur++ [c]);split<;>simp<;>omega
theorem ZAo(s:Za)(f k:Nat)(hf:f<=k)(hk:k<s.length):(s.drop f).take (k-f)++ [s[k]]=(s.drop f).take (k+1-f):=by
 have h:k-f<(s.drop f).length:=by simp;omega
 rw[show k+1-f=(k-f)+1 from U,ZXA h];congr 2;rw[List.getElem_drop];congr 1;omega
def YS(s:Za):Nat:=
 match s with
 | []=>0
 |c::_=>if c=39 then(Yn s).2 else(s.takeWhile fun c=>c≠32&&c≠39).length
def XN:Nat->Za->Option (List Za)
 |0,_=>some []
 |_+1, []=>some []
 |f+1,c::r=>
  if c=32 then XN f r
  else
   let n:=YS (c::r)
   if n=0 then none
   else match (c::r).drop n with
    | []=>some [(c::r).take n]
    |d::r'=>if d=32 then(XN f (d::r')).map ((c::r).take n::·)else none
def Xf(s:Za):Option (List Za):=XN (s.length+1) s
theorem ZAj(m:Nat):∀(l:Za),l.length<=m->∀acc n,(Qk acc n l).2<=n+l.length:=by
 induction m with
 |zero=>
  intro l hl acc n;obtain rfl:l= []:=by cases l<;>simp_all
  rw[Zci];simp
 |succ m ih=>
  intro l hl acc n;cases l with
  |nil=>rw[Zci];simp
  |cons c r=>
   simp only[List.length_cons]at hl ⊢;by_cases h1:c=10
   ·subst h1;rw[Zg1];simp
   ·by_cases h2:c=39
    ·subst h2;by_cases h3:∃r',r=39::r'
     ·obtain⟨r',rfl⟩:=h3;rw[Zg3];simp only[List.length_cons]at hl ⊢;have:=ih r' U (acc++ [39]) (n+2);omega
     ·rw[Zdh _ _ _ (fun r' e=>h3 ⟨r',e⟩)];simp<;>omega
    ·rw[Zg2 _ _ _ _ h1 h2];have:=ih r U (acc++ [c]) (n+1);omega
theorem Zg4(c:UInt8)(r:Za):(Yn (c::r)).2<=(c::r).length:=by
 have:=ZAj r.length r (ZWS _) [] 1;unfold Yn;simp only[List.drop_succ_cons,ZYs,List.length_cons];omega
theorem ZAb(s:Za):YS s<=s.length:=by
 unfold YS;cases s with
 |nil=>simp
 |cons c r=>
  simp only;split
  ·exact Zg4 c r
  ·exact(ZYq _).length_le
theorem ZAc(f:Nat):∀(l:Za) (g:Nat),l.length<f->l.length<g->XN f l=XN g l:=by
 induction f with
 |zero=>intro l g h;omega
 |succ f ih=>
  intro l g hf hg;obtain⟨g,rfl⟩:∃g',g=g'+1:=⟨g-1,U⟩;cases l with
  |nil=>rw[XN,XN]
  |cons c r=>
   simp only[List.length_cons]at hf hg;rw[XN,XN];by_cases h32:c=32
   ·rw[ZWR h32,ZWR h32];exact ih r g U U
   ·rw[ZWQ h32,ZWQ h32];by_cases h0:YS (c::r)=0
    ·simp only[h0,ZWR]
    ·simp only[h0,ZXO];cases hd:(c::r).drop (YS (c::r))with
     |nil=>rfl
     |cons d r'=>
      have hl:(d::r').length=(c::r).length-YS (c::r):=by rw[<-hd];simp
      simp only[List.length_cons]at hl;simp only;split
      ·rw[ih (d::r') g ZPo ZPo]
      ·rfl
theorem ZAh:Xf []=some []:=by unfold Xf;rfl
theorem ZAf(r:Za):Xf (32::r)=Xf r:=by
 unfold Xf;rw[List.length_cons,XN,ZWR rfl]
theorem Zrv(c:UInt8)(r:Za)(h:c≠32)(h0:YS (c::r)=0):Xf (c::r)=none:=by
 unfold Xf;rw[List.length_cons,XN,ZWQ h];simp only[h0,ZWR]
theorem Zrt(c:UInt8)(r:Za)(h:c≠32)(d:UInt8)(r':Za)(hd:(c::r).drop (YS (c::r))=d::r')(hn:d≠32):Xf (c::r)=none:=by
 by_cases h0:YS (c::r)=0
 ·exact Zrv c r h h0
 ·unfold Xf;rw[List.length_cons,XN,ZWQ h];simp only[h0,ZXO,hd,hn]
theorem Zjm(c:UInt8)(r:Za)(h:c≠32)(h0:YS (c::r)≠0)(hd:∀d r',(c::r).drop (YS (c::r))=d::r'->d=32):
  Xf (c::r)=(Xf ((c::r).drop (YS (c::r)))).map ((c::r).take (YS (c::r))::·):=by
 have hl:((c::r).drop (YS (c::r))).length<=r.length:=by simp;omega
 unfold Xf;rw[List.length_cons,XN,ZWQ h];simp only[h0,ZXO];cases hx:(c::r).drop (YS (c::r))with
 |nil=>rfl
 |cons d r'=>
  rw[hx]at hl;have:=hd d r' hx;simp only[this,ZWR];rw[<-this,ZAc (r.length+1) (d::r') ((d::r').length+1) U U]
theorem ZAi(s:Za)(m:Nat)(hm:m<=s.length)(h:∀j,(hj:j<m)->s[j]≠32/\s[j]≠39)(he:∀(h':m<s.length),s[m]=32\/s[m]=39):(s.takeWhile fun c=>c≠32&&c≠39).length=m:=by
 induction s generalizing m with
 |nil=>simp at hm;simp[hm]
 |cons c r ih=>
  cases m with
  |zero=>
   have:=he ZPm;simp only[List.getElem_cons_zero]at this;rw[ZXs,ZWQ (by rcases this with h|h<;>simp[h])];rfl
  |succ m=>
   have h0:=h 0 U;simp only[List.getElem_cons_zero]at h0;rw[ZXs,ZWR (by simp[h0.1,h0.2])];simp only[List.length_cons];rw[ih m (by simpa using hm) (fun j hj=>by have:=h (j+1) U;simpa using this) (fun h'=>by have:=he (by simpa using h');simpa using this)]
end
section
open Go.RowKit
def Zp(l:Za):Value:=.string ⟨l.toArray⟩
theorem Tryz.ZeE:(prog.info? 9).map (fun i=>(i.zero,i.size,i.bytes))=some (some (.string ⟨#[]⟩),1,16):=by kernel_rfl
theorem XM{n:Nat}{w0 wr w1:World}{o:Obj}{e:TypeId}{sz m:Nat}{v:Value}{xs:List Value}(hB:Below n w0 wr)(hn:n<=wr.heap.size)(hown:wr.ownsRow n e sz v m xs)(hg:(wr.alloc o).grownBy w1 v.ownBlock):Below n w0 w1:=
 (hB.alloc hn o).grown hg ZPo (fun k e=>(hown.lt k e).1)
theorem ZKs(s:Za)(w:World)(hs:s.length<=90000):
  Calls prog 13 #[.string ⟨s.toArray⟩] w fun e w'=>∃v,e= .returned v/\w'.ownsRow w.heap.size 9 1 v (ZX s).length ((ZX s).map Zp)/\Below w.heap.size w w':=by
 have hex:=QY;obtain⟨i0,hi,hz0,hz1,hz2⟩:=ZXd Tryz.ZeE;go_enter func13,ntmps13;go_wp2;go_loopw [3,4,5] (fun v f i wr=>∃(k from_:Nat) (out:List Za),k<=s.length+1/\from_<=k/\out.length<=k/\i= .int .i64 k/\f= .int .i64 from_/\wr.ownsRow w.heap.size 9 1 v out.length (out.map Zp)/\Below w.heap.size w wr/\
   Hid (if k<=s.length then out++QZ ((s.drop from_).take (k-from_)) (s.drop k)=ZX s else out=ZX s))
  (fun _ _ i _=>s.length+1-(intOf i).toNat)
 case atStart=>exact⟨0,0, [],U,U,ZPm,rfl,rfl,ZXp _ _ _ _,ZWT _ _,by simp[Hid,ZX]⟩
 case round=>
  obtain⟨k,from_,out,hk,hf,ho,rfl,rfl,hown,hB,hq⟩:=hrel;by_cases hlt:k<s.length
  ·have hsz:k<(ByteArray.mk s.toArray).size:=hlt;have hnl:((k:Int)==(s.length:Int))=false:=by simp;omega
   go_wp2_with (at_builtin;refine ZXg _ rfl _ _ 22 rfl w.heap.size 9 i0 (.string ⟨#[]⟩) 1 16 underlying22 hi hz0 hz1 hz2 rfl ZPl _ _ _ rfl (hown.alloc _) ⟨wr.heap.size,0,none⟩ 1 1 [Zp ((s.drop from_).take (k-from_))] rfl rfl (ZXm _ _ _) ZPJ ZPq U ZPV ?_;intro v' w1 hown' hgrow _)
   ·have h1:(((ByteArray.mk s.toArray)[k].toNat:Int)==10)=true:=by assumption
    have e1:s[k]=10:=Zd2 10 h1 rfl;have hq2:out++QZ ((s.drop from_).take (k-from_)) (s.drop k)=ZX s:=by have:=hq.out;rwa [ZWR U]at this
    refine⟨⟨k+1,k+1,out++ [(s.drop from_).take (k-from_)],U,U,ZPo,ZPx,ZPx,ZQd,XM hB hB.size hown hgrow,?_⟩,ZPB⟩;show if k+1<=s.length then _ else _
    rw[ZWR U,<-hq2,VH s k hlt,e1,Zrl];simp
   ·have h1:(((ByteArray.mk s.toArray)[k].toNat:Int)==10)=false:=by assumption
    have e1:s[k]≠10:=Zch 10 h1 rfl;have hq2:out++QZ ((s.drop from_).take (k-from_)) (s.drop k)=ZX s:=by have:=hq.out;rwa [ZWR U]at this
    refine⟨⟨k+1,from_,out,U,U,U,ZPx,rfl,hown,hB,?_⟩,ZPB⟩;show if k+1<=s.length then _ else _
    rw[ZWR U,<-hq2,VH s k hlt,Zml _ _ _ e1,ZAo s from_ k hf hlt]
  ·by_cases hle:k=s.length
   ·subst hle;have hq2:out++QZ ((s.drop from_).take (s.length-from_)) (s.drop s.length)=ZX s:=by have:=hq.out;rwa [ZWR U]at this
    have HQ:Hid (out++ [(s.drop from_).take (s.length-from_)]=ZX s):=by
     show out++ [(s.drop from_).take (s.length-from_)]=ZX s;rw[<-hq2,ZYd];rfl
    clear hq2 hq;go_wp2_with (at_builtin;refine ZXg _ rfl _ _ 22 rfl w.heap.size 9 i0 (.string ⟨#[]⟩) 1 16 underlying22 hi hz0 hz1 hz2 rfl ZPl _ _ _ rfl (hown.alloc _) ⟨wr.heap.size,0,none⟩ 1 1 [Zp ((s.drop from_).take (s.length-from_))] rfl rfl (ZXm _ _ _) ZPJ ZPq U ZPV ?_;intro v' w1 hown' hgrow _);refine⟨⟨s.length+1,s.length+1,out++ [(s.drop from_).take (s.length-from_)],U,U,ZPo,ZPx,ZPx,ZQd,XM hB hB.size hown hgrow,?_⟩,ZPB⟩;show if s.length+1<=s.length then _ else _
    rw[ZWQ U];exact HQ.out
   ·go_wp2;go_ret;have hq2:out=ZX s:=by have:=hq.out;rwa [ZWQ U]at this
    subst hq2;exact ZTL
def ZJg(w:World):Option (List Za)->Ending->World->Prop
 |none,e,w'=>e= .returned (.tuple #[.slice none 0 0,.bool false])/\Below w.heap.size w w'
 |some l,e,w'=>∃v,e= .returned (.tuple #[v,.bool true])/\w'.ownsRow w.heap.size 9 1 v l.length (l.map Zp)/\Below w.heap.size w w'
theorem ZKu(s:Za)(w:World)(hs:s.length<=90000):
  Calls prog 14 #[.string ⟨s.toArray⟩] w fun e w'=>ZJg w (Xf s) e w':=by
 have hex:=QY;obtain⟨i0,hi,hz0,hz1,hz2⟩:=ZXd Tryz.ZeE;go_enter func14,ntmps14;go_wp2;go_loopw [4,5,6,7,8,9] (fun v i _ _ _ _ wr=>∃(k:Nat) (out:List Za),k<=s.length/\out.length<=k/\i= .int .i64 k/\wr.ownsRow w.heap.size 9 1 v out.length (out.map Zp)/\Below w.heap.size w wr/\
   Hid ((Xf (s.drop k)).map (out++·)=Xf s))
  (fun _ i _ _ _ _ _=>s.length-(intOf i).toNat)
 case atStart=>exact⟨0, [],U,ZPm,rfl,ZXp _ _ _ _,ZWT _ _,by simp[Hid]⟩
 case round=>
  obtain⟨k,out,hk,ho,rfl,hown,hB,hq⟩:=hrel;by_cases hlt:k<s.length
  ·have hsz:k<(ByteArray.mk s.toArray).size:=hlt;have HD:Hid (s.drop k=s[k]::s.drop (k+1)):=VH s k hlt;go_wp2_with fail
   ·have h1:(((ByteArray.mk s.toArray)[k].toNat:Int)==32)=true:=by assumption
    have e1:s[k]=32:=Zd2 32 h1 rfl;refine⟨⟨k+1,out,U,U,ZPx,hown,hB,?_⟩,ZPB⟩;show(Xf (s.drop (k+1))).map _=_;rw[<-hq.out,HD.out,e1,ZAf]
   ·have h1:(((ByteArray.mk s.toArray)[k].toNat:Int)==32)=false:=by assumption
    have h2:(((ByteArray.mk s.toArray)[k].toNat:Int)==39)=true:=ZPu
    have hc32:s[k]≠32:=Zch 32 h1 rfl;have e39:s[k]=39:=Zd2 39 h2 rfl;rw[ZXB ZPm];refine(ZoW (s.drop k) _ ZPo).mono ?_;rintro e w' ⟨rfl,rfl⟩;obtain⟨m,hm⟩:∃m,(Yn (s.drop k)).2=m:=⟨_,rfl⟩;have ZOo:m<=s.length-k:=by
     rw[<-hm,HD.out];have:=Zg4 s[k] (s.drop (k+1));exact ZWG
    have HM:Hid (YS (s.drop k)=m):=by
     show YS (s.drop k)=m;rw[<-hm,HD.out];unfold YS;rw[e39];simp
    rw[hm];clear hm h1 h2 e39;by_cases hz:m=0
    ·have HR:Hid (Xf s=none):=by
      show Xf s=none;rw[<-hq.out,HD.out,Zrv _ _ hc32 (by rw[<-HD.out,HM.out,hz])];rfl
     subst hz;go_wp2;go_ret2;rw[HR.out];exact⟨rfl,hB⟩
    ·have hz':((m:Int)==0)=false:=by simp;omega
     by_cases hend:k+m<s.length
     ·have hsz2:k+m<(ByteArray.mk s.toArray).size:=hend;go_wp2_with (at_builtin;refine ZXg _ rfl _ _ 22 rfl w.heap.size 9 i0 (.string ⟨#[]⟩) 1 16 underlying22 hi hz0 hz1 hz2 rfl ZPl _ _ _ rfl (hown.alloc _) ⟨wr.heap.size,0,none⟩ 1 1 [Zp ((s.drop k).take m)] rfl rfl (ZXm _ _ _) ZPJ ZPq U ZPV ?_;intro v' w1 hown' hgrow _)
      ·have h1:(((ByteArray.mk s.toArray)[k+m].toNat:Int) != 32)=true:=by assumption
       have n1:s[k+m]≠32:=Zd3 32 h1 rfl;go_ret2;have hr:Xf s=none:=by
        rw[<-hq.out,HD.out,Zrt _ _ hc32 s[k+m] (s.drop (k+m+1)) (by rw[<-HD.out,HM.out,ZXF,VH s (k+m) hend]) n1];rfl
       rw[hr];exact⟨rfl,hB⟩
      ·have h1:(((ByteArray.mk s.toArray)[k+m].toNat:Int) != 32)=false:=by assumption
       have e1:s[k+m]=32:=Zbp 32 h1 rfl;refine⟨⟨k+m,out++ [(s.drop k).take m],U,ZPo,ZPx,ZQd,XM hB hB.size hown hgrow,?_⟩,ZPB⟩;have hst:=Zjm s[k] (s.drop (k+1)) hc32 ZQE (by
        intro d r' hd;rw[<-HD.out,HM.out,ZXF,VH s (k+m) hend]at hd;exact(ZXk hd).1.symm.trans e1)
       rw[<-HD.out,HM.out,ZXF]at hst;show(Xf (s.drop (k+m))).map _=_;rw[<-hq.out,hst,ZYt];congr 1;funext l;simp
     ·go_wp2_with (at_builtin;refine ZXg _ rfl _ _ 22 rfl w.heap.size 9 i0 (.string ⟨#[]⟩) 1 16 underlying22 hi hz0 hz1 hz2 rfl ZPl _ _ _ rfl (hown.alloc _) ⟨wr.heap.size,0,none⟩ 1 1 [Zp ((s.drop k).take m)] rfl rfl (ZXm _ _ _) ZPJ ZPq U ZPV ?_;intro v' w1 hown' hgrow _);refine⟨⟨k+m,out++ [(s.drop k).take m],U,ZPo,ZPx,ZQd,XM hB hB.size hown hgrow,?_⟩,ZPB⟩;have hst:=Zjm s[k] (s.drop (k+1)) hc32 ZQE (by
       intro d r' hd;rw[<-HD.out,HM.out,ZXF,ZXH U]at hd;cases hd)
      rw[<-HD.out,HM.out,ZXF]at hst;show(Xf (s.drop (k+m))).map _=_;rw[<-hq.out,hst,ZYt];congr 1;funext l;simp
   ·have h1:(((ByteArray.mk s.toArray)[k].toNat:Int)==32)=false:=by assumption
    have h2:(((ByteArray.mk s.toArray)[k].toNat:Int)==39)=false:=ZPu
    have hc32:s[k]≠32:=Zch 32 h1 rfl;have n39:s[k]≠39:=Zch 39 h2 rfl;rw[h1,h2];go_loop [6] (fun n=>∃m:Nat,k+m<=s.length/\n= .int .i64 m/\Hid (∀j,j<m->(h:k+j<s.length)->s[k+j]≠32/\s[k+j]≠39)) (fun n=>s.length-(intOf n).toNat);case atStart=>exact⟨0,U,rfl,ZPZ⟩
    case round=>
     obtain⟨m,hm,rfl,hn⟩:=hrel;have hfin:(∀(h:k+m<s.length),s[k+m]=32\/s[k+m]=39)->Hid (YS (s.drop k)=m):=by
      intro he;show YS (s.drop k)=m;have hpl:YS (s.drop k)=((s.drop k).takeWhile fun c=>c≠32&&c≠39).length:=by
       rw[HD.out];unfold YS;simp only;rw[ZWQ n39]
      rw[hpl,ZAi (s.drop k) m ZPo (fun j hj=>by simp only[List.getElem_drop];exact hn.out j hj U) (fun h'=>by simp only[List.getElem_drop];exact he (by simp at h';omega))]
     have HF:Hid ((∀(h:k+m<s.length),s[k+m]=32\/s[k+m]=39)->Hid (YS (s.drop k)=m)):=hfin;clear hfin;by_cases hin:k+m<s.length
     ·have ZOC:k+m<(ByteArray.mk s.toArray).size:=hin;by_cases hz:m=0
      ·subst hz;go_wp2_with fail
       ·exact absurd (by assumption:(((ByteArray.mk s.toArray)[k].toNat:Int)=32)) ZQr
       ·refine⟨⟨1,U,ZPm,?_⟩,ZPB⟩;intro j hj hl;obtain rfl:j=0:=by omega
        exact⟨hc32,n39⟩
       ·have ho:(((ByteArray.mk s.toArray)[k].toNat:Int) != 32)=false\/(((ByteArray.mk s.toArray)[k].toNat:Int) != 39)=false:=by assumption
        rcases ho with ho|ho
        ·exact absurd (Zbp 32 ho rfl) hc32
        ·exact absurd (Zbp 39 ho rfl) n39
      ·have hz':((m:Int)==0)=false:=by simp;omega
       go_wp2_with (at_builtin;refine ZXg _ rfl _ _ 22 rfl w.heap.size 9 i0 (.string ⟨#[]⟩) 1 16 underlying22 hi hz0 hz1 hz2 rfl ZPl _ _ _ rfl (hown.alloc _) ⟨wr.heap.size,0,none⟩ 1 1 [Zp ((s.drop k).take m)] rfl rfl (ZXm _ _ _) ZPJ ZPq U ZPV ?_;intro v' w1 hown' hgrow _)
       ·have h3:(((ByteArray.mk s.toArray)[k+m].toNat:Int)=32):=by assumption
        have e1:s[k+m]=32:=Zdi (b:=32) h3;have HM:=HF.out (fun _=>.inl e1);refine⟨⟨k+m,out++ [(s.drop k).take m],U,ZPo,ZPx,ZQd,XM hB hB.size hown hgrow,?_⟩,ZPB⟩;have hst:=Zjm s[k] (s.drop (k+1)) hc32 ZQE (by
         intro d r' hd;rw[<-HD.out,HM.out,ZXF,VH s (k+m) hin]at hd;exact(ZXk hd).1.symm.trans e1)
        rw[<-HD.out,HM.out,ZXF]at hst;show(Xf (s.drop (k+m))).map _=_;rw[<-hq.out,hst,ZYt];congr 1;funext l;simp
       ·have ho:(((ByteArray.mk s.toArray)[k+m].toNat:Int) != 32)=true/\(((ByteArray.mk s.toArray)[k+m].toNat:Int) != 39)=true:=by assumption
        go_round;case rel=>
         have hnew:Hid (∀j,j<m+1->(h:k+j<s.length)->s[k+j]≠32/\s[k+j]≠39):=by
          intro j hj hl;by_cases hjm:j=m
          ·subst hjm;exact⟨Zd3 32 ho.1 rfl,Zd3 39 ho.2 rfl⟩
          ·exact ZTs
         have hm1:k+(m+1)<=s.length:=U
         have Qd:Value.int .i64 ((m:Int)+1)= .int .i64 ((m+1:Nat):Int):=ZPx
         exact⟨m+1,hm1,Qd,hnew⟩
        case measure=>simp[intOf];omega
       ·have ho:(((ByteArray.mk s.toArray)[k+m].toNat:Int) != 32)=false\/(((ByteArray.mk s.toArray)[k+m].toNat:Int) != 39)=false:=by assumption
        have ho2:(((ByteArray.mk s.toArray)[k+m].toNat:Int) != 32)=true:=ZPu
        have n1:s[k+m]≠32:=Zd3 32 ho2 rfl;have HM:=HF.out (fun _=>ho.elim (fun ho=>.inl (Zbp 32 ho rfl)) (fun ho=>.inr (Zbp 39 ho rfl)));go_ret2;have hr:Xf s=none:=by
         rw[<-hq.out,HD.out,Zrt _ _ hc32 s[k+m] (s.drop (k+m+1)) (by rw[<-HD.out,HM.out,ZXF,VH s (k+m) hin]) n1];rfl
        rw[hr];exact⟨rfl,hB⟩
     ·have HM:=HF.out (fun h=>absurd h hin);have hz:m≠0:=by omega
      have hz':((m:Int)==0)=false:=by simp;omega
      go_wp2_with (at_builtin;refine ZXg _ rfl _ _ 22 rfl w.heap.size 9 i0 (.string ⟨#[]⟩) 1 16 underlying22 hi hz0 hz1 hz2 rfl ZPl _ _ _ rfl (hown.alloc _) ⟨wr.heap.size,0,none⟩ 1 1 [Zp ((s.drop k).take m)] rfl rfl (ZXm _ _ _) ZPJ ZPq U ZPV ?_;intro v' w1 hown' hgrow _);refine⟨⟨k+m,out++ [(s.drop k).take m],U,ZPo,ZPx,ZQd,XM hB hB.size hown hgrow,?_⟩,ZPB⟩;have hst:=Zjm s[k] (s.drop (k+1)) hc32 ZQE (by
       intro d r' hd;rw[<-HD.out,HM.out,ZXF,ZXH U]at hd;cases hd)
      rw[<-HD.out,HM.out,ZXF]at hst;show(Xf (s.drop (k+m))).map _=_;rw[<-hq.out,hst,ZYt];congr 1;funext l;simp
  ·go_wp2;go_ret2;have hr:Xf s=some out:=by rw[<-hq.out,ZXH U,ZAh];simp
   rw[hr];exact ZTL
end
section
open Go.RowKit
def ZbS:Za:= [110,117,108,108]
def Xr:Za:= [105,110,116]
def VZ:Za:= [116,101,120,116]
structure Zi7 where
 kind:Za
 num:Int
 text:Za
def Zi7.v(x:Zi7):Value:=.agg #[.string ⟨x.kind.toArray⟩,.int .i64 x.num,.string ⟨x.text.toArray⟩]
def QJ(s typ:Za):Zi7×Bool:=
 if s=ZbS then(⟨ZbS,0, []⟩,true)
 else if s.head? =some 39 then(⟨VZ,0,(Yn s).1⟩,typ==VZ)
 else
  let neg:=decide (s.head? =some 45)
  let d:=if neg then s.drop 1 else s
  if Zk Zi d=0\/Zk Zi d<d.length\/typ≠Xr then(⟨[],0, []⟩,false)
  else(⟨Xr,(YN d neg).1, []⟩,(YN d neg).2)
theorem ZKw(s typ:Za)(w:World)(hs:s.length<=90000)(hne:s≠ []):
  Calls prog 17 #[.string ⟨s.toArray⟩,.string ⟨typ.toArray⟩] w fun e w'=>e= .returned (.tuple #[(QJ s typ).1.v,.bool (QJ s typ).2])/\Below w.heap.size w w':=by
 have hex:=QY;obtain⟨c,r,rfl⟩:∃c r,s=c::r:=ZQF
 clear hne;by_cases hn:(c::r==ZbS)=true
 ·have HV:Hid (QJ (c::r) typ=(⟨ZbS,0, []⟩,true)):=by show _=_;unfold QJ;rw[ZWR (by simpa using hn)]
  have hn2:(c::r== [110,117,108,108])=true:=hn;clear hn;go_enter func17,ntmps17;go_wp2_with fail;refine ZW4 (v:=.tuple #[.agg #[.string ⟨#[110,117,108,108]⟩,.int .i64 0,.string ⟨#[]⟩],.bool true]) ZPW rfl ⟨by rw[HV.out];rfl,?_⟩;exact ZTx
 ·have hn2:(c::r== [110,117,108,108])=false:=by simpa[ZbS]using hn
  clear hn;go_enter func17,ntmps17;go_wp2_with fail
  ·have Xh:((((ByteArray.mk (c::r).toArray)[0]'(ZXP _)).toNat:Int)==39)=true:=by assumption
   have e39:c=39:=Zd2 39 Xh rfl;refine(ZoW (c::r) _ hs).mono ?_;rintro e w1 ⟨rfl,rfl⟩;have HV:Hid (QJ (c::r) typ=(⟨VZ,0,(Yn (c::r)).1⟩,(typ== [116,101,120,116]))):=by
    show QJ (c::r) typ=_;unfold QJ;rw[ZWQ ZRh,ZWR (by rw[e39];rfl)];rfl
   clear e39;go_wp2;refine ZW4 (v:=.tuple #[.agg #[.string ⟨#[116,101,120,116]⟩,.int .i64 0,.string ⟨(Yn (c::r)).1.toArray⟩],.bool (typ== [116,101,120,116])]) ZPW rfl ⟨by rw[HV.out];rfl,?_⟩;exact ZTx
  ·have Xh:((((ByteArray.mk (c::r).toArray)[0]'(ZXP _)).toNat:Int)==39)=false:=by assumption
   have h45:((((ByteArray.mk (c::r).toArray)[0]'(ZXP _)).toNat:Int)==45)=true:=ZPu
   have n39:c≠39:=Zch 39 Xh rfl;have e45:c=45:=Zd2 45 h45 rfl;have hdl:r.length<=90000:=by simp at hs ⊢;omega
   refine(Zf4 r Zi _ U Zmk).mono ?_;rintro e w1 ⟨rfl,rfl⟩;have hrl:=Eu Zi r;have HV:Hid (QJ (c::r) typ=if Zk Zi r=0\/Zk Zi r<r.length\/typ≠Xr then(⟨[],0, []⟩,false)else(⟨Xr,(YN r true).1, []⟩,(YN r true).2)):=by
    show QJ (c::r) typ=_;unfold QJ;rw[ZWQ ZRh,ZWQ ZRi];simp only[e45,List.head?_cons,decide_true,ZXR,List.drop_succ_cons,ZYs]
   have HD:Hid (Zk Zi r=r.length->True):=fun _=>trivial;by_cases hbad:Zk Zi r=0\/Zk Zi r<r.length\/typ≠Xr
   ·have HB:Hid (QJ (c::r) typ=(⟨[],0, []⟩,false)):=by show _=_;rw[HV.out,ZWR hbad]
    have hb1:((Zk Zi r:Int)==0)=false->¬((Zk Zi r:Int)<(r.length:Int))->(typ== [105,110,116])=false:=by
     intro h1 h2;rcases hbad with h|h|h
     ·rw[h]at h1;cases h1
     ·omega
     ·simpa[Xr]using h
    have HB1:Hid (((Zk Zi r:Int)==0)=false->¬((Zk Zi r:Int)<(r.length:Int))->(typ== [105,110,116])=false):=hb1;clear hb1 hbad HV;by_cases h1:((Zk Zi r:Int)==0)=true
    ·exact ZUA
    ·have h1':((Zk Zi r:Int)==0)=false:=by simpa using h1
     clear h1;by_cases h2:Zk Zi r<r.length
     ·exact ZUA
     ·exact ZU4
   ·have HB:Hid (QJ (c::r) typ=(⟨Xr,(YN r true).1, []⟩,(YN r true).2)):=by show _=_;rw[HV.out,ZWQ hbad]
    have h1':((Zk Zi r:Int)==0)=false:=by simp;omega
    have h2:¬Zk Zi r<r.length:=U
    have h3:(typ== [105,110,116])=true:=by
     exact ZVg
    have HR:Hid (Zk Zi r=r.length):=by show _=_;omega
    clear hbad HV;go_wp2_with fail;refine(ZoV r true _ hdl HR.out).mono ?_;rintro e w1 ⟨rfl,rfl⟩;go_wp2;refine ZW4 (v:=.tuple #[.agg #[.string ⟨#[105,110,116]⟩,.int .i64 (YN r true).1,.string ⟨#[]⟩],.bool (YN r true).2]) ZPW rfl ⟨ZP3,?_⟩;exact ZTx
  ·have Xh:((((ByteArray.mk (c::r).toArray)[0]'(ZXP _)).toNat:Int)==39)=false:=by assumption
   have h45:((((ByteArray.mk (c::r).toArray)[0]'(ZXP _)).toNat:Int)==45)=false:=ZPu
   have n39:c≠39:=Zch 39 Xh rfl;have n45:c≠45:=Zch 45 h45 rfl;have hdl:(c::r).length<=90000:=by simp at hs ⊢;omega
   refine(Zf4 (c::r) Zi _ U Zmk).mono ?_;rintro e w1 ⟨rfl,rfl⟩;have hrl:=Eu Zi (c::r);have HV:Hid (QJ (c::r) typ=if Zk Zi (c::r)=0\/Zk Zi (c::r)<(c::r).length\/typ≠Xr then(⟨[],0, []⟩,false)else(⟨Xr,(YN (c::r) false).1, []⟩,(YN (c::r) false).2)):=by
    show QJ (c::r) typ=_;unfold QJ;rw[ZWQ ZRh,ZWQ ZRi];simp only[List.head?_cons,ZYe,n45,decide_false,Bool.false_eq_true,ZXO]
   have HD:Hid (Zk Zi (c::r)=(c::r).length->True):=fun _=>trivial;by_cases hbad:Zk Zi (c::r)=0\/Zk Zi (c::r)<(c::r).length\/typ≠Xr
   ·have HB:Hid (QJ (c::r) typ=(⟨[],0, []⟩,false)):=by show _=_;rw[HV.out,ZWR hbad]
    have hb1:((Zk Zi (c::r):Int)==0)=false->¬((Zk Zi (c::r):Int)<((r.length:Int)+1))->(typ== [105,110,116])=false:=by
     intro h1 h2;rcases hbad with h|h|h
     ·rw[h]at h1;cases h1
     ·simp at h;omega
     ·simpa[Xr]using h
    have HB1:Hid (((Zk Zi (c::r):Int)==0)=false->¬((Zk Zi (c::r):Int)<((r.length:Int)+1))->(typ== [105,110,116])=false):=hb1;clear hb1 hbad HV;by_cases h1:((Zk Zi (c::r):Int)==0)=true
    ·exact ZUA
    ·have h1':((Zk Zi (c::r):Int)==0)=false:=by simpa using h1
     clear h1;by_cases h2:Zk Zi (c::r)<r.length+1
     ·exact ZUA
     ·exact ZU4
   ·have HB:Hid (QJ (c::r) typ=(⟨Xr,(YN (c::r) false).1, []⟩,(YN (c::r) false).2)):=by show _=_;rw[HV.out,ZWQ hbad]
    have h1':((Zk Zi (c::r):Int)==0)=false:=by simp;omega
    have h2:¬Zk Zi (c::r)<r.length+1:=by simp at hbad;omega
    have h3:(typ== [105,110,116])=true:=by
     exact ZVg
    have HR:Hid (Zk Zi (c::r)=(c::r).length):=by show _=_;omega
    clear hbad HV;go_wp2_with fail;refine(ZoV (c::r) false _ hdl HR.out).mono ?_;rintro e w1 ⟨rfl,rfl⟩;go_wp2;refine ZW4 (v:=.tuple #[.agg #[.string ⟨#[105,110,116]⟩,.int .i64 (YN (c::r) false).1,.string ⟨#[]⟩],.bool (YN (c::r) false).2]) ZPW rfl ⟨ZP3,?_⟩;exact ZTx
def QS(W:World)(v:Value)(l:List Za):Prop:=
 ∃a cap,v= .slice a l.length cap/\∀i (h:i<l.length),∃g o,a=some ⟨g,o,none⟩/\W.cell? ⟨g,o+i,none⟩=some (Zp l[i])
theorem QS.below{W W':World}{v:Value}{l:List Za}(h:QS W v l)(hB:Below W.heap.size W W'):QS W' v l:=by
 obtain⟨a,cap,rfl,hc⟩:=h;refine⟨a,cap,rfl,fun i hi=>?_⟩;obtain⟨g,o,ha,h1⟩:=hc i hi;exact⟨g,o,ha,(hB.cell (p:=⟨g,o+i,none⟩) (ZWW W _ h1)).trans h1⟩
theorem ZoU(v:Value)(l:List Za)(s:Za)(W:World)(hl:l.length<=90000)(hv:QS W v l):
  Calls prog 36 #[v,.string ⟨s.toArray⟩] W fun e W'=>e= .returned (.bool (l.contains s))/\∃n,W'=W.drewN n:=by
 obtain⟨a,cap,rfl,hc⟩:=hv;have HC:Hid (∀i (h:i<l.length),∃g o,a=some ⟨g,o,none⟩/\W.cell? ⟨g,o+i,none⟩=some (Zp l[i])):=hc;cases a with
 |none=>
  obtain rfl:l= []:=by
   cases l with
   |nil=>rfl
   |cons x l=>obtain⟨g,o,h,_⟩:=hc 0 ZPm;cases h
  clear hc HC;go_enter func36,ntmps36;go_wp2;go_loop [5] (fun i=>i= .int .i64 0) (fun i=>0);case atStart=>rfl
  case round=>
   obtain rfl:=hrel;go_wp2;go_ret;exact⟨rfl,0,rfl⟩
 |some ad=>
  obtain⟨g,o,nx⟩:=ad;clear hc;go_enter func36,ntmps36;go_wp2;go_loopw [5] (fun i wr=>∃k:Nat,k<=l.length/\i= .int .i64 k/\(∃n,wr=W.drewN n)/\Hid (∀j,j<k->(h:j<l.length)->l[j]≠s)) (fun i _=>l.length-(intOf i).toNat);case atStart=>exact⟨0,U,rfl,⟨0,rfl⟩,ZPZ⟩
  case round=>
   obtain⟨k,hk,rfl,⟨n,rfl⟩,hn⟩:=hrel;by_cases hlt:k<l.length
   ·obtain⟨g1,o1,e1,hcf⟩:=HC.out k hlt;cases e1;have cf:W.cell? ⟨g,o+k,none⟩=some (.string ⟨l[k].toArray⟩):=hcf;clear hcf;go_wp2
    ·have he:(l[k]==s)=true:=by assumption
     go_ret;refine⟨Xw ?_,_,rfl⟩;symm;rw[ZXI,<-(ZXT.1 he)];exact ZWX hlt
    ·have he:(l[k]==s)=false:=by assumption
     refine⟨⟨k+1,U,ZPx,⟨_,rfl⟩,?_⟩,ZPB⟩;intro j hj hl2;by_cases hjk:j=k
     ·subst hjk;simpa using he
     ·exact hn.out j U hl2
   ·go_wp2;go_ret;refine⟨Xw ?_,_,rfl⟩;symm;rw[Bool.eq_false_iff];intro h;obtain⟨j,hj,e⟩:=ZX4 (ZXI.1 h);exact hn.out j U hj e
end
section
open Go.RowKit
def Zxf(W:World)(v:Value)(l:List Za):Prop:=
 ∃a cap,v= .slice a l.length cap/\∀i (h:i<l.length),∃g o,a=some ⟨g,o,none⟩/\W.cell? ⟨g,o+i*4,none⟩=some (Zp l[i])
def ZCu(l:List Za)(s:Za)(r:Int):Prop:=(s∈l->0<=r)/\(s∉l->r= -1)
theorem ZKl(v:Value)(l:List Za)(s:Za)(W:World)(hl:l.length<=90000)(hv:Zxf W v l):
  Calls prog 16 #[v,.string ⟨s.toArray⟩] W fun e W'=>∃r:Int,e= .returned (.int .i64 r)/\ZCu l s r/\Below W.heap.size W W':=by
 obtain⟨a,cap,rfl,hc⟩:=hv;have HC:Hid (∀i (h:i<l.length),∃g o,a=some ⟨g,o,none⟩/\W.cell? ⟨g,o+i*4,none⟩=some (Zp l[i])):=hc;cases a with
 |none=>
  obtain rfl:l= []:=by
   cases l with
   |nil=>rfl
   |cons x l=>obtain⟨g,o,h,_⟩:=hc 0 ZPm;cases h
  clear hc HC;go_enter func16,ntmps16;go_wp2;go_loop [5] (fun i=>i= .int .i64 0) (fun i=>0);case atStart=>rfl
  case round=>
   obtain rfl:=hrel;go_wp2;go_ret;exact⟨_,rfl,⟨(fun h=>ZPs),fun _=>rfl⟩,ZWT _ _⟩
 |some ad=>
  obtain⟨g,o,nx⟩:=ad;clear hc;go_enter func16,ntmps16;go_wp2;go_loopw [5] (fun i wr=>∃k:Nat,k<=l.length/\i= .int .i64 k/\(∃n,wr=W.drewN n)/\Hid (∀j,j<k->(h:j<l.length)->l[j]≠s)) (fun i _=>l.length-(intOf i).toNat);case atStart=>exact⟨0,U,rfl,⟨0,rfl⟩,ZPZ⟩
  case round=>
   obtain⟨k,hk,rfl,⟨n,rfl⟩,hn⟩:=hrel;by_cases hlt:k<l.length
   ·obtain⟨g1,o1,e1,hcf⟩:=HC.out k hlt;cases e1;have cf:W.cell? ⟨g,o+k*4,none⟩=some (.string ⟨l[k].toArray⟩):=hcf;clear hcf;go_wp2
    ·have he:(l[k]==s)=true:=by assumption
     go_ret;refine⟨_,rfl,?_,⟨rfl,rfl,rfl,ZWS _,fun _ _=>rfl⟩⟩;exact⟨fun _=>U,fun h=>absurd (by rw[<-(ZXT.1 he)];exact ZWX hlt) h⟩
    ·have he:(l[k]==s)=false:=by assumption
     refine⟨⟨k+1,U,ZPx,⟨_,rfl⟩,?_⟩,ZPB⟩;intro j hj hl2;by_cases hjk:j=k
     ·subst hjk;simpa using he
     ·exact hn.out j U hl2
   ·go_wp2;go_ret;refine⟨_,rfl,?_,⟨rfl,rfl,rfl,ZWS _,fun _ _=>rfl⟩⟩;refine⟨fun h=>?_,fun _=>rfl⟩;obtain⟨j,hj,e⟩:=ZX4 h;exact absurd e (hn.out j U hj)
theorem Zox{W:World}{B:Nat}{v:Value}{l:List Za}(h:W.ownsRow B 9 1 v l.length (l.map Zp)):QS W v l:=by
 rcases h.2 with⟨rfl,h0⟩|⟨g,cap,cur,rfl,_⟩
 ·obtain rfl:l= []:=ZX7.1 h0;exact ZT3
 ·refine⟨some ⟨g,0,none⟩,cap,rfl,fun i hi=>⟨g,0,rfl,?_⟩⟩;have:=h.cells (g:=g) rfl i (Zp l[i]) ZRj;rw[ZXE]at this;exact this
theorem QS.drew{W:World}{v:Value}{l:List Za}(h:QS W v l)(n:Nat):QS (W.drewN n) v l:=by
 obtain⟨a,cap,rfl,hc⟩:=h;exact⟨a,cap,rfl,fun i hi=>by obtain⟨g,o,ha,h1⟩:=hc i hi;exact⟨g,o,ha,h1⟩⟩
theorem own_ne{w:World}{B e sz n:Nat}{v:Value}{xs:List Value}(h:w.ownsRow B e sz v n xs){T:Nat}{cs:Array Value}{e':TypeId}{fr:Nat×Nat}(hT:w.heap[T]? =some (.cells cs e' fr))(hne:e≠e'):some T≠v.ownBlock:=by
 intro e1;rcases h.2 with⟨rfl,_⟩|⟨g,cap,cu,rfl,hb,hh,r⟩
 ·cases e1
 ·cases e1;rw[hT]at hh;exact hne ZRk
theorem ZaD{w:World}{T:Nat}{a b c d:Value}{ty:TypeId}(h:w.heap[T]? =some (.cells #[a,b,c,d] ty (0,0))):
  w.cell? ⟨T,0,none⟩=some a/\w.cell? ⟨T,1,none⟩=some b/\w.cell? ⟨T,2,none⟩=some c/\w.cell? ⟨T,3,none⟩=some d/\(∀k,w.frozen? ⟨T,k,none⟩=false):=
 ⟨ZPy,ZPy,ZPy,ZPy,fun k=>ZQG⟩
def Zo:List Za->List (Za×Za)
 |n::t::r=>(n,t)::Zo r
 |_=> []
def Zai(seen:List Za):List (Za×Za)->Bool
 | []=>true
 |(n,t)::r=>KS n&& !seen.contains n&&(t==Xr||t==VZ)&&Zai (seen++ [n]) r
def Zdw(n:Nat):Bool:=decide (4<=n/\n%2=0/\n<=14)
end
end Go.Proofs.YthmlacabmlghbaaGreatDoor
