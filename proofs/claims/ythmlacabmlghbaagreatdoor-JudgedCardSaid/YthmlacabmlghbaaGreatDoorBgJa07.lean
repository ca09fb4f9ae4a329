import Derived.Deep.DeepCutAuto
import Derived.Test.YthmlacabmlghbaaGreatDoorBgJa06
set_option maxRecDepth 100000
set_option maxHeartbeats 8000000
set_option linter.unusedSimpArgs false
set_option linter.unusedVariables false
namespace Go.Proofs.YthmlacabmlghbaaGreatDoor
open Go.Proofs.Tryz
theorem ZPL{p:Prop}(h:p:=by simp[results,Tryz.results39,go_sem]):p:=h
theorem ZUX{p:Prop}(h:p:=by have HE:Hid (R= .error k):=HW.out hn0;subst hn0;clear HW HX hq HR;go_wp2_with fail;go_ret2;rw[HE.out];exact⟨rfl,(hB.trans (hB1.mono hB.size)).alloc (Nat.le_trans hB.size hB1.size) _⟩):p:=h
theorem ZUM{p:Prop}(h:p:=by go_wp2_with fail;go_ret;exact⟨by rw[HD.out];rfl,rfl⟩):p:=h
open Go.RowKit
def Zxk(w:RW):Value:=.agg #[.string ⟨w.sort.toArray⟩,.string ⟨w.text.toArray⟩,.int .i64 w.num]
theorem ZKQ(set:Za):∀s:Za,Zk set (s.take (Zk set s))=(s.take (Zk set s)).length:=by
 intro s;refine Zjn set _ (fun j hj=>?_);exact Zf5 set s _ (ZWX hj)
theorem Zk5:QQ.length<=100000:=by rw[show QQ.length=12 from rfl];omega
theorem ZKx(c:UInt8)(r:Za)(w:World)(hs:(c::r).length<=400):
  Calls prog 39 #[.string ⟨(c::r).toArray⟩] w fun e w'=>e= .returned (.tuple #[Zxk (Z9 (c::r)).1,.int .i64 (Z9 (c::r)).2])/\Below w.heap.size w w':=by
 have hex:=QY;have ZtM:Zk (Ya++Zi) (c::r)<=(c::r).length:=Eu _ _;have Zev:Zk Zi (c::r)<=(c::r).length:=Eu _ _;have HDN:Hid (Zk Zi ((c::r).take (Zk Zi (c::r)))=((c::r).take (Zk Zi (c::r))).length):=ZKQ _ (c::r);have HR1:Hid (0<Zk Zi (c::r)->Z9 (c::r)=if(YN ((c::r).take (Zk Zi (c::r))) false).2 then(⟨Yh, [],(YN ((c::r).take (Zk Zi (c::r))) false).1⟩,Zk Zi (c::r))else Qs):=fun h=>by
  unfold Z9 dLen;rw[ZWR h]
 have HR2:Hid (¬0<Zk Zi (c::r)->0<Zk (Ya++Zi) (c::r)->Z9 (c::r)=(⟨if Va ((c::r).take (Zk (Ya++Zi) (c::r)))then YC else Yz,(c::r).take (Zk (Ya++Zi) (c::r)),0⟩,Zk (Ya++Zi) (c::r))):=fun h h2=>by
  unfold Z9 dLen Zag;rw[ZWQ h,ZWR h2]
 have HR3:Hid (¬0<Zk Zi (c::r)->¬0<Zk (Ya++Zi) (c::r)->Z9 (c::r)=if c=39 then(⟨Yd,(Yn (c::r)).1,0⟩,(Yn (c::r)).2)else if two (c::r)then(⟨ZT,(c::r).take 2,0⟩,2)else if QQ.contains c then(⟨ZT, [c],0⟩,1)else Qs):=fun h h2=>by
  unfold Z9 dLen Zag;rw[ZWQ h,ZWQ h2];simp only[List.head?_cons,ZYe,List.take_succ_cons,List.take_zero,Zdg]
 generalize Z9 (c::r)=R at HR1 HR2 HR3 ⊢;go_enter func39,ntmps39;go_wp2_with fail;refine(Zf4 (c::r) (Ya++Zi) _ U Zrp).mono ?_;rintro e w' ⟨rfl,rfl⟩;go_wp2_with fail;refine(Zf4 (c::r) Zi _ U Zmk).mono ?_;rintro e w' ⟨rfl,rfl⟩;generalize Zk Zi (c::r)=d at *;generalize Zk (Ya++Zi) (c::r)=n at *;simp only[List.length_cons]at hs ZtM Zev;have ZN4:(d:Int)<=(r.length:Int)+1:=U
 have ZOr:(n:Int)<=(r.length:Int)+1:=U
 by_cases hd:0<d
 ·have HR:=HR1.out hd;clear HR1 HR2 HR3;go_wp2_with fail;refine(ZoV ((c::r).take d) false _ ZRQ HDN.out).mono ?_;rintro e w' ⟨rfl,rfl⟩;cases hn:(YN ((c::r).take d) false).2 with
  |false=>
   have HX:Hid (R=Qs):=by show _=_;rw[HR,hn];rfl
   clear HR;go_wp2_with fail;refine ZW4 (v:=.tuple #[.agg #[.string ⟨#[]⟩,.string ⟨#[]⟩,.int .i64 0],.int .i64 0]) ZPL rfl ⟨ZPt,(ZWT _ w).alloc (ZWS _) _⟩
  |true=>
   have HX:Hid (R=(⟨Yh, [],(YN ((c::r).take d) false).1⟩,d)):=by show _=_;rw[HR,hn];rfl
   clear HR;go_wp2_with fail;refine ZW4 (v:=.tuple #[.agg #[.string ⟨#[110,117,109]⟩,.string ⟨#[]⟩,.int .i64 (YN ((c::r).take d) false).1],.int .i64 d]) ZPL rfl ⟨ZPt,(ZWT _ w).alloc (ZWS _) _⟩
 ·by_cases hn:0<n
  ·have HR:=HR2.out hd hn;clear HR1 HR2 HR3;go_wp2_with fail;refine(Zwb ((c::r).take n) _ ZRQ).mono ?_;rintro e w' ⟨rfl,rfl⟩;cases hk:Va ((c::r).take n)with
   |false=>
    have HX:Hid (R=(⟨Yz,(c::r).take n,0⟩,n)):=by show _=_;rw[HR,hk];rfl
    clear HR;go_wp2_with fail;refine ZW4 (v:=.tuple #[.agg #[.string ⟨#[110,97,109,101]⟩,.string ⟨((c::r).take n).toArray⟩,.int .i64 0],.int .i64 n]) ZPL rfl ⟨ZPt,(ZWT _ w).alloc (ZWS _) _⟩
   |true=>
    have HX:Hid (R=(⟨YC,(c::r).take n,0⟩,n)):=by show _=_;rw[HR,hk];rfl
    clear HR;go_wp2_with fail;refine ZW4 (v:=.tuple #[.agg #[.string ⟨#[107,101,121]⟩,.string ⟨((c::r).take n).toArray⟩,.int .i64 0],.int .i64 n]) ZPL rfl ⟨ZPt,(ZWT _ w).alloc (ZWS _) _⟩
  ·have HR:=HR3.out hd hn;clear HR1 HR2 HR3;by_cases hq:c=39
   ·subst hq;have HX:Hid (R=(⟨Yd,(Yn (39::r)).1,0⟩,(Yn (39::r)).2)):=by show _=_;rw[HR,ZWR rfl]
    clear HR;go_wp2_with fail;refine(ZoW (39::r) _ (by rw[List.length_cons];omega)).mono ?_;rintro e w' ⟨rfl,rfl⟩;go_wp2_with fail;refine ZW4 (v:=.tuple #[.agg #[.string ⟨#[116,101,120,116]⟩,.string ⟨(Yn (39::r)).1.toArray⟩,.int .i64 0],.int .i64 (Yn (39::r)).2]) ZPL rfl ⟨ZPt,(ZWT _ w).alloc (ZWS _) _⟩
   ·rw[ZWQ hq]at HR;have hq':((((ByteArray.mk (c::r).toArray)[0]'(ZXP _)).toNat:Int)==39)=false:=by
     rw[ZX8];intro e;exact hq (Zdi ZRR)
    have Zar:Hid (∀b,two (c::r)=false->QQ.contains c=b->R=if b then(⟨ZT, [c],0⟩,1)else Qs):=fun b h1 h2=>by rw[HR,h1,h2];rfl
    have Zbe:Hid (two (c::r)=true->R=(⟨ZT,(c::r).take 2,0⟩,2)):=fun h1=>by rw[HR,h1];rfl
    clear HR;cases r with
    |nil=>
     have HT:=(show two [c]=false by unfold two;simp);have HX1:Hid (∀b,QQ.contains c=b->R=if b then(⟨ZT, [c],0⟩,1)else Qs):=fun b h=>Zar.out b HT h;clear Zar Zbe HT;go_wp2_with fail;refine(Zf3 [c] QQ _ Zk5 ZQh).mono ?_;rintro e w' ⟨rfl,rfl⟩;rw[Zdg];cases hk:QQ.contains c with
     |true=>
      have HX:Hid (R=(⟨ZT, [c],0⟩,1)):=by show _=_;rw[HX1.out true hk];rfl
      go_wp2_with fail;refine ZW4 (v:=.tuple #[.agg #[.string ⟨#[115,105,103,110]⟩,.string ⟨#[c]⟩,.int .i64 0],.int .i64 1]) ZPL rfl ⟨ZPt,(ZWT _ w).alloc (ZWS _) _⟩
     |false=>
      have HX:Hid (R=Qs):=by show _=_;rw[HX1.out false hk];rfl
      go_wp2_with fail;refine ZW4 (v:=.tuple #[.agg #[.string ⟨#[]⟩,.string ⟨#[]⟩,.int .i64 0],.int .i64 0]) ZPL rfl ⟨ZPt,(ZWT _ w).alloc (ZWS _) _⟩
    |cons d' r'=>
     by_cases ZnB:c=60
     ·subst ZnB;by_cases ZnE:d'=62
      ·subst ZnE;have HX:Hid (R=(⟨ZT, [60,62],0⟩,2)):=Zbe.out rfl;clear Zar Zbe;go_wp2_with fail;refine ZW4 (v:=.tuple #[.agg #[.string ⟨#[115,105,103,110]⟩,.string ⟨#[60,62]⟩,.int .i64 0],.int .i64 2]) ZPL rfl ⟨ZPt,(ZWT _ w).alloc (ZWS _) _⟩
      ·have ZN2:(d'==62)=false:=by simpa using ZnE
       by_cases Zeu:d'=61
       ·subst Zeu;have HX:Hid (R=(⟨ZT, [60,61],0⟩,2)):=Zbe.out rfl;clear Zar Zbe;go_wp2_with fail;refine ZW4 (v:=.tuple #[.agg #[.string ⟨#[115,105,103,110]⟩,.string ⟨#[60,61]⟩,.int .i64 0],.int .i64 2]) ZPL rfl ⟨ZPt,(ZWT _ w).alloc (ZWS _) _⟩
       ·have ZDu:(d'==61)=false:=by simpa using Zeu
        have HT:=(show two (60::d'::r')=false by unfold two;simp[ZnE,Zeu]);have HX1:Hid (∀b,QQ.contains 60=b->R=if b then(⟨ZT, [60],0⟩,1)else Qs):=fun b h=>Zar.out b HT h;clear Zar Zbe HT;go_wp2_with fail;refine(Zf3 [60] QQ _ Zk5 ZQh).mono ?_;rintro e w' ⟨rfl,rfl⟩;rw[Zdg];cases hk:QQ.contains 60 with
        |true=>
         have HX:Hid (R=(⟨ZT, [60],0⟩,1)):=by show _=_;rw[HX1.out true hk];rfl
         go_wp2_with fail;refine ZW4 (v:=.tuple #[.agg #[.string ⟨#[115,105,103,110]⟩,.string ⟨#[60]⟩,.int .i64 0],.int .i64 1]) ZPL rfl ⟨ZPt,(ZWT _ w).alloc (ZWS _) _⟩
        |false=>
         have HX:Hid (R=Qs):=by show _=_;rw[HX1.out false hk];rfl
         go_wp2_with fail;refine ZW4 (v:=.tuple #[.agg #[.string ⟨#[]⟩,.string ⟨#[]⟩,.int .i64 0],.int .i64 0]) ZPL rfl ⟨ZPt,(ZWT _ w).alloc (ZWS _) _⟩
     ·have ZN0:(c==60)=false:=by simpa using ZnB
      by_cases ZnC:c=62
      ·subst ZnC;by_cases Zeu:d'=61
       ·subst Zeu;have HX:Hid (R=(⟨ZT, [62,61],0⟩,2)):=Zbe.out rfl;clear Zar Zbe;go_wp2_with fail;refine ZW4 (v:=.tuple #[.agg #[.string ⟨#[115,105,103,110]⟩,.string ⟨#[62,61]⟩,.int .i64 0],.int .i64 2]) ZPL rfl ⟨ZPt,(ZWT _ w).alloc (ZWS _) _⟩
       ·have ZDu:(d'==61)=false:=by simpa using Zeu
        have HT:=(show two (62::d'::r')=false by unfold two;simp[Zeu]);have HX1:Hid (∀b,QQ.contains 62=b->R=if b then(⟨ZT, [62],0⟩,1)else Qs):=fun b h=>Zar.out b HT h;clear Zar Zbe HT;go_wp2_with fail;refine(Zf3 [62] QQ _ Zk5 ZQh).mono ?_;rintro e w' ⟨rfl,rfl⟩;rw[Zdg];cases hk:QQ.contains 62 with
        |true=>
         have HX:Hid (R=(⟨ZT, [62],0⟩,1)):=by show _=_;rw[HX1.out true hk];rfl
         go_wp2_with fail;refine ZW4 (v:=.tuple #[.agg #[.string ⟨#[115,105,103,110]⟩,.string ⟨#[62]⟩,.int .i64 0],.int .i64 1]) ZPL rfl ⟨ZPt,(ZWT _ w).alloc (ZWS _) _⟩
        |false=>
         have HX:Hid (R=Qs):=by show _=_;rw[HX1.out false hk];rfl
         go_wp2_with fail;refine ZW4 (v:=.tuple #[.agg #[.string ⟨#[]⟩,.string ⟨#[]⟩,.int .i64 0],.int .i64 0]) ZPL rfl ⟨ZPt,(ZWT _ w).alloc (ZWS _) _⟩
      ·have ZN1:(c==62)=false:=by simpa using ZnC
       have HT:=(show two (c::d'::r')=false by unfold two;simp[ZnB,ZnC]);have HX1:Hid (∀b,QQ.contains c=b->R=if b then(⟨ZT, [c],0⟩,1)else Qs):=fun b h=>Zar.out b HT h;clear Zar Zbe HT;go_wp2_with fail;refine(Zf3 [c] QQ _ Zk5 ZQh).mono ?_;rintro e w' ⟨rfl,rfl⟩;rw[Zdg];cases hk:QQ.contains c with
       |true=>
        have HX:Hid (R=(⟨ZT, [c],0⟩,1)):=by show _=_;rw[HX1.out true hk];rfl
        go_wp2_with fail;refine ZW4 (v:=.tuple #[.agg #[.string ⟨#[115,105,103,110]⟩,.string ⟨#[c]⟩,.int .i64 0],.int .i64 1]) ZPL rfl ⟨ZPt,(ZWT _ w).alloc (ZWS _) _⟩
       |false=>
        have HX:Hid (R=Qs):=by show _=_;rw[HX1.out false hk];rfl
        go_wp2_with fail;refine ZW4 (v:=.tuple #[.agg #[.string ⟨#[]⟩,.string ⟨#[]⟩,.int .i64 0],.int .i64 0]) ZPL rfl ⟨ZPt,(ZWT _ w).alloc (ZWS _) _⟩
def Zde(W:World)(wa:Option Addr)(ws:List RW):Prop:=∀i (h:i<ws.length),∃g,wa=some ⟨g,0,none⟩/\W.cell? ⟨g,i*3,none⟩=some (.string ⟨ws[i].sort.toArray⟩)/\W.cell? ⟨g,i*3+1,none⟩=some (.string ⟨ws[i].text.toArray⟩)/\W.cell? ⟨g,i*3+2,none⟩=some (.int .i64 ws[i].num)
def opens(w:RW):Int:=if JY w [40]then 1 else if JY w [41]then -1 else 0
def Ew(n:Int):List RW->Bool
 | []=>false
 |w::r=>if 16<n+opens w then true else Ew (n+opens w) r
def deep(l:List RW):Bool:=Ew 0 l
theorem Zr8{n:Int}{w:RW}{r:List RW}:Ew n (w::r)=if 16<n+opens w then true else Ew (n+opens w) r:=by rw[Ew]
theorem ZJ7(ws:List RW)(wa:Option Addr)(cap:Nat)(W:World)(hw:Zde W wa ws)(hlen:ws.length<=400):
  Calls prog 20 #[.slice wa ws.length cap] W fun e w'=>e= .returned (.bool (deep ws))/\W=w':=by
 go_enter func20,ntmps20;go_wp2;go_loopg [3,4] (ws.length+1) (fun gk nv iv wr=>∃(k:Nat) (n:Int),k<=ws.length/\gk=ws.length-k+1/\iv= .int .i64 k/\nv= .int .i64 n/\ -(k:Int)<=n/\n<=16/\W=wr/\Hid (Ew n (ws.drop k)=deep ws));case atStart=>exact⟨0,0,U,U,rfl,rfl,U,U,rfl,rfl⟩
 case round=>
  obtain⟨k,n,hk,rfl,rfl,rfl,hn1,hn2,rfl,hq⟩:=hrel;by_cases hlt:k<ws.length
  ·obtain⟨g,rfl,q1,q2,q3⟩:=hw k hlt;clear hw;have HD:Hid (∀o,opens ws[k]=o->(16<n+o->deep ws=true)/\(¬16<n+o->Ew (n+o) (ws.drop (k+1))=deep ws)):=fun o ho=>by
    have e:=hq.out;rw[ZXl hlt,Zr8,ho]at e;exact ZTO
   clear hq;by_cases hs:ws[k].sort= [115,105,103,110]
   ·by_cases h1:ws[k].text= [40]
    ·have HF:=HD.out 1 (by unfold opens JY ZT;rw[hs,h1];rfl);have KD:Hid ((16<n+1->deep ws=true)/\(¬16<n+1->Ew (n+1) (ws.drop (k+1))=deep ws)):=HF;rw[hs]at q1;rw[h1]at q2;clear hs h1 HD HF;by_cases ho:16<n+1
     ·go_wp2_with fail;go_ret;exact⟨Xw (KD.out.1 ho).symm,rfl⟩
     ·go_wp2_with fail;go_roundg (ws.length-(k+1)+1);case measure=>omega
      case rel=>exact⟨k+1,n+1,U,rfl,ZPp,rfl,U,U,rfl,KD.out.2 ho⟩
    ·by_cases h2:ws[k].text= [41]
     ·have HF:=HD.out (-1) (by unfold opens JY ZT;rw[hs,h2];rfl);have KD:Hid ((16<n+ -1->deep ws=true)/\(¬16<n+ -1->Ew (n+ -1) (ws.drop (k+1))=deep ws)):=HF;rw[hs]at q1;rw[h2]at q2;clear hs h1 h2 HD HF;go_wp2_with fail;go_roundg (ws.length-(k+1)+1);case measure=>omega
      case rel=>exact⟨k+1,n-1,U,rfl,ZPp,rfl,U,U,rfl,by exact KD.out.2 U⟩
     ·have HF:=HD.out 0 (by unfold opens JY ZT;rw[hs];simp[h1,h2]);have KD:Hid ((16<n+0->deep ws=true)/\(¬16<n+0->Ew (n+0) (ws.drop (k+1))=deep ws)):=HF;rw[hs]at q1;have h1':(ws[k].text== [40])=false:=by simpa using h1
      have h2':(ws[k].text== [41])=false:=ZQe
      clear hs HD HF h1 h2;go_wp2_with fail;go_roundg (ws.length-(k+1)+1);case measure=>omega
      case rel=>exact⟨k+1,n,U,rfl,ZPp,rfl,U,U,rfl,ZRS⟩
   ·have HF:=HD.out 0 (by unfold opens JY ZT;simp[hs]);have KD:Hid ((16<n+0->deep ws=true)/\(¬16<n+0->Ew (n+0) (ws.drop (k+1))=deep ws)):=HF;have hs':(ws[k].sort== [115,105,103,110])=false:=by simpa using hs
    clear hs HD HF;go_wp2_with fail;go_roundg (ws.length-(k+1)+1);case measure=>omega
    case rel=>exact⟨k+1,n,U,rfl,ZPp,rfl,U,U,rfl,ZRS⟩
  ·go_wp2;go_ret;refine⟨Xw ?_,rfl⟩;rw[<-hq.out,ZXH U];rfl
theorem EC{w w':World}{B e size n:Nat}{v:Value}{xs:List Value}(h:w.ownsRow B e size v n xs)(hb:Below w.heap.size w w'):w'.ownsRow B e size v n xs:=by
 refine⟨h.1,?_⟩;rcases h.2 with h0|⟨g,cap,cur,rfl,hg,hh,r⟩
 ·exact ZS4
 ·exact ZU8
theorem YW{w:World}{T:Nat}{cv pv rv:Value}{ty:TypeId}(h:w.heap[T]? =some (.cells #[cv,pv,rv] ty (0,0))):
  w.cell? ⟨T,0,none⟩=some cv/\w.cell? ⟨T,1,none⟩=some pv/\w.cell? ⟨T,2,none⟩=some rv/\(∀k,w.frozen? ⟨T,k,none⟩=false):=
 ⟨ZPy,ZPy,ZPy,fun k=>ZQG⟩
theorem Xn{w:World}{b k:Nat}{u:Value}{cur:Array Value}{e:TypeId}{fr:Nat×Nat}(h:w.heap[b]? =some (.cells cur e fr)):(w.setCell ⟨b,k,none⟩ u).heap[b]? =some (.cells (cur.setIfInBounds k u) e fr):=by
 simp[World.setCell,Array.getElem?_modify,h]
theorem ZCP(w:World)(a b c:Value)(ty:TypeId):∀j u, [a,b,c][j]? =some u->(w.alloc (.cells #[a,b,c] ty)).cell? ((⟨w.heap.size,0,none⟩:Addr).add j)=some u:=by
 intro j u h;obtain⟨q0,q1,q2,_⟩:=YW (ZWV w (.cells #[a,b,c] ty));rw[ZXE];rcases j with _|_|_|j
 ·cases h;exact q0
 ·cases h;exact q1
 ·cases h;exact q2
 ·simp at h
theorem Zjv(w:World)(o:Obj)(a b c:Value)(ty:TypeId):∀j u, [a,b,c][j]? =some u->((w.alloc o).alloc (.cells #[a,b,c] ty)).cell? ((⟨w.heap.size+1,0,none⟩:Addr).add j)=some u:=by
 have h:=ZCP (w.alloc o) a b c ty;have e:(w.alloc o).heap.size=w.heap.size+1:=ZPm
 rw[e]at h;exact h
theorem Tryz.ZES:(prog.info? 110).map (fun i=>(i.zero,i.size,i.bytes))=some (some (.agg #[.string ⟨#[]⟩,.string ⟨#[]⟩,.int .i64 0]),3,40):=by kernel_rfl
def ZiK(w:RW):List Value:= [.string ⟨w.sort.toArray⟩,.string ⟨w.text.toArray⟩,.int .i64 w.num]
def UN(l:List RW):List Value:=l.flatMap ZiK
def ZNb(w:World):Except Nat (List RW)->Ending->World->Prop
 | .error k,e,w'=>e= .returned (.tuple #[.slice none 0 0,.int .i64 k])/\Below w.heap.size w w'
 | .ok l,e,w'=>∃v,e= .returned (.tuple #[v,.int .i64 (-1)])/\w'.ownsRow w.heap.size 110 3 v l.length (UN l)/\Below w.heap.size w w'
theorem Zjs{s:Za}{k:Nat}(hk:k<s.length)(hsz:k<(ByteArray.mk s.toArray).size){b:UInt8}(h:s[k]=b):((((ByteArray.mk s.toArray)[k]'hsz).toNat:Int)==(b.toNat:Int))=true:=by
 rw[ZXT,<-h];rfl
theorem Zd5{s:Za}{k:Nat}(hk:k<s.length)(hsz:k<(ByteArray.mk s.toArray).size){b:UInt8}(h:s[k]≠b):((((ByteArray.mk s.toArray)[k]'hsz).toNat:Int)==(b.toNat:Int))=false:=by
 rw[ZX8];intro e;exact h (Zdi e)
theorem map_id'{l:Except Nat (List RW)}:l.map (fun x=> []++x)=l:=by cases l<;>rfl
theorem Zvd{l:Except Nat (List RW)}{a:List RW}{w:RW}:(l.map fun x=>w::x).map (fun x=>a++x)=l.map fun x=>(a++ [w])++x:=by
 cases l
 ·rfl
 ·show Except.ok _=Except.ok _;simp
theorem ZJ9(s:Za)(w:World)(hs:s.length<=90000):
  Calls prog 18 #[.string ⟨s.toArray⟩] w (ZNb w (XB s)):=by
 have hex:=QY;obtain⟨i0,hi0,hz0,hz1,hz2⟩:=ZXd Tryz.ZES;by_cases hl:400<s.length
 ·have HR:Hid (XB s= .error 400):=by show _=_;unfold XB;rw[ZWR hl]
  generalize XB s=R at HR ⊢;go_enter func18,ntmps18;go_wp2_with fail;go_ret2;rw[HR.out];exact⟨rfl,ZWT _ _⟩
 ·have HR:Hid ((YK s (s.length+1) 0).map (fun x=> []++x)=XB s):=by show _=_;unfold XB;rw[ZWQ hl,map_id']
  generalize XB s=R at HR ⊢;go_enter func18,ntmps18;go_wp2_with fail;go_loopg [4,5] (s.length+1) (fun gk ov iv wr=>∃(k:Nat) (out:List RW),k<=s.length/\out.length<=k/\gk=s.length-k+1/\iv= .int .i64 k/\wr.ownsRow w.heap.size 110 3 ov out.length (UN out)/\Below w.heap.size w wr/\Hid ((YK s (s.length+1) k).map (fun x=>out++x)=R));case atStart=>exact⟨0, [],U,ZPm,U,rfl,ZXp _ _ _ _,ZWT _ _,HR⟩
  case round=>
   obtain⟨k,out,hk,ho,rfl,rfl,hown,hB,hq⟩:=hrel;by_cases hlt:k<s.length
   ·have hsz:k<(ByteArray.mk s.toArray).size:=hlt;have HC:=(show Hid _ from Zk3 hlt);have HB:Hid (blank s[k]=true->(YK s (s.length+1) (k+1)).map (fun x=>out++x)=R):=fun hb=>by
     rw[<-hq.out,HC.out,ZWR hb]
    by_cases h32:s[k]=32
    ·have f0:((((ByteArray.mk s.toArray)[k]'hsz).toNat:Int)==32)=true:=Zjs (b:=32) hlt hsz h32;go_wp2_with fail;go_roundg (s.length-(k+1)+1);case measure=>omega
     case rel=>exact⟨k+1,out,U,U,rfl,ZPp,hown,hB,HB.out (by rw[h32];rfl)⟩
    ·by_cases h9:s[k]=9
     ·have f0:((((ByteArray.mk s.toArray)[k]'hsz).toNat:Int)==32)=false:=Zd5 (b:=32) hlt hsz h32;have f2:((((ByteArray.mk s.toArray)[k]'hsz).toNat:Int)==9)=true:=Zjs (b:=9) hlt hsz h9;go_wp2_with fail;go_roundg (s.length-(k+1)+1);case measure=>omega
      case rel=>exact⟨k+1,out,U,U,rfl,ZPp,hown,hB,HB.out (by rw[h9];rfl)⟩
     ·by_cases h10:s[k]=10
      ·have f0:((((ByteArray.mk s.toArray)[k]'hsz).toNat:Int)==32)=false:=Zd5 (b:=32) hlt hsz h32;have f2:((((ByteArray.mk s.toArray)[k]'hsz).toNat:Int)==9)=false:=Zd5 (b:=9) hlt hsz h9;have f3:((((ByteArray.mk s.toArray)[k]'hsz).toNat:Int)==10)=true:=Zjs (b:=10) hlt hsz h10;go_wp2_with fail;go_roundg (s.length-(k+1)+1);case measure=>omega
       case rel=>exact⟨k+1,out,U,U,rfl,ZPp,hown,hB,HB.out (by rw[h10];rfl)⟩
      ·have f0:((((ByteArray.mk s.toArray)[k]'hsz).toNat:Int)==32)=false:=Zd5 (b:=32) hlt hsz h32;have f2:((((ByteArray.mk s.toArray)[k]'hsz).toNat:Int)==9)=false:=Zd5 (b:=9) hlt hsz h9;have f3:((((ByteArray.mk s.toArray)[k]'hsz).toNat:Int)==10)=false:=Zd5 (b:=10) hlt hsz h10;have hbl:¬blank s[k]=true:=by unfold blank;simp[h32,h9,h10]
       by_cases hc:(s.drop k).take 2= [45,45]
       ·have hl2:k+1<s.length:=by
         have:=congrArg List.length hc;rw[ZXS,ZXo]at this;simp only[List.length_cons,List.length_nil]at this;omega
        have hc':((s.drop k).take 2== [45,45])=true:=ZPE
        have HL:Hid (∀q,k+JW (s.drop k)=q->(YK s (s.length+1) q).map (fun x=>out++x)=R):=fun q e=>by
         rw[<-hq.out,HC.out,ZWQ hbl,ZWR hc,e]
        have H10:Hid (s[k]≠10):=h10;clear HB HC h32 h9 h10 hbl hc;go_wp2_with fail;go_loopg [5] (s.length-k+1) (fun gk iv wi=>∃q:Nat,k<=q/\q<=s.length/\gk=s.length-q+1/\iv= .int .i64 q/\wr=wi/\Hid (∀z,k<=z->z<q->∀(hz:z<s.length),s[z]≠10));case atStart=>exact⟨k,U,U,U,rfl,rfl,fun z h1 h2=>U⟩
        case round=>
         obtain⟨q,hkq,hqs,rfl,rfl,rfl,hno⟩:=hrel;by_cases hql:q<s.length
         ·have hsq:q<(ByteArray.mk s.toArray).size:=hql;by_cases Zh2:s[q]=10
          ·have g3:((((ByteArray.mk s.toArray)[q]'hsq).toNat:Int)==10)=true:=Zjs (b:=10) hql hsq Zh2;have g4:((((ByteArray.mk s.toArray)[q]'hsq).toNat:Int) != 10)=false:=by rw[bne,g3];rfl
           have HLL:Hid (k+JW (s.drop k)=q):=by
            show _=_;rw[Zu5 (j:=q) U (fun _=>Zh2) (q-k) k U (fun z h1 h2 hz=>hno.out z h1 h2 hz)];omega
           have ZOg:k<q:=by
            by_cases e:k=q
            ·subst e;exact absurd Zh2 H10.out
            ·omega
           go_wp2_with fail;go_roundg (s.length-q+1);case measure=>omega
           case rel=>exact ZUa
          ·have g3:((((ByteArray.mk s.toArray)[q]'hsq).toNat:Int)==10)=false:=Zd5 (b:=10) hql hsq Zh2;have g4:((((ByteArray.mk s.toArray)[q]'hsq).toNat:Int) != 10)=true:=by rw[bne,g3];rfl
           have Y4:Hid (∀z,k<=z->z<q+1->∀(hz:z<s.length),s[z]≠10):=fun z h1 h2 hz=>by
            by_cases e:z=q
            ·subst e;exact Zh2
            ·exact hno.out z h1 U hz
           go_wp2_with fail;go_roundg (s.length-(q+1)+1);case measure=>omega
           case rel=>exact⟨q+1,U,U,rfl,ZPp,rfl,Y4⟩
         ·have HLL:Hid (k+JW (s.drop k)=q):=by
           show _=_;rw[Zu5 (j:=q) U (fun h=>absurd h hql) (q-k) k U (fun z h1 h2 hz=>hno.out z h1 h2 hz)];omega
          go_wp2_with fail;go_roundg (s.length-q+1);case measure=>omega
          case rel=>exact ZUa
       ·have hc':((s.drop k).take 2== [45,45])=false:=by simpa using hc
        have HD:Hid (s.drop k=s[k]::s.drop (k+1)):=VH s k hlt;have HW:Hid ((Z9 (s.drop k)).2=0->R= .error k):=fun e=>by
         rw[<-hq.out,HC.out,ZWQ hbl,ZWQ hc,ZWR e];rfl
        have HX:Hid ((Z9 (s.drop k)).2≠0->(YK s (s.length+1) (k+(Z9 (s.drop k)).2)).map (fun x=>(out++ [(Z9 (s.drop k)).1])++x)=R):=fun e=>by
         rw[<-hq.out,HC.out,ZWQ hbl,ZWQ hc,ZWQ e,Zvd]
        have HT:Hid (List.take (List.length s-k) (List.drop k s)=s[k]::s.drop (k+1)):=by
         show _=_;rw[<-HD.out,ZXB ZPO]
        have ZcF:=ZoO s[k] (s.drop (k+1));have hlr:(s[k]::s.drop (k+1)).length<=400:=by rw[List.length_cons,ZXo];omega
        have hcw:=fun w=>ZKx s[k] (s.drop (k+1)) w hlr;rw[<-HD.out]at hcw ZcF;rw[ZXo]at ZcF;have HT':Hid (List.take (List.length s-k) (List.drop k s)=s.drop k):=by show _=_;rw[HT.out,HD.out]
        generalize Z9 (s.drop k)=rw0 at HW HX hcw ZcF;obtain⟨⟨so,te,nu⟩,n⟩:=rw0;simp only[Zxk]at hcw HW HX ZcF;clear HB HC h32 h9 h10 hbl hc;by_cases hk1:k+1<s.length
        ·go_wp2_with fail;rw[HT'.out];refine(hcw _).mono ?_;rintro e w1 ⟨rfl,hB1⟩;by_cases hn0:n=0
         ·exact ZUX
         ·have HXX:Hid ((YK s (s.length+1) (k+n)).map (fun x=>(out++ [⟨so,te,nu⟩])++x)=R):=HX.out hn0;have ZtK:((n:Int)==0)=false:=by simpa using hn0
          have hown1:=EC hown hB1;have hBw:=(hB.trans (hB1.mono hB.size)).alloc (ZW0 hB.size hB1.size) (.cells #[.string ⟨so.toArray⟩,.string ⟨te.toArray⟩,.int .i64 nu] 110);have hsw:=hBw.size;clear HW HX hq HR;go_wp2_with (at_builtin;go_must (refine ZXg _ rfl _ _ 61 rfl w.heap.size 110 i0 (.agg #[.string ⟨#[]⟩,.string ⟨#[]⟩,.int .i64 0]) 3 40 underlying61 hi0 hz0 hz1 hz2 rfl ZPl _ _ _ rfl ((hown1.alloc _).alloc _) ⟨w1.heap.size+1,0,none⟩ 1 1 [.string ⟨so.toArray⟩,.string ⟨te.toArray⟩,.int .i64 nu] rfl rfl (Zjv _ _ _ _ _ _) ZPA ZPq U (by simp at hsw ⊢;omega) ?_);intro v' w5 hown' hgrow _);go_roundg (s.length-(k+n)+1);case measure=>omega
          case rel=>
           exact ZV1
        ·go_wp2_with fail;rw[HT'.out];refine(hcw _).mono ?_;rintro e w1 ⟨rfl,hB1⟩;by_cases hn0:n=0
         ·exact ZUX
         ·have HXX:Hid ((YK s (s.length+1) (k+n)).map (fun x=>(out++ [⟨so,te,nu⟩])++x)=R):=HX.out hn0;have ZtK:((n:Int)==0)=false:=by simpa using hn0
          have hown1:=EC hown hB1;have hBw:=(hB.trans (hB1.mono hB.size)).alloc (ZW0 hB.size hB1.size) (.cells #[.string ⟨so.toArray⟩,.string ⟨te.toArray⟩,.int .i64 nu] 110);have hsw:=hBw.size;clear HW HX hq HR;go_wp2_with (at_builtin;go_must (refine ZXg _ rfl _ _ 61 rfl w.heap.size 110 i0 (.agg #[.string ⟨#[]⟩,.string ⟨#[]⟩,.int .i64 0]) 3 40 underlying61 hi0 hz0 hz1 hz2 rfl ZPl _ _ _ rfl ((hown1.alloc _).alloc _) ⟨w1.heap.size+1,0,none⟩ 1 1 [.string ⟨so.toArray⟩,.string ⟨te.toArray⟩,.int .i64 nu] rfl rfl (Zjv _ _ _ _ _ _) ZPA ZPq U (by simp at hsw ⊢;omega) ?_);intro v' w5 hown' hgrow _);go_roundg (s.length-(k+n)+1);case measure=>omega
          case rel=>
           exact ZV1
   ·have hR:R= .ok out:=by rw[<-hq.out,Zwo U];show Except.ok _=_;simp
    go_wp2_with fail;go_ret2;rw[hR];exact ZTL
theorem Zr9:∀n,n<10->(Zi.drop n).take 1= [UInt8.ofNat (48+n)]:=by decide
theorem ZmK{n:Nat}(h:n<10):Jc n= [UInt8.ofNat (48+n)]:=by rw[Jc,ZWR h]
theorem Zr5{n:Nat}(h:¬n<10):Jc n=Jc (n/10)++ [UInt8.ofNat (48+n%10)]:=by rw[Jc,ZWQ h]
theorem Zr6(k:Nat):∀n,n<10^(k+1)->(Jc n).length<=k+1:=by
 induction k with
 |zero=>intro n h;rw[ZmK ZPv];simp
 |succ k ih=>
  intro n h;by_cases h1:n<10
  ·rw[ZmK h1];simp
  ·rw[Zr5 h1,ZW9];have:=ih (n/10) ZRT;simp;omega
theorem Zv9(m:Nat):∀(n:Nat) (w:World),n<m->n<9223372036854775808->
  Calls prog 75 #[.int .i64 n] w fun e w'=>e= .returned (.string ⟨(Jc n).toArray⟩)/\w=w':=by
 induction m with
 |zero=>intro n w h;omega
 |succ m ih=>
  intro n w hn hb;have hex:=QY;by_cases h1:n<10
  ·have HD:Hid (Jc n=(Zi.drop n).take 1):=by show _=_;rw[ZmK h1,Zr9 n h1]
   go_enter func75,ntmps75;exact ZUM
  ·have HD:Hid (Jc n=Jc (n/10)++(Zi.drop (n%10)).take 1):=by
    show _=_;rw[Zr5 h1,Zr9 _ (Nat.mod_lt _ U)]
   have happ:=ZgZ;have hlen:=Zr6 19 (n/10) ZRm;have ZnK:n%10<10:=Nat.mod_lt _ U;go_enter func75,ntmps75;go_wp2_with fail;rw[show(n:Int)/10=((n/10:Nat):Int) from U];refine(ih (n/10) _ U U).mono ?_;rintro e w' ⟨rfl,rfl⟩;generalize hq:Jc (n/10)=q at HD hlen ⊢;clear hq;exact ZUM
theorem Zwa(n:Int)(w:World)(h1: -9223372036854775808<=n)(h2:n<=9223372036854775807):
  Calls prog 75 #[.int .i64 n] w fun e w'=>e= .returned (.string ⟨(dec n).toArray⟩)/\w=w':=by
 by_cases hn:n<0
 ·have HD:Hid (dec n=45::Jc n.natAbs):=by show _=_;unfold dec;rw[ZWR hn]
  by_cases hm:n= -9223372036854775808
  ·subst hm;have HX:Hid (dec (-9223372036854775808)= [45,57,50,50,51,51,55,50,48,51,54,56,53,52,55,55,53,56,48,56]):=by show _=_;decide +kernel
   go_enter func75,ntmps75;go_wp2_with fail;go_ret;exact⟨ZPt,rfl⟩
  ·have happ:=ZgZ;have hlen:=Zr6 19 n.natAbs ZRm;have hm':(n== -9223372036854775808)=false:=by simpa using hm
   have hneg:IntKind.i64.wrap (-n)= -n:=by rw[IntKind.wrap_i64];omega
   go_enter func75,ntmps75;go_wp2_with fail;rw[show -n=((n.natAbs:Nat):Int) from U];refine(Zv9 (n.natAbs+1) n.natAbs _ U U).mono ?_;rintro e w' ⟨rfl,rfl⟩;generalize Jc n.natAbs=q at HD hlen ⊢;exact ZUM
 ·obtain⟨k,rfl⟩:∃k:Nat,n=k:=⟨n.toNat,U⟩;have e:dec (k:Int)=Jc k:=by unfold dec;rw[ZWQ hn];rfl
  rw[e];exact Zv9 (k+1) k w U U
theorem EN{M N:Nat}{W:World}{t:Tr}{v:Value}(h:Zr M N W t v):∃o,v= .pointer o:=by
 cases t with
 |nil=>simp only[Zr]at h;exact⟨_,h⟩
 |cons x t=>simp[Zr]at h
 |node f k i fr g w hh=>exact ZWr
theorem ZcW{M N:Nat}{W:World}{t:Tr}{v:Value}(h:Z8 M N W t v):∃a c,v= .slice a t.len c/\∀j (hj:j<(elems t).length),∃g u,a=some ⟨g,0,none⟩/\W.cell? ⟨g,j,none⟩=some u/\Zr M N W (elems t)[j] u:=by
 obtain⟨a,c,rfl,hr⟩:=h;refine⟨a,c,rfl,?_⟩;have key:∀(t:Tr) (o:Nat),YM M N W t a o->∀j (hj:j<(elems t).length),∃g u,a=some ⟨g,0,none⟩/\W.cell? ⟨g,o+j,none⟩=some u/\Zr M N W (elems t)[j] u:=by
  intro t;induction t with
  |nil=>intro o _ j hj;simp[elems]at hj
  |node=>intro o _ j hj;simp[elems]at hj
  |cons x t _ ih=>
   intro o hr j hj;rw[YM]at hr;obtain⟨⟨g,v,e,_,_,hc,hp⟩,hr2⟩:=hr;cases j with
   |zero=>exact⟨g,v,e,hc,hp⟩
   |succ j=>
    obtain⟨g',u,e',hc',hp'⟩:=ih (o+1) hr2 j (by simpa[elems]using hj);exact⟨g',u,e',by rw[show o+(j+1)=o+1+j from U];exact hc',hp'⟩
 intro j hj;obtain⟨g,u,e,hc,hp⟩:=key t 0 hr j hj;exact⟨g,u,e,by rwa [ZX5]at hc,hp⟩
theorem QB{W:World}{b:Nat}{f:Fl}{vk vi vf vg vw vh:Value}(h:W.heap[b]? =some (.cells (YF f vk vi vf vg vw vh) XY (0,0))):
  W.cell? ⟨b,0,none⟩=some (.string ⟨f.kind.toArray⟩)/\W.cell? ⟨b,1,none⟩=some (.string ⟨f.sign.toArray⟩)/\W.cell? ⟨b,2,none⟩=some (.string ⟨f.text.toArray⟩)/\W.cell? ⟨b,3,none⟩=some (.string ⟨f.Zd.toArray⟩)/\W.cell? ⟨b,4,none⟩=some (.string ⟨f.Zx.toArray⟩)/\W.cell? ⟨b,5,none⟩=some (.int .i64 f.num)/\W.cell? ⟨b,6,none⟩=some (.bool f.star)/\W.cell? ⟨b,7,none⟩=some (.bool f.not_)/\W.cell? ⟨b,8,none⟩=some (.bool f.all)/\W.cell? ⟨b,9,none⟩=some (.bool f.ZU)/\
  W.cell? ⟨b,10,none⟩=some vk/\W.cell? ⟨b,11,none⟩=some vi/\W.cell? ⟨b,12,none⟩=some vf/\W.cell? ⟨b,13,none⟩=some vg/\W.cell? ⟨b,14,none⟩=some vw/\W.cell? ⟨b,15,none⟩=some vh:=
 ⟨ZPM,ZPM,ZPM,ZPM,ZPM,ZPM,ZPM,ZPM,ZPM,ZPM,ZPM,ZPM,ZPM,ZPM,ZPM,ZPM⟩
end Go.Proofs.YthmlacabmlghbaaGreatDoor
