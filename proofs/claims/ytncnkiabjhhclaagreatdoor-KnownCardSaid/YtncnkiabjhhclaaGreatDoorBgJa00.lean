import Derived.Test.YtncnkiabjhhclaaGreatDoorBgAb
import Derived.Below
import Derived.BigQuiet
import Derived.Deep.AppendLies
import Derived.Deep.CutBlock
import Derived.Deep.DeepCutAuto
import Derived.Deep.LoopGhost
import Derived.Deep.OwnRows
import Derived.Deep.QuietTactic
import Derived.Deep.RegionHeld3
import Derived.Deep.RegionLaw
import Derived.Deep.RegionWith
import Derived.Defers
import Derived.KernelRfl
import Derived.LaidEql
import Derived.LaidEqlPtr
import Derived.Laws.EntriesVeiled
import Derived.Laws.MakeOwn
import Derived.LoopIn
import Derived.LoopNIn
import Derived.Maps.AppendAt
import Derived.Maps.OwnSet
import Derived.OrdersHeld
import Derived.OrdersIn
import Derived.OwnWalkIn
import Derived.RangeFuncBound
import Derived.RangeFuncCalls
import Derived.RangeFuncLeaves
import Derived.RangeFuncNested
import Derived.Recover
import Derived.Shelf.Abstract
import Derived.Shelf.RegionOpen
import Derived.Stop.Asserts
import Derived.TacticsInMore
import Derived.Test.YtncnkiabjhhclaaGreatDoorProg
import Derived.WalkKit
import Derived.WalkLawsBesides
import Derived.WalkSpells
set_option maxRecDepth 100000
set_option maxHeartbeats 8000000
set_option linter.all false
namespace Go.Proofs.YtncnkiabjhhclaaGreatDoor
open Go.Proofs.Tryz
variable{K:Act->World->Prop}{args tmps:Array Value}{assign body:Code}{fn:Func}{bf:FuncId}{ps:List MemPlace}{id:Nat}{fr:Nat×Nat}{ty:TypeId}{x0 x1 x2 x3 x4 x5 x6:Value}{w':World}{S:World->Prop}
def pK:=@Go.World.cell?_of_block
def jY{p:Prop}(h:p:=by go_enter func305,ntmps305;go_wp2;go_ret;exact⟨rfl,rfl⟩):p:=h
def ak{p:Prop}(h:p:=by go_num):p:=h
def mG{p:Prop}(h:p:=by rintro e w' ⟨rfl,rfl⟩;go_wp2;go_ret;exact⟨rfl,rfl⟩):p:=h
def qY:=@Go.StepsIn.trans
def qK:=@Go.callsIn_wide
def ow:=@Go.RowKit.Below.heap_alloc
def oK:=@Go.heap_alloc_new
def pF:=@Go.World.putObj_heap_other
def rZ:=@Go.World.ownsMap.update
open Go.RowKit
def wN{p:Prop}(h:p):Hid p:=h
def xH{w:World}{b:Nat}{t:List Value}(h:w.heap[b]? =some (.cells (x0::t).toArray ty fr)):w.cell? ⟨b,0,none⟩=some x0:=by simp[World.cell?,h]
def zS{w:World}{b:Nat}{t:List Value}(h:w.heap[b]? =some (.cells (x0::x1::t).toArray ty fr)):w.cell? ⟨b,1,none⟩=some x1:=by simp[World.cell?,h]
def KG{w:World}{b:Nat}{t:List Value}(h:w.heap[b]? =some (.cells (x0::x1::x2::t).toArray ty fr)):w.cell? ⟨b,2,none⟩=some x2:=by simp[World.cell?,h]
def KH{w:World}{b:Nat}{t:List Value}(h:w.heap[b]? =some (.cells (x0::x1::x2::x3::t).toArray ty fr)):w.cell? ⟨b,3,none⟩=some x3:=by simp[World.cell?,h]
def Uk{w:World}{b:Nat}{t:List Value}(h:w.heap[b]? =some (.cells (x0::x1::x2::x3::x4::t).toArray ty fr)):w.cell? ⟨b,4,none⟩=some x4:=by simp[World.cell?,h]
def cL5{w:World}{b:Nat}{t:List Value}(h:w.heap[b]? =some (.cells (x0::x1::x2::x3::x4::x5::t).toArray ty fr)):w.cell? ⟨b,5,none⟩=some x5:=by simp[World.cell?,h]
def cL6{w:World}{b:Nat}{t:List Value}(h:w.heap[b]? =some (.cells (x0::x1::x2::x3::x4::x5::x6::t).toArray ty fr)):w.cell? ⟨b,6,none⟩=some x6:=by simp[World.cell?,h]
def cL7{w:World}{b:Nat}{x7:Value}{t:List Value}(h:w.heap[b]? =some (.cells (x0::x1::x2::x3::x4::x5::x6::x7::t).toArray ty fr)):w.cell? ⟨b,7,none⟩=some x7:=by simp[World.cell?,h]
def cD5{w:World}{b:Nat}{t:List Value}(h:w.heap[b]? =some (.cells (x0::x1::x2::x3::x4::t).toArray ty fr)):w.cell? ⟨b,0,none⟩=some x0/\w.cell? ⟨b,1,none⟩=some x1/\w.cell? ⟨b,2,none⟩=some x2/\w.cell? ⟨b,3,none⟩=some x3/\w.cell? ⟨b,4,none⟩=some x4:=⟨xH h,zS h,KG h,KH h,Uk h⟩
def cF0{w:World}{b:Nat}{t:List Value}(h:w.heap[b]? =some (.cells (x0::t).toArray ty)):w.cell? ⟨b,0,none⟩=some x0/\w.frozen? ⟨b,0,none⟩=false:=by simp[World.cell?,World.frozen?,h]
def cF1{w:World}{b:Nat}{t:List Value}(h:w.heap[b]? =some (.cells (x0::x1::t).toArray ty)):w.cell? ⟨b,1,none⟩=some x1/\w.frozen? ⟨b,1,none⟩=false:=by simp[World.cell?,World.frozen?,h]
def wo{α:Type}{xs:Array α}{i:Nat}{a:α}(h:xs[i]? =some a):i<xs.size:=(oz.1 h).1
abbrev vV(W w:World):Prop:=Below W.heap.size W w
def xq{w:World}{g:Nat}{o:Obj}(hB:Below w.heap.size w w')(h:w.heap[g]? =some o):w'.heap[g]? =some o:=(hB.block g (wo h)).trans h
def wT{w}{n}{g i:Nat}{v:Option Value}(hB:Below n w w')(hg:g<n)(h:w.cell? ⟨g,i,none⟩=v):w'.cell? ⟨g,i,none⟩=v:=(hB.cell (p:=⟨g,i,none⟩) hg).trans h
def yP{w:World}{g i:Nat}{v:Option Value}(hB:w'.heap[g]? =w.heap[g]?)(h:w.cell? ⟨g,i,none⟩=v):w'.cell? ⟨g,i,none⟩=v:=(pK (a:=⟨g,i,none⟩) hB).trans h
abbrev vS:=List UInt8
def Wu(t s:vS):Bool:=(List.range (s.length+1-t.length)).any λi=>(s.drop i).take t.length==t
def OJ(l:vS)(a b):(ByteArray.mk l.toArray).extract a b=⟨((l.drop a).take (b-a)).toArray⟩:=by
 ext1;simp[ByteArray.extract,ByteArray.copySlice]
def ZEZ{t s:vS}(k)(h:k+t.length<=s.length)(e:(s.drop k).take t.length=t):Wu t s=true:=by
 unfold Wu;rw[rR];exact⟨k,ah,bD⟩
def Zs3(c)(s):Wu [c] s=s.contains c:=by
 rw[p9];constructor
 ·intro h;unfold Wu at h;rw[rR]at h;obtain⟨k,hk,e⟩:=h;simp at hk e;have:c∈(s.drop k).take 1:=by rw[e];simp
  simp;exact List.mem_of_mem_drop (List.mem_of_mem_take this)
 ·intro h;simp at h;obtain⟨k,hk,e⟩:=rY h;refine ZEZ k ah ?_;rw[pM hk];simp[e]
def ze(set s:vS):Nat:=(s.takeWhile λc=>set.contains c).length
def Zbz(set)(c)(s:vS):ze set (c::s)=if set.contains c then ze set s+1 else 0:=by
 unfold ze;rw[qB];split<;>simp_all
theorem Zs8(set):∀s,(∀j,(h:j<s.length)->set.contains s[j]=true)->ze set s=s.length
 | [],_=>rfl
 |c::s,h=>by
  have h0:=h 0 ae;simp only[List.getElem_cons_zero]at h0;rw[Zbz,h0,nY rfl,Zs8 set s (λj hj=>gL)];simp
def ZhO(set s):ze set s<=s.length:=by
 unfold ze;exact(sH _).length_le
def G5:vS:= [32,115,101,108,101,99,116,32,100,105,115,116,105,110,99,116,32,102,114,111,109,32,119,104,101,114,101,32,103,114,111,117,112,32,98,121,32,104,97,118,105,110,103,32,97,115,32,117,110,105,111,110,32,105,110,116,101,114,115,101,99,116,32,101,120,99,101,112,116,32,97,108,108,32,97,110,121,32,97,110,100,32,111,114,32,110,111,116,32,101,120,105,115,116,115,32,105,110,32,105,115,32,110,117,108,108,32,99,111,117,110,116,32,115,117,109,32,109,105,110,32,109,97,120,32]
def yT:vS:= [48,49,50,51,52,53,54,55,56,57]
def Iq:vS:= [97,98,99,100,101,102,103,104,105,106,107,108,109,110,111,112,113,114,115,116,117,118,119,120,121,122,65,66,67,68,69,70,71,72,73,74,75,76,77,78,79,80,81,82,83,84,85,86,87,88,89,90,95]
def OL(s:vS):Bool:=Wu (32::(s++ [32])) G5
def Zl5(a b:vS):(ByteArray.mk a.toArray)++(ByteArray.mk b.toArray)=ByteArray.mk (a++b).toArray:=by
 ext1;simp[ByteArray.data_append]
def GZ(acc:vS)(n:Nat):vS->vS×Nat
 | []=>([],0)
 | [c]=>if c=10 then([],0)else if c=39 then(acc,n+1)else([],0)
 |c::d::r=>if c=10 then([],0)else if c=39 then(if d=39 then GZ (acc++ [39]) (n+2) r else(acc,n+1))else GZ (acc++ [c]) (n+1) (d::r)
def EX(s:vS):vS×Nat:=GZ [] 1 (s.drop 1)
def ZhN(acc)(n):GZ acc n []=([],0):=by unfold GZ;rfl
def Zs5(acc)(n)(r:vS):GZ acc n (10::r)=([],0):=by
 cases r<;>(unfold GZ;rfl)
def Zs6(acc)(n)(c)(r:vS)(h:c≠10)(h':c≠39):GZ acc n (c::r)=GZ (acc++ [c]) (n+1) r:=by
 cases r with
 |nil=>rw[ZhN];unfold GZ;rw[nU h,nU h']
 |cons d r=>rw[GZ];rw[nU h,nU h']
def Zs7(acc)(n)(r:vS):GZ acc n (39::39::r)=GZ (acc++ [39]) (n+2) r:=by
 rw[GZ];rfl
def Zs4(acc)(n)(r:vS)(h:∀r',r≠39::r'):GZ acc n (39::r)=(acc,n+1):=by
 cases r with
 |nil=>unfold GZ;rfl
 |cons d r=>
  have:d≠39:=λe=>h r (by rw[e]);rw[GZ];rw[nU O,nY rfl,nU this]
def Wv(s:vS):(ByteArray.mk s.toArray).size=s.length:=rfl
def ZhR{a b:UInt8}(h:(a.toNat:Int)=(b.toNat:Int)):a=b:=sJ.1 Z
def ZEJ{a:UInt8}{n:Int}(b)(h:((a.toNat:Int) != n)=true)(hb:n=(b.toNat:Int)):a≠b:=by
 intro e;subst e;subst hb;simp at h
def ZEI{a:UInt8}{n:Int}(b)(h:((a.toNat:Int) != n)=false)(hb:n=(b.toNat:Int)):a=b:=by
 subst hb;exact ZhR ay
def ZEH{a:UInt8}{n:Int}(b)(h:((a.toNat:Int)==n)=true)(hb:n=(b.toNat:Int)):a=b:=by
 subst hb;exact ZhR ay
def ZEG{a:UInt8}{n:Int}(b)(h:((a.toNat:Int)==n)=false)(hb:n=(b.toNat:Int)):a≠b:=by
 intro e;subst e;subst hb;simp at h
def ZhM(s:vS)(k)(h:k<s.length):s.drop k=s[k]::s.drop (k+1):=pM h
def R7(n:Int):vS->Option Int
 | []=>some n
 |c::r=>if n<(-9223372036854775808+((c.toNat:Int)-48)).tdiv 10 then none else R7 (10*n-((c.toNat:Int)-48)) r
def JA(s:vS)(neg:Bool):Int×Bool:=
 match R7 0 s with
 |none=>(0,false)
 |some n=>if neg then(n,true)else(if n= -9223372036854775808 then n else -n,decide (n≠ -9223372036854775808))
def ZEL{c:UInt8}(h:yT.contains c=true):48<=c.toNat/\c.toNat<=57:=by
 simp[yT]at h;rcases h with h|h|h|h|h|h|h|h|h|h<;>subst h<;>decide
def ZE3(d)(h0:0<=d)(h9:d<=9):(-9223372036854775808+d).tdiv 10= -((9223372036854775808-d)/10):=by
 have e:(-9223372036854775808+d)= -(9223372036854775808-d):=Z
 rw[e,Int.neg_tdiv,Int.tdiv_eq_ediv_of_nonneg Z]
def ZEV(n)(c)(r:vS):R7 n (c::r)=if n<(-9223372036854775808+((c.toNat:Int)-48)).tdiv 10 then none else R7 (10*n-((c.toNat:Int)-48)) r:=by
 rw[R7]
def ZEX{s:vS}(neg)(h:R7 0 s=none):JA s neg=(0,false):=by
 unfold JA;rw[h]
def Zs2{s:vS}{n:Int}(h:R7 0 s=some n):JA s false=(if n= -9223372036854775808 then n else -n,decide (n≠ -9223372036854775808)):=by
 unfold JA;rw[h];rfl
def ZEW{s:vS}{n:Int}(h:R7 0 s=some n):JA s true=(n,true):=by
 unfold JA;rw[h];rfl
inductive wG|null|int (n:Int)|text (s:vS)
 deriving DecidableEq
def ZbC(a b:Int):Int:=if a<b then -1 else if b<a then 1 else 0
def Zmo(a b:vS):Int:=if Op.bytesLess a b then -1 else if a=b then 0 else 1
def Zp2:wG->Int| .null=>0| .int _=>1| .text _=>2
def G7:wG->wG->Int
 | .int a,.int b=>ZbC a b
 | .text a,.text b=>Zmo a b
 |a,b=>ZbC (Zp2 a) (Zp2 b)
def Ev:List wG->List wG->Int
 | [], []=>0
 | [],_::_=> -1
 |_::_, []=>1
 |a::r,b::s=>if G7 a b=0 then Ev r s else G7 a b
inductive PX|lit (v:wG)|zO (o p:Nat)|made (k:Nat)|arith (op:vS) (l r:PX)
inductive PC|always|xJ (c:PC)|BS (FO:Bool) (l r:PC)|cmp (sign:vS) (l r:PX)|Fy (e:PX)|zK|BK (e:PX) (sign:vS) (Ak:Bool)
structure Aq where
 distinct:Bool
 yu:List (List (List wG))
 Ee:PC
 Nu:Bool
 keys:List Nat
 made:List (vS×PX)
 Fj:PC
 items:List PX
inductive PQ|yO (s:Aq)|Ai (l:PQ) (sign:vS) (r:PQ)
structure xE where
 row:List wG
 made:List wG
def MS(a m:Nat):Nat:=if a=0\/(m≠0/\m<a)then m else a
def xG(l:List Nat):Nat:=l.foldl MS 0
def Q7(w:Bool)(n:Int):wG×Nat:=if w then(.null,7)else(.int n,0)
def Pt:Int:= -9223372036854775808
def Im(op:vS)(a b:Int):wG×Nat:=
 if op= [43]then Q7 ((decide (a<wrap64 (a+b)) != decide (0<b))&&decide (b≠0)) (wrap64 (a+b))
 else if op= [45]then Q7 ((decide (wrap64 (a-b)<a) != decide (0<b))&&decide (b≠0)) (wrap64 (a-b))
 else if op= [42]then Q7 ((decide (a= -1)&&decide (b=Pt))||(decide (a≠0)&&decide (wrap64 ((wrap64 (a*b)).tdiv a)≠b))) (wrap64 (a*b))
 else if op= [47]then(if b=0 then(.null,8)else Q7 (decide (a=Pt)&&decide (b= -1)) (wrap64 (a.tdiv b)))
 else(if b=0 then(.null,8)else(.int (a.tmod b),0))
def Zbt(op:vS):wG×Nat->wG×Nat->wG×Nat
 |(.int a,e),(.int b,f)=>if xG [e,f]=0 then Im op a b else(.null,xG [e,f])
 |(_,e),(_,f)=>(.null,xG [e,f])
def BM:PX->List xE->Option (wG×Nat)
 | .lit v,_=>some (v,0)
 | .zO o p,fs=>(fs[o]?).bind λf=>(f.row[p]?).map λv=>(v,0)
 | .made k,fs=>(fs[0]?).bind λf=>(f.made[k]?).map λv=>(v,0)
 | .arith op l r,fs=>(BM l fs).bind λa=>(BM r fs).map λb=>Zbt op a b
def Zez(sign:vS)(o:Int):Bool:=
 if sign= [61]then decide (o=0)else if sign= [60,62]then decide (o≠0)else if sign= [60]then decide (o<0)else if sign= [60,61]then decide (o<=0)else if sign= [62]then decide (0<o)else decide (0<=o)
def PO(b:Bool):Nat:=if b then 2 else 0
def Ko(sign:vS)(a b:wG):Nat:=if a= .null\/b= .null then 1 else PO (Zez sign (G7 a b))
def LY(FO:Bool)(a b:Nat):Nat:=if FO then min a b else max a b
def DD:PC->List xE->Option (Nat×Nat)
 | .always,_=>some (2,0)
 | .xJ c,fs=>(DD c fs).map λt=>(2-t.1,t.2)
 | .BS b l r,fs=>(DD l fs).bind λx=>(DD r fs).map λy=>(LY b x.1 y.1,xG [x.2,y.2])
 | .cmp s l r,fs=>(BM l fs).bind λx=>(BM r fs).map λy=>(Ko s x.1 y.1,xG [x.2,y.2])
 | .Fy e,fs=>(BM e fs).map λx=>(PO (decide (x.1= .null)),x.2)
 | .zK,_=>none
 | .BK _ _ _,_=>none
structure Ix where
 wR:List wG:= []
 keys:List vS:= []
def Bh{α:Type} [DecidableEq α](l:List α)(x:α):List α:=if x∈l then l else l++ [x]
def Zap(n:Nat):vS:= [UInt8.ofNat n,UInt8.ofNat (n/256),UInt8.ofNat (n/65536),UInt8.ofNat (n/16777216)]
def EB(wR:List wG):List wG->Option vS
 | []=>some []
 |v::r=>(wR.idxOf? v).bind λn=>(EB wR r).map λk=>Zap n++k
def Ix.number(x:Ix)(row:List wG):Ix:=⟨row.foldl Bh x.wR,Bh x.keys ((EB (row.foldl Bh x.wR) row).getD [])⟩
def Ix.at_(x:Ix)(row:List wG):Option Nat:=(EB x.wR row).bind λk=>x.keys.idxOf? k
structure xk where
 ix:Ix:={}
 rows:List (List wG):= []
 times:List Nat:= []
def xk.add(b:xk)(row:List wG)(n:Nat):xk:=
 if n=0 then b else
  let ix:=b.ix.number row
  let k:=(ix.at_ row).getD 0
  if k=b.rows.length then⟨ix,b.rows++ [row],b.times++ [n]⟩else⟨ix,b.rows,b.times.modify k (·+n)⟩
def xk.new(rows:List (List wG)):xk:=rows.foldl (λb r=>b.add r 1) {}
def xk.count(b:xk)(row:List wG):Nat:=((b.ix.at_ row).bind λk=>b.times[k]?).getD 0
def EJ(sign:vS)(l r:Nat):Nat:=
 if sign= [117,110,105,111,110,32,97,108,108]then l+r
 else if sign= [105,110,116,101,114,115,101,99,116,32,97,108,108]then min l r
 else if sign= [101,120,99,101,112,116,32,97,108,108]then l-r
 else if sign= [117,110,105,111,110]then min (l+r) 1
 else if sign= [105,110,116,101,114,115,101,99,116]then min (min l r) 1
 else min l 1-r
def xk.put(sign:vS)(l r:xk):xk:=
 let a:=(l.rows.zip l.times).foldl (λb p=>b.add p.1 (EJ sign p.2 (r.count p.1))) {}
 (r.rows.zip r.times).foldl (λb p=>if l.count p.1=0 then b.add p.1 (EJ sign 0 p.2)else b) a
def Ep(yu:List (List (List wG))):List (List wG):=yu.foldl (λls rs=>ls.flatMap λl=>rs.map λr=>l++r) [[]]
def CR{α β:Type}(f:α->Option β):List α->Option (List β)
 | []=>some []
 |a::r=>(f a).bind λb=>(CR f r).map λl=>b::l
def DT{α:Type}:List α->List Nat->List α
 |a::r,t::ts=>if t=2 then a::DT r ts else DT r ts
 |_,_=> []
def Zkj(row:List wG)(ks:List Nat):Option (List wG):=CR (λk=>row[k]?) ks
def Y9(keys:List Nat):List xE->Ix->List (List xE)->Option (List (List xE))
 | [],_,gs=>some gs
 |f::r,ix,gs=>(Zkj f.row keys).bind λvs=>
  let ix':=ix.number vs
  let n:=(ix'.at_ vs).getD 0
  Y9 keys r ix' (if n=gs.length then gs++ [[f]]else gs.modify n (·++ [f]))
def Ot(vs:List wG):wG×Nat:=
 let n:=vs.foldl (λa v=>match v with| .int n=>a+n|_=>a) (0:Int)
 if Pt<=n/\n<=9223372036854775807 then(.int n,0)else(.null,7)
def Oi:List wG->wG
 | []=>.null
 |v::r=>r.foldl (λm x=>if G7 x m<0 then x else m) v
def Oh:List wG->wG
 | []=>.null
 |v::r=>r.foldl (λm x=>if 0<G7 x m then x else m) v
def Zbs(name:vS)(vs:List wG)(met:Nat):wG×Nat:=
 let vs:=vs.filter (λv=>decide (v≠.null))
 if met≠0\/(name≠ [99,111,117,110,116]/\vs= [])then(.null,met)
 else if name= [99,111,117,110,116]then(.int vs.length,0)
 else if name= [109,105,110]then(Oi vs,0)
 else if name= [109,97,120]then(Oh vs,0)
 else Ot vs
def zJ(s:Aq):List xE:=(Ep s.yu).map λr=>⟨r, []⟩
def QC:Nat->List (List wG×Nat)->Nat->List (List wG×Nat)
 |0,l,_=>l
 |n+1,l,j=>
  let i:=(j-1)/2
  if i=j\/j=0 then l else
  match l[i]?,l[j]? with
  |some a,some b=>if Ev b.1 a.1<0 then QC n ((l.set i b).set j a) i else l
  |_,_=>l
def NK:Nat->List (List wG×Nat)->Nat->Nat->List (List wG×Nat)
 |0,l,_,_=>l
 |fu+1,l,i,n=>
  let j1:=2*i+1
  if n<=j1 then l else
   let j:=match l[j1]?,l[j1+1]? with
    |some a,some b=>if j1+1<n/\Ev b.1 a.1<0 then j1+1 else j1
    |_,_=>j1
   match l[i]?,l[j]? with
   |some a,some b=>if Ev b.1 a.1<0 then NK fu ((l.set i b).set j a) j n else l
   |_,_=>l
def Zfo(l:List (List wG×Nat))(x:List wG×Nat):List (List wG×Nat):=QC (l.length+1) (l++ [x]) l.length
def EP{α:Type}(l:List α)(i j:Nat):List α:=match l[i]?,l[j]? with|some a,some b=>(l.set i b).set j a|_,_=>l
def heapPop(l:List (List wG×Nat)):Option ((List wG×Nat)×List (List wG×Nat)):=
 let n:=l.length-1
 let l:=NK (l.length+1) (EP l 0 n) 0 n
 (l.getLast?).map λx=>(x,l.dropLast)
def XN:Nat->List (List wG×Nat)->List (List wG)
 |0,_=> []
 |n+1,l=>match l with
  | []=> []
  |_=>match heapPop l with
   |some (x,r)=>List.replicate x.2 x.1++XN n r
   |none=> []
def zw(b:xk):List (List wG):=XN (b.rows.length+1) ((b.rows.zip b.times).foldl Zfo [])
def xe:wG->Value
 | .null=>.iface 140 (.agg #[])
 | .int n=>.iface 142 (.int .i64 n)
 | .text s=>.iface 82 (.string ⟨s.toArray⟩)
def ZqK(w):(Instr.typeAssert (.iface 140 (.agg #[])) 80 142 true).run prog w= .ok (.tuple #[.int .i64 0,.bool false]) w:=by kernel_rfl
def ZAY(w):(Instr.typeAssert (.iface 140 (.agg #[])) 80 82 true).run prog w= .ok (.tuple #[.string ⟨#[]⟩,.bool false]) w:=by kernel_rfl
def ZkD(n)(w):(Instr.typeAssert (.iface 142 (.int .i64 n)) 80 142 true).run prog w= .ok (.tuple #[.int .i64 n,.bool true]) w:=by kernel_rfl
def ZUt(n)(w):(Instr.typeAssert (.iface 142 (.int .i64 n)) 80 82 true).run prog w= .ok (.tuple #[.string ⟨#[]⟩,.bool false]) w:=by kernel_rfl
def ZqL(s:vS)(w):(Instr.typeAssert (.iface 82 (.string ⟨s.toArray⟩)) 80 142 true).run prog w= .ok (.tuple #[.int .i64 0,.bool false]) w:=by kernel_rfl
def ZAZ(s:vS)(w):(Instr.typeAssert (.iface 82 (.string ⟨s.toArray⟩)) 80 82 true).run prog w= .ok (.tuple #[.string ⟨s.toArray⟩,.bool true]) w:=by kernel_rfl
def ZyZ(v)(w):Calls prog 305 #[xe v] w λe w'=>e= .returned (.int .i64 (Zp2 v))/\w=w':=by
 have h1:=ZqK;have h2:=ZAY;have h3:=ZkD;have h4:=ZqL;have h5:=ZAZ;cases v with
 |null=>
  show Calls prog _ #[.iface 140 (.agg #[])] w _;exact jY
 |int n=>
  show Calls prog _ #[.iface 142 (.int .i64 n)] w _;exact jY
 |text s=>
  show Calls prog _ #[.iface 82 (.string ⟨s.toArray⟩)] w _;exact jY
def XV{k:IntKind}{a b:Int}(h:a=b):Ending.returned (.int k a)= .returned (.int k b):=by rw[h]
def Zc9{a b:Bool}(h:a=b):Ending.returned (.bool a)= .returned (.bool b):=by rw[h]
def ZY9{p:Prop}(h:p:=by
 go_wp2;all_goals
  go_ret;refine⟨XV ?_,rfl⟩;unfold ZbC;first|rw[nY aP]|(rw[nU Z];first|rw[nY aP]|rw[nU Z])):p:=h
def ZPv(a b)(w):Calls prog 302 #[.int .i64 a,.int .i64 b] w λe w'=>e= .returned (.int .i64 (ZbC a b))/\w=w':=by
 go_enter func302,ntmps302;exact ZY9
def ZPu(a b)(w):Calls prog 304 #[.int .i64 a,.int .i64 b] w λe w'=>e= .returned (.int .i64 (ZbC a b))/\w=w':=by
 go_enter func304,ntmps304;exact ZY9
def ZPw(a b)(w):Calls prog 303 #[.string ⟨a.toArray⟩,.string ⟨b.toArray⟩] w λe w'=>e= .returned (.int .i64 (Zmo a b))/\w=w':=by
 go_enter func303,ntmps303;go_wp2;all_goals
  go_ret;refine⟨XV ?_,rfl⟩;unfold Zmo;simp_all
def Zj7(a b)(w):Calls prog 252 #[xe a,xe b] w λe w'=>e= .returned (.int .i64 (G7 a b))/\w=w':=by
 have h1:=ZqK;have h2:=ZAY;have h3:=ZkD;have h4:=ZqL;have h5:=ZAZ;have h6:=ZUt;have U1:=λw=>ZyZ a w;have U2:=λw=>ZyZ b w;cases a<;>cases b<;>simp only[xe]at U1 U2 ⊢;all_goals
  go_enter func252,ntmps252;go_wp2_with fail
 all_goals first
  |(refine(ZPv _ _ _).mono ?_;rintro e w' ⟨rfl,rfl⟩;go_wp2;go_ret;exact⟨rfl,rfl⟩)
  |(refine(ZPw _ _ _).mono ?_;rintro e w' ⟨rfl,rfl⟩;go_wp2;go_ret;exact⟨rfl,rfl⟩)
  |(refine(U1 _).mono ?_;rintro e w' ⟨rfl,rfl⟩;go_wp2_with fail;refine(U2 _).mono ?_;rintro e w' ⟨rfl,rfl⟩;go_wp2_with fail;refine(ZPu _ _ _).mono ?_;rintro e w' ⟨rfl,rfl⟩;go_wp2;go_ret;exact⟨rfl,rfl⟩)
def xD(W:World)(v:Value)(vs:List wG):Prop:=
 ∃a cap,v= .slice a vs.length cap/\vs.length<=cap/\cap<=maxLen/\∀i (h:i<vs.length),∃g o cu,a=some ⟨g,o,none⟩/\W.heap[g]? =some (.cells cu 80)/\W.cell? ⟨g,o+i,none⟩=some (xe vs[i])
def ZPx(x y)(a b)(w)(ha:xD w x a)(hb:xD w y b)(hla:a.length<=1000)(O8:b.length<=1000):Calls prog 467 #[x,y,.func (.func 252) #[] #[]] w λe w'=>e= .returned (.int .i64 (Ev a b))/\w=w':=by
 obtain⟨xa,xc,rfl,hxc,hxm,hx⟩:=ha;obtain⟨ya,yc,rfl,hyc,hym,hy⟩:=hb;go_enter func467,ntmps467;go_wp2_with fail;go_loop [13] (λi=>∃k:Nat,k<=a.length/\i= .int .i64 k/\Hid (k<=b.length/\Ev a b=Ev (a.drop k) (b.drop k))) (λi=>a.length-(intOf i).toNat);case atStart=>exact⟨0,pI _,rfl,pI _,rfl⟩
 case round=>
  obtain⟨k,hk,rfl,hr⟩:=hrel;by_cases hka:k<a.length
  ·obtain⟨g,o,cu,rfl,_,hc⟩:=hx k hka;by_cases hkb:k<b.length
   ·obtain⟨g2,o2,EZ,rfl,_,Aa⟩:=hy k hkb;have HC:Hid (Ev a b=if G7 a[k] b[k]=0 then Ev (a.drop (k+1)) (b.drop (k+1))else G7 a[k] b[k]):=by
     show _=_;rw[hr.out.2,pM hka,pM hkb,Ev]
    clear hx hy;generalize a[k]=va at *;generalize b[k]=vb at *;have LJ:=λw=>Zj7 va vb w;obtain⟨n1,y1,yB⟩:∃n y,xe va= .iface n y:=by cases va<;>exact⟨_,_,rfl⟩
    obtain⟨n2,y2,Fx⟩:∃n y,xe vb= .iface n y:=by cases vb<;>exact⟨_,_,rfl⟩
    rw[yB]at hc LJ;rw[Fx]at Aa LJ;generalize G7 va vb=cv at *;go_wp2_with fail;refine(LJ _).mono ?_;rintro e w' ⟨rfl,rfl⟩;by_cases h0:cv=0
    ·subst h0;go_wp2_with fail;exact⟨⟨k+1,Z,ak,⟨Z,by simpa using HC.out⟩⟩,bE⟩
    ·have h0':(cv==0)=false:=by simpa using h0
     go_wp2_with fail;go_ret;exact⟨XV (HC.out.trans (nU h0)).symm,rfl⟩
   ·have HC:Hid (Ev a b=1):=by
     show _=_;have zi:=hr.out.1;rw[hr.out.2,pM hka,qM (by omega:b.length<=k),Ev]
    go_wp2_with fail;go_ret;exact⟨XV HC.out.symm,rfl⟩
  ·have ZXk:k=a.length:=by omega
   have zi:=hr.out.1;have HC:Hid (Ev a b=if a.length<b.length then -1 else 0):=by
    show _=_;rw[hr.out.2,qM (by omega:a.length<=k)];by_cases hl:a.length<b.length
    ·rw[nY hl,pM (by omega:k<b.length),Ev]
    ·rw[nU hl,qM (by omega:b.length<=k),Ev]
   go_wp2_with fail;all_goals
    go_ret;refine⟨XV ?_,rfl⟩;rw[HC.out];first|rw[nY aP]|rw[nU aP]
def ZPy(x y)(a b)(w)(ha:xD w x a)(hb:xD w y b)(hla:a.length<=1000)(O8:b.length<=1000):Calls prog 466 #[x,y] w λe w'=>e= .returned (.int .i64 (Ev a b))/\w=w':=by
 have h:=ZPx x y a b w ha hb hla O8;obtain⟨xa,xc,rfl,hxc,hxm,hx⟩:=ha;obtain⟨ya,yc,rfl,hyc,hym,hy⟩:=hb;have BD:∀(fn:Fn) (first cap:Array Value) (w:World),(Instr.makeFunc fn first cap).run prog w= .ok (.func fn first cap) w:=λ_ _ _ _=>rfl;clear hx hy;go_enter func466,ntmps466;go_wp2_with fail;refine h.mono ?_;exact mG
def ZR2(P:Program)(l:Nat)(R:Ending->World->Prop):Exit->Act->World->Prop
 | .normal,_,w=>∃v w',(Instr.endRound l none).run P w= .ok v w'/\R (.returned v) w'
 | .panic ch,a,w=>a.defers= []/\R (.panicked ch) w
 |_,_,_=>False
def ZR1{F:Fence}{n:Nat}{P:Program}{l:Nat}{f:FuncId}{w:World}{R}(hF:F.fn f)(Bo:P.funcs[f]? =some fn)(h:assign.wpIn (F.inRound l) n P (Exit.then (λa₁ w₁=>∃w₂,(Instr.beginRound l).run P w₁= .ok () w₂/\body.wpIn (F.inRound l) n P (ZR2 P l R) a₁ w₂) (λ_ _ _=>False))
   {tmps:=tmps,defers:= []} w):
  RoundIn F n P l f tmps assign body w R:=by
 refine⟨hF,λc cs hr=>?_⟩;let b:Frame:={(default:Frame)with fn:=f,kind:=.normal,roundOf:=some l}
 have Bj:Frame.round l f tmps assign body .normal=b.atR {tmps:=tmps,defers:= []} [.code assign,.beginRound,.code body]:=by
  simp[Frame.round,Frame.atR,b]
 have Dw:(F.inRound l).room ((c::cs).length+1+n):=hr;have hF':(F.inRound l).fn b.fn:=hF;obtain⟨e,a₁,w₁,hq,harr⟩:=h b [.beginRound,.code body] (c::cs) rfl hF' Dw;rw[<-Bj]at harr;cases e with
 |normal=>
  obtain⟨w₂,hbr,hbody⟩:=hq;have s1:=StepsIn.one (I:=Machine.fenced P (F.inRound l)) (fenced_calm (fr:=b.atR a₁ [.beginRound,.code body]) hF' Dw rfl) (stepR_beginRound (cs:=c::cs) rfl hbr);obtain⟨e₂,a₂,w₃,hq₂,harr₂⟩:=hbody b [] (c::cs) rfl hF' Dw;cases e₂ with
  |normal=>
   obtain⟨v,w₄,ZN,hR⟩:=hq₂;exact⟨.returned v,w₄,hR,(qY harr s1).trans (qY harr₂ (.one (fenced_calm (fr:=b.atR a₂ []) hF' Dw rfl) (stepR_round_end rfl rfl ZN)))⟩
  |panic ch=>
   obtain⟨hd,hR⟩:=hq₂;obtain⟨todo,hs⟩:=harr₂;have hl:({b.atR a₂ todo with mode:=.panicking ch}:Frame).leaving P w₃ (.panicked ch):=⟨rfl,hd,fn,Bo⟩;have i1:(lone {b.atR a₂ todo with mode:=.panicking ch} (c::cs) w₃).fenced P (F.inRound l):=fenced_leaving (n:=n) hF' Dw hl;exact⟨.panicked ch,w₃,hR,(qY harr s1).trans (qY hs (.one i1 (step_leave_panicked hl)))⟩
  |ret=>exact hq₂.elim
  |exit id=>exact hq₂.elim
  |goto t=>exact hq₂.elim
  |outgrown=>exact hq₂.elim
 |exit id=>exact hq.elim
 |goto t=>exact hq.elim
 |ret=>exact hq.elim
 |panic chain=>exact hq.elim
 |outgrown=>exact hq.elim
def Js(bf:FuncId)(P:Program)(c:Code)(Q:Exit->Act->World->Prop)(a:Act)(w:World):Prop:=
 ∀(b:Frame) (k:List Item) (cs:List Frame),b.roundOf=none->b.fn=bf->
  ∃e a' w',Q e a' w'/\ArrivesIn (Machine.fenced P Fence.wide) P (lone (b.atR a (.code c::k)) cs w) b k cs e a' w'
section
variable {bf:FuncId} {P:Program} {Q:Exit->Act->World->Prop} {a:Act} {w:World}
def Zdk(m):Fence.wide.room m:=by intro d hd;cases hd
def AJ{c:Code}(h:c.wp P Q a w):Js bf P c Q a w:=λb k cs JJ _=>(wpIn_wide (n:=0)).2 h b k cs JJ trivial (Zdk _)
def Ag{x y}(h:Js bf P x (Exit.then (Js bf P y Q) Q) a w):Js bf P (Code.seq x y) Q a w:=by
 intro b k cs JJ hb;have h0:(lone (b.atR a (.code (.seq x y)::k)) cs w).fenced P Fence.wide:=fenced_calm (n:=0) trivial (Zdk _) rfl;obtain⟨e,a₁,w₁,hq,harr⟩:=h b (.code y::k) cs JJ hb;cases e with
 |normal=>
  obtain⟨e₂,a₂,w₂,hq₂,harr₂⟩:=hq b k cs JJ hb;exact⟨e₂,a₂,w₂,hq₂,.of_steps (.head h0 stepR_seq harr) harr₂⟩
 |exit id=>exact jH
 |goto l=>exact jH
 |ret=>exact jH
 |panic ch=>exact jH
 |outgrown=>exact jH
def PD(fn:FuncId)(tmps:Array Value)(ps:Array Tmp)(assign body:Code)(D:Nat)(st:LoopState):Loop:={state:=st,pending:=none,fn:=fn,tmps:=tmps,params:=ps,assign:=assign,body:=body,defers:=D}
def Dz(w:World)(fn:FuncId)(tmps:Array Value)(ps:Array Tmp)(assign body:Code):World:=(w.alloc (.deferred (some []))).alloc (.loop (PD fn tmps ps assign body w.heap.size .ready))
def ZgX{g:Operand}{ps}{gf:FuncId}{lb:Array Value}(hg:a.eval g= .func (.func gf) #[] lb)(eg:∀(args:Array Value) (w:World),(callFunc gf args).run P w= .ok (.enter gf args) w)(h:Calls P gf (#[.func (.yield (w.heap.size+1)) #[] #[]]++lb) (Dz w bf a.tmps ps assign body) λe w3=>
   match e with
   | .returned _=>w3.heap[w.heap.size+1]? =some (.loop (PD bf a.tmps ps assign body w.heap.size .ready))/\
    Q .normal {a with defers:={target:=.collected w.heap.size,args:=#[]}::a.defers} (w3.putObj (w.heap.size+1) (.loop (PD bf a.tmps ps assign body w.heap.size .exhausted)))
   | .panicked ch=>Q (.panic ch) {a with defers:={target:=.collected w.heap.size,args:=#[]}::a.defers} w3
   | .outgrown=>LetsOut Q):
  Js bf P (Code.rangeFunc g ps assign body) Q a w:=by
 intro b k cs JJ hb;subst hb;obtain⟨_,BC⟩:=(qK (n:=0)).2 h;have he:(Instr.enterLoop b.fn a.tmps ps assign body b.roundOf).run P w= .ok (w.heap.size+1, [{target:=.collected w.heap.size,args:=#[]}]) (Dz w b.fn a.tmps ps assign body):=by
  rw[JJ];exact run_enterLoop_outer _ _ _ _ _
 have xz:(resolve a.eval (rangeCall g (w.heap.size+1)) 0).run P (Dz w b.fn a.tmps ps assign body)= .ok {target:=.fn (.func gf) lb,args:=#[.func (.yield (w.heap.size+1)) #[] #[]]} (Dz w b.fn a.tmps ps assign body):=by
  simp only[resolve,hg];simp[go_sem]
 have hinv:(invoke (.fn (.func gf) lb) #[.func (.yield (w.heap.size+1)) #[] #[]]).run P (Dz w b.fn a.tmps ps assign body)= .ok (.enter gf (#[.func (.yield (w.heap.size+1)) #[] #[]]++lb)) (Dz w b.fn a.tmps ps assign body):=by
  simp[invoke,go_sem,eg]
 have Zfr:=stepR_rangeFunc (P:=P) (b:=b) (a:=a) (k:=k) (cs:=cs) (w:=w) he xz hinv;obtain⟨e,w₃,fr,hR,hsteps,Bo,hleave⟩:=BC (b.atR {a with defers:= [{target:=.collected w.heap.size,args:=#[]}]++a.defers} (.inRangeFunc (w.heap.size+1)::k)::cs) (Zdk _);cases e with
 |outgrown=>
  obtain⟨a₀,w₀,hq⟩:=hR;exact⟨.outgrown,a₀,w₀,hq,.inr (Outgrown.of_steps (.one Zfr) hsteps)⟩
 |returned v=>
  obtain⟨hl,hQ⟩:=hR;have ZN:=run_endLoop (P:=P) hl (by simp[PD]);refine⟨.normal,_,_,hQ,?_⟩;refine .head (fenced_wide _ _) Zfr (qY hsteps (.head (fenced_wide _ _) ?_ (.one (fenced_wide _ _) (stepR_endRangeFunc ZN))));rw[<-finish_atR_inRangeFunc (w.heap.size+1) v];exact step_leave_returned hleave
 |panicked chain=>
  refine⟨.panic chain,_,w₃,hR,.inRangeFunc (w.heap.size+1)::k,.head (fenced_wide _ _) Zfr (qY hsteps (.one (fenced_wide _ _) ?_))⟩;rw[<-Frame.raise_atR];exact step_leave_panicked hleave
def WE{f:FuncId}{c:Code}{R:Ending->World->Prop}(hf:P.funcs[f]? =some fn)(hb:fn.body=some c)(h:Js f P c (bodyPostM Fence.wide 0 P fn R) {tmps:=args++Array.replicate (fn.ntmps-args.size) undef,defers:= []} w):Calls P f args w R:=by
 refine(qK (n:=0)).1 ⟨trivial,λcs hr=>?_⟩;let b:Frame:={(default:Frame)with fn:=f,kind:=.normal,roundOf:=none}
 have Zfr:Frame.enter P f args .normal=b.atR {tmps:=args++Array.replicate (fn.ntmps-args.size) undef,defers:= []} [.code c]:=by
  simp[Frame.enter,Frame.atR,hf,hb,b]
 obtain⟨e,a',w',hq,harr⟩:=h b [] cs rfl rfl;rw[<-Zfr]at harr;cases e with
 |normal=>
  obtain⟨e',GU,fr',hR,hs,Bo,hl⟩:=leaves_stepsInM a'.defers .returning w' {b.atR a' []with mode:=.returning} cs rfl rfl rfl hf rfl trivial hr hq;exact⟨e',GU,fr',hR,ComesIn.of_steps (qY harr (.one (fenced_wide _ _) (stepR_end rfl))) hs,Bo,hl⟩
 |ret=>
  obtain⟨todo,hs₀⟩:=harr.1 rfl;obtain⟨e',GU,fr',hR,hs,Bo,hl⟩:=leaves_stepsInM a'.defers .returning w' {b.atR a' todo with mode:=.returning} cs rfl rfl rfl hf rfl trivial hr hq;exact jK
 |panic chain=>
  obtain⟨todo,hs₀⟩:=harr;obtain⟨e',GU,fr',hR,hs,Bo,hl⟩:=leaves_stepsInM a'.defers (.panicking chain) w' {b.atR a' todo with mode:=.panicking chain} cs rfl rfl rfl hf rfl trivial hr hq;exact jK
 |exit id=>exact hq.elim
 |goto l=>exact hq.elim
 |outgrown=>exact⟨.outgrown,w',b,hq,harr.resolve_left (by simp[b]),rfl,trivial⟩
end
def Vk:Op->Bool
 | .defer _=>false
 |_=>true
def ZyT{o:Op}(h:Vk o=true):∀c,o≠.defer c:=by
 intro c e;subst e;cases h
section
variable {P:Program} {l n:Nat} {Q:Exit->Act->World->Prop} {ops:Array Oper} {md:Region.Mode}
def Zy5{o:Oper}{a:Act}{w:World}(hd:Vk o.op=true)(h:o.wp P a w K Q):o.wpIn (Fence.wide.inRound l) n P a w K Q:=by
 refine⟨λf _=>trivial,?_⟩;rw[Oper.semAt_eq _ _ _ (ZyT hd)];unfold Oper.wp at h;generalize (execOp a.eval o).run P w=r at *;cases r with
 |ok nx w'=>
  cases nx with
  |value v=>exact h
  |skip=>exact h
  |defer d=>exact h
  |enter f args=>exact⟨λhx=>(by cases hx),(qK (n:=n-1)).2 h⟩
  |row row args=>
   refine⟨λhx=>(by cases hx),λc cs _=>?_⟩;obtain⟨v,GU,r,s⟩:=h c cs;exact⟨v,GU,r,stepsIn_wide.2 s⟩
  |_=>exact h.elim
 |halt x w'=>
  cases x with
  |panic v=>exact h
  |_=>exact h.elim
def ZUV{i:Nat}{a:Act}{w:World}{K':Act->World->Prop}(UX:ops.all (λo=>Vk o.op)=true)(hQ:¬LetsOut Q)(hK:∀a w,K a w->K' a w)(h:wpOp P ops Q i K a w):wpOpIn (Fence.wide.inRound l) n P ops Q i K' a w:=by
 unfold wpOp at h;unfold wpOpIn;cases ho:ops[i]? with
 |none=>rw[ho]at h;exact hK _ _ h
 |some o=>
  rw[ho]at h;simp only at h ⊢;have hd:Vk o.op=true:=by
   obtain⟨hi,e⟩:=oz.1 ho;have:=(Array.all_eq_true.1 UX) i hi;rw[e]at this;exact this
  split at h
  ·rename_i hw;rw[nY hw];rcases h with h|h
   ·exact Zy5 hd (Oper.wp_mono hK h)
   ·exact absurd h.2 hQ
  ·rename_i hw;rw[nU hw];exact⟨λf _=>trivial,hK _ _ h⟩
theorem ZBc(UX:ops.all (λo=>Vk o.op)=true)(hQ:¬LetsOut Q):∀fuel listed a w,wpAny P md ops Q fuel listed a w->wpAnyIn (Fence.wide.inRound l) n P md ops Q fuel listed a w
 |0,_,_,_,h=>h
 |fuel+1,listed,a,w,h=>⟨h.1,λi hi=>ZUV UX hQ (λa w=>ZBc UX hQ fuel _ a w) (h.2 i hi)⟩
def XW{a:Act}{w:World}(hm:P.follows .mixedOrders=true)(UX:ops.all (λo=>Vk o.op)=true)(hQ:¬LetsOut Q)(hS:S w.drew)(h:S w.drew->wpAnyH P .any ops Q S ops.size (Array.replicate ops.size false) a w.drew):(Code.region id ops true).wpIn (Fence.wide.inRound l) n P Q a w:=
 wpIn_region_any hm (ZBc UX hQ _ _ _ _ (wpAny_of_held _ _ _ _ (h hS)))
theorem ZqU(hQ:¬LetsOut Q):∀os a w,os.all (λo=>Vk o.op)=true->wpList P ops Q os a w->wpListIn (Fence.wide.inRound l) n P ops Q os a w
 | [],_,_,_,h=>h
 |o::rest,a,w,hd,h=>by
  rw[List.all_cons,oJ]at hd;unfold wpList at h;unfold wpListIn;split at h
  ·rename_i hw;rw[nY hw];rcases h with h|h
   ·exact Zy5 hd.1 (Oper.wp_mono (λa w=>ZqU hQ rest a w hd.2) h)
   ·exact absurd h.2 hQ
  ·rename_i hw;rw[nU hw];exact⟨λf _=>trivial,ZqU hQ rest _ _ hd.2 h⟩
def Ie{os:List Oper}{a:Act}{w:World}(UX:os.all (λo=>Vk o.op)=true)(hQ:¬LetsOut Q)(h:wpList P os.toArray Q os a w):(Code.region id os.toArray false).wpIn (Fence.wide.inRound l) n P Q a w:=
 wpIn_region_lit (ZqU hQ _ _ _ UX h)
def VM{a}{w}{c}(h:Js bf P c (Exit.inBlock id Q) a w):Js bf P (Code.block id c) Q a w:=by
 intro b k cs JJ hb;have h0:(lone (b.atR a (.code (.block id c)::k)) cs w).fenced P Fence.wide:=fenced_calm (n:=0) trivial (Zdk _) rfl;obtain⟨e,a₁,w₁,hq,harr⟩:=h b (.inBlock id::k) cs JJ hb;cases e with
 |normal=>exact⟨.normal,a₁,w₁,hq,.head h0 stepR_block (qY harr (.one (fenced_calm (n:=0) trivial (Zdk _) rfl) stepR_inBlock))⟩
 |exit id'=>
  by_cases vR:id'=id
  ·simp only[Exit.inBlock,vR,pX]at hq;exact⟨.normal,a₁,w₁,hq,.head h0 stepR_block (harr.1 k (by simp[exitTo,vR]))⟩
  ·simp only[Exit.inBlock,vR,qE]at hq;have this:(id==id')=false:=by simp;exact λh=>vR h.symm
   have hx:exitTo id' (.inBlock id::k)=exitTo id' k:=by simp[exitTo,this]
   exact⟨.exit id',a₁,w₁,hq,λk' hk=>.head h0 stepR_block (harr.1 k' dK),
    λDw hk=>let⟨k₁,h1,h2⟩:=harr.2 Dw dK;⟨k₁,h1,.head h0 stepR_block h2⟩⟩
 |goto l=>
  have hx:gotoIn l (.inBlock id::k)=gotoIn l k:=by simp[gotoIn]
  exact⟨_,a₁,w₁,hq,λk' hk=>.head h0 stepR_block (harr.1 k' dK),
   λDw hk=>let⟨k₁,h1,h2⟩:=harr.2 Dw dK;⟨k₁,h1,.head h0 stepR_block h2⟩⟩
 |ret=>exact jG
 |panic ch=>exact jG
 |outgrown=>exact jG
end
def heap_drewN(A:World)(n):(A.drewN n).heap=A.heap:=by
 simp
def Rc{w:World}{ps}{b:Nat}(h:b<w.heap.size):(Dz w bf tmps ps assign body).heap[b]? =w.heap[b]? :=
 (ow _ _ b ah).trans (ow _ _ b h)
def Zgv(w)(bf)(tmps)(ps)(assign body):(Dz w bf tmps ps assign body).heap[w.heap.size]? =some (.deferred (some [])):=
 (ow _ _ w.heap.size ae).trans (oK w _)
def Zgw(w)(bf)(tmps)(ps)(assign body):(Dz w bf tmps ps assign body).heap[w.heap.size+1]? =some (.loop (PD bf tmps ps assign body w.heap.size .ready)):=by
 have:=oK (w.alloc (.deferred (some []))) (.loop (PD bf tmps ps assign body w.heap.size .ready));exact ni
def Zaq{P:Program}{R:Ending->World->Prop}{D:Nat}{w:World}{v:Value}(hD:w.heap[D]? =some (.deferred (some [])))(xz:(results fn tmps).run P (w.putObj D (.deferred none))= .ok v (w.putObj D (.deferred none)))(hR:R (.returned v) (w.putObj D (.deferred none))):
  bodyPostM Fence.wide 0 P fn R .normal {tmps:=tmps,defers:= [{target:=.collected D,args:=#[]}]} w:=by
 show LeavesInM Fence.wide 0 P fn tmps R [{target:=.collected D,args:=#[]}] .returning w;unfold LeavesInM;refine⟨ae,.inl ⟨D,_,rfl,run_takeDeferred hD,?_⟩⟩;unfold LeavesInM LeavesIn;exact⟨v,xz,hR⟩
structure FM (l:Nat) (A A':World):Prop where
 os:A'.os=A.os
 tape:A'.tape=A.tape
 output:A'.output=A.output
 size:A'.heap.size=A.heap.size
 block:∀b,b≠l->A'.heap[b]? =A.heap[b]?
def FM.put(l)(A)(o):FM l A (A.putObj l o):=⟨rfl,rfl,rfl,eZ,λb hb=>pF hb⟩
def Zem(l D:Nat)(rb:Loop)(J:World->Prop)(Jp:List PanicEntry->World->Prop):Exit->Act->World->Prop
 | .normal,_,w=>w.heap[l]? =some (.loop rb)/\w.heap[D]? =some (.deferred (some []))/\∀A',FM l w A'->J A'
 | .panic ch,a,w=>a.defers= []/\Jp ch w
 |_,_,_=>False
def Zg1{P:Program}{l D n:Nat}{r:Loop}{w:World}{J}{Jp}(hL:w.heap[l]? =some (.loop r))(hD:w.heap[D]? =some (.deferred (some [])))(hlD:D≠l)(hs:args.size=r.params.size)(hr:r.state= .ready)(hp:r.pending=none)(Bo:P.funcs[r.fn]? =some fn)(h:∀rb A2,FM l w A2->A2.heap[l]? =some (.loop rb)->A2.heap[D]? =some (.deferred (some []))->r.assign.wpIn (Fence.wide.inRound l) n P (Exit.then (λa₁ w₁=>w₁=w/\r.body.wpIn (Fence.wide.inRound l) n P (Zem l D rb J Jp) a₁ A2) (λ_ _ _=>False)) {tmps:=(r.params.zip args).foldl (λtmps (t,a)=>tmps.setIfInBounds t a) r.tmps,defers:= []} w):
  YieldAt Fence.wide n P l args w λe W'=>(e= .returned (.bool true)/\J W'/\W'.heap[l]? =some (.loop r)/\W'.heap[D]? =some (.deferred (some [])))\/(∃ch,e= .panicked ch/\Jp ch W'):=by
 refine⟨r.fn,_,r.assign,r.body,run_yield hL hs,ZR1 trivial Bo ?_⟩;have hl:=(wo hL);refine Code.wpIn_mono ?_ (h {r with state:=.busy} (w.putObj l (.loop {r with state:=.busy})) (FM.put ..) (World.putObj_heap_same hl) ((pF hlD).trans hD));intro e a1 w1 hq;cases e with
 |normal=>
  obtain⟨rfl,hb⟩:=hq;refine⟨_,run_beginRound hL hr,Code.wpIn_mono ?_ hb⟩;intro e a2 w2 LK;cases e with
  |normal=>
   obtain⟨h1,h2,h3⟩:=LK;have hlt:=(wo h1);refine⟨_,_,run_endRound none h1,.inl ⟨rfl,h3 _ (FM.put ..),?_,?_⟩⟩
   ·rw[World.putObj_heap_same hlt];cases r;simp only at hr hp;subst hr;subst hp;rfl
   ·rw[pF hlD];exact h2
  |panic ch=>exact⟨LK.1,.inr ⟨ch,rfl,LK.2⟩⟩
  |_=>exact LK.elim
 |_=>exact hq.elim
def tk{P:Program}{ops:Array Oper}{Q:Exit->Act->World->Prop}{md:Region.Mode}(i:Nat){oi:Oper}{v:Value}{fuel:Nat}{listed l':Array Bool}{a a':Act}{w:World}(h:wpAnyH P md ops Q S fuel l' a' w)(hi:ops[i]? =some oi:=by rfl)(hs:Region.noSelect ops=true:=by kernel_rfl)(hf:Region.free md ops listed i=true:=by kernel_rfl)(hr:(Region.ready md ops listed).contains i=true:=by kernel_rfl)(hQ:∀c a w,Q (.panic c) (a.put oi.dst v) w->Q (.panic c) a w:=by exact λ_ _ _ h=>h)(hw:Region.wanted oi (yielded ops a.tmps)=true:=by rfl)(hy:∀w,S w->(execOp a.eval oi).run P w= .ok (.value v) w:=by intro w Zz;(try dsimp only at Zz);go_simp<;>with_reducible rfl)(hS:S w:=by assumption)(hl:listed.setIfInBounds i true=l':=by(try simp only[pz,List.set_cons_zero,List.set_cons_succ]);try rfl)(ha:a.put oi.dst v=a':=by(try simp only[Act.put,pz,List.set_cons_zero,List.set_cons_succ,List.getElem_toArray,List.getElem_cons_zero,List.getElem_cons_succ]);try rfl):
  wpAnyH P md ops Q S (fuel+1) listed a w:=by
 subst hl ha;exact wpAnyH_take hi hs hf hr hQ (.inl ⟨hw,hy⟩) hS h
def I9(cur:vS):vS->List vS
 | []=> [cur]
 |c::r=>if c=10 then cur::I9 [] r else I9 (cur++ [c]) r
def EW(s:vS):List vS:=I9 [] s
def ZEP(cur)(r:vS):I9 cur (10::r)=cur::I9 [] r:=by rw[I9];rfl
def Zs0(cur)(c)(r:vS)(h:c≠10):I9 cur (c::r)=I9 (cur++ [c]) r:=by rw[I9,nU h]
def ZEN(s):∀cur,(I9 cur s).length<=s.length+1:=by
 induction s with
 |nil=>intro cur;simp[I9]
 |cons c r ih=>
  intro cur;rw[I9];have h1:=ih [];have h2:=ih (cur++ [c]);split<;>simp<;>omega
def ZE0(m):∀l,l.length<=m->∀acc n,(GZ acc n l).2<=n+l.length:=by
 induction m with
 |zero=>
  intro l hl acc n;obtain rfl:l= []:=by cases l<;>simp_all
  rw[ZhN];simp
 |succ m ih=>
  intro l hl acc n;cases l with
  |nil=>rw[ZhN];simp
  |cons c r=>
   simp only[List.length_cons]at hl ⊢;by_cases h1:c=10
   ·subst h1;rw[Zs5];simp
   ·by_cases h2:c=39
    ·subst h2;by_cases h3:∃r',r=39::r'
     ·obtain⟨r',rfl⟩:=h3;rw[Zs7];simp only[List.length_cons]at hl ⊢;have:=ih r' Z (acc++ [39]) (n+2);omega
     ·rw[Zs4 _ _ _ (λr' e=>h3 ⟨r',e⟩)];simp<;>omega
    ·rw[Zs6 _ _ _ _ h1 h2];have:=ih r Z (acc++ [c]) (n+1);omega
def Zl6(c)(r:vS):(EX (c::r)).2<=(c::r).length:=by
 have:=ZE0 r.length r (nV _) [] 1;unfold EX;simp only[List.drop_succ_cons,List.drop_zero,List.length_cons];omega
def ZlZ(_:Value):Option (DataW Unit×List MemPlace):=some (.agg [], [])
def AB(s:vS):Lit:=.string s
def Oa(ks:List vS):DataW Unit:=Maps.setOf (.agg []) (ks.map AB)
def IL(w:World)(b n:Nat)(ks:List vS):Prop:=w.ownsMap prog 9 ZlZ b n (Oa ks)
def K8:Maps.Keyed prog 9:=Maps.string_keyed underlying9
def K7(s)(h:s.length<=100000):keyOf prog 9 (.string ⟨s.toArray⟩)=some (AB s):=
 WideMaps.keyOf_string_mk underlying9 (by rw[Wv];unfold maxLen;omega)
def Zyi(ks:List vS):∀x∈ks.map AB,WideAt.IsKeyLit x:=by
 intro x hx;obtain⟨s,_,rfl⟩:=qm.1 hx;trivial
def ZnH(ks)(s):Maps.has (Oa ks) (AB s)=ks.contains s:=by
 unfold Oa;rw[Maps.has_setOf _ _ _ (Zyi ks),List.any_map,uy];congr 1;funext x;show(x==s)=(s==x);exact mY
def Zaz(ks)(s):(Oa ks).put (AB s) (.agg [])=Oa (ks++ [s]):=by
 unfold Oa;rw[oo,oq,oF,Maps.setOf_snoc]
def Qe(acc:List vS)(x:vS):List vS:=if acc.contains x then acc else acc++ [x]
def WL(ks:List vS):List vS:=ks.foldl Qe []
def ZDF(acc)(x):Maps.addKey (acc.map AB) (AB x)=(Qe acc x).map AB:=by
 unfold Maps.addKey Qe;have:(acc.map AB).any (λy=>y.sameKey (AB x))=acc.contains x:=by
  rw[List.any_map,uy];congr 1;funext y;show(y==x)=(x==y);exact mY
 rw[this];split<;>simp
def fold_map(ks:List vS):∀acc,(ks.map AB).foldl Maps.addKey (acc.map AB)=(ks.foldl Qe acc).map AB:=by
 induction ks with
 |nil=>intro acc;rfl
 |cons k r ih=>intro acc;rw[oq,List.foldl_cons,List.foldl_cons,ZDF,ih]
def ZAg(ks):Maps.size (Oa ks)=(WL ks).length:=by
 unfold Oa WL;rw[Maps.size_setOf _ _ (Zyi ks)];have:=fold_map ks [];rw[oF]at this;rw[this,pY]
def Zt2(ks:List vS):∀acc,(ks.foldl Qe acc).length<=acc.length+ks.length/\((ks.foldl Qe acc).length=acc.length+ks.length↔(∀k∈ks,acc.contains k=false)/\ks.Nodup):=by
 induction ks with
 |nil=>intro acc;simp
 |cons k r ih=>
  intro acc;rw[List.foldl_cons];have h:=ih (Qe acc k);by_cases hk:acc.contains k=true
  ·have e:Qe acc k=acc:=by unfold Qe;rw[nY hk]
   rw[e]at h ⊢;refine⟨ah,⟨λhl=>by simp at hl;omega,λ⟨h1,_⟩=>?_⟩⟩;have:=h1 k ae;rw[hk]at this;cases this
  ·have e:Qe acc k=acc++ [k]:=by unfold Qe;rw[nU hk]
   rw[e]at h ⊢;simp only[o6,List.length_cons,List.length_nil]at h ⊢;refine⟨Z,?_⟩;rw[show acc.length+(r.length+1)=acc.length+(0+1)+r.length from Z,h.2,sK];constructor
   ·rintro⟨h1,h2⟩;refine⟨?_,?_,h2⟩
    ·intro x hx;rcases oQ.1 hx with rfl|hx
     ·simpa using hk
     ·have:=h1 x hx;simp at this ⊢;exact this.1
    ·intro hm;have:=h1 k hm;simp at this
   ·rintro⟨h1,h2,h3⟩;refine⟨?_,h3⟩;intro x hx;have h4:=h1 x (qb _ hx);simp at h4 ⊢;exact⟨h4,λe=>h2 (e▸hx)⟩
def Zt3(ks):(WL ks).length=ks.length↔ks.Nodup:=by
 have:=(Zt2 ks []).2;unfold WL;exact nR
def ZGQ(ks):(WL ks).length<=ks.length:=by
 have:=(Zt2 ks []).1;unfold WL;exact nR
def Pv:Value->Option (DataW Unit×List MemPlace)
 | .int .i64 k=>some (.lit (.int .i64 k), [])
 | .pointer (some ⟨b,0,none⟩)=>some (.lit (.int .u64 b), [])
 | .pointer none=>some (.agg [], [])
 |_=>none
def nI(k:Int):DataW Unit:=.lit (.int .i64 k)
def nP(b:Nat):DataW Unit:=.lit (.int .u64 b)
def Zde(m:DataW Unit)(x:vS×DataW Unit):DataW Unit:=m.put (AB x.1) x.2
def Ov(EM:List (vS×DataW Unit)):DataW Unit:=EM.foldl Zde (.map [])
def JS(w:World)(b n:Nat)(EM:List (vS×DataW Unit)):Prop:=w.ownsMap prog 9 Pv b n (Ov EM)
def Il{w}{b n}{ks}(h:JS w b n ks)(hB:w'.heap[b]? =w.heap[b]?):JS w' b n ks:=by
 exact l6
def JS.obj{w}{b n}{ks}(h:JS w b n ks):∃es ck,w.heap[b]? =some (.map es ck):=by
 obtain⟨es,clock,hb,r⟩:=h;exact⟨es,clock,hb⟩
def ZA2{w:World}{b:Nat}(h:w.heap[b]? =some (.map #[] 0)):JS w b 0 []:=
 ⟨#[],0,h,⟨ae,MapKept.stamped_empty 0,ae⟩,nV _,rfl⟩
def ZRa(EM)(s)(d):(Ov EM).put (AB s) d=Ov (EM++ [(s,d)]):=by
 unfold Ov;rw[qN];rfl
def ZqJ{w}{b n}{EM}{s:vS}{d:DataW Unit}{val:Value}{t e:TypeId}(h:JS w b n EM)(ht:prog.underlying t=some (.map 9 e))(hn:n<maxLen)(hk:s.length<=100000)(hv:Pv val=some (d, []))(hr:(Instr.mapUpdate t (.map (some b)) (.string ⟨s.toArray⟩) val).run prog w= .ok () w'):JS w' b (n+1) (EM++ [(s,d)]):=by
 obtain⟨w2,EA,Eb,_⟩:=rZ h K8 ht hn (K7 s hk) hv;rw[hr]at EA;cases EA;rw[ZRa]at Eb;exact Eb
def ZA0{D:DataW Unit}(h:Maps.IsMap D)(x):Maps.IsMap (Zde D x):=by
 obtain⟨es,rfl⟩:=h;exact⟨_,rfl⟩
def Zyj{s x:vS}(h:s≠x):AB s≠AB x:=λe=>h (by cases e;rfl)
theorem has_fold(s):∀(EM:List (vS×DataW Unit)) (m:DataW Unit),Maps.IsMap m->Maps.has (EM.foldl Zde m) (AB s)=((EM.map (·.1)).contains s||Maps.has m (AB s))
 | [],m,_=>ae
 |x::r,m,hm=>by
  rw[List.foldl_cons,has_fold s r _ (ZA0 hm x)];by_cases h:s=x.1
  ·subst h;have:Maps.has (Zde m x) (AB x.1)=true:=Maps.has_put_same hm (show WideAt.IsKeyLit (AB x.1) from trivial) x.2;rw[this];simp
  ·have:Maps.has (Zde m x) (AB s)=Maps.has m (AB s):=Maps.has_put_other (Zyj h) x.2;have hb:(s==x.1)=false:=by simpa using h
   rw[this,oq,List.contains_cons,hb,sM]
def ZiT(EM)(s):Maps.has (Ov EM) (AB s)=(EM.map (·.1)).contains s:=by
 unfold Ov;rw[has_fold s EM _ ⟨[],rfl⟩];simp[Maps.has]
theorem ZsM(s:vS)(d z:DataW Unit):∀(EM:List (vS×DataW Unit)) (m:DataW Unit),Maps.IsMap m->(EM.map (·.1)).Nodup->((s,d)∈EM\/(s∉EM.map (·.1)/\m.atKey (AB s) z=d))->(EM.foldl Zde m).atKey (AB s) z=d
 | [],m,_,_,h=>by
  rcases h with h|h
  ·cases h
  ·exact h.2
 |x::r,m,hm,hn,h=>by
  rw[List.foldl_cons];rw[oq,sK]at hn;refine ZsM s d z r _ (ZA0 hm x) hn.2 ?_;rcases h with h|⟨h1,h2⟩
  ·rcases oQ.1 h with h|h
   ·subst h;exact .inr ⟨hn.1,Maps.atKey_put_same hm (show WideAt.IsKeyLit (AB s) from trivial) d z⟩
   ·exact .inl h
  ·have wF:s≠x.1:=λe=>h1 cO;exact .inr ⟨λh=>h1 (by simp only[oq,oQ];exact .inr h),(Maps.atKey_put_other (Zyj wF) x.2 z).trans h2⟩
def ZsN{EM:List (vS×DataW Unit)}{s:vS}{d z:DataW Unit}(hn:(EM.map (·.1)).Nodup)(h:(s,d)∈EM):(Ov EM).atKey (AB s) z=d:=
 ZsM s d z EM _ ⟨[],rfl⟩ hn (.inl h)
def Zt7{v:Value}{k}(h:Pv v=some (nI k,ps)):v= .int .i64 k:=by
 unfold Pv nI at h;split at h
 ·cases h;rfl
 ·cases h
 ·cases h
 ·cases h
def ZHd{v:Value}{b}(h:Pv v=some (nP b,ps)):v= .pointer (some ⟨b,0,none⟩):=by
 unfold Pv nP at h;split at h
 ·cases h
 ·simp only[sN,sO,DataW.lit.injEq,Lit.int.injEq,sP]at h;have:_=b:=Int.ofNat.inj h.1;rw[this]
 ·cases h
 ·cases h
def placesOf(l:List vS):List (vS×DataW Unit):=l.zipIdx.map λp=>(p.1,nI p.2)
def Zkk(l)(x):placesOf (l++ [x])=placesOf l++ [(x,nI l.length)]:=by
 unfold placesOf;rw[List.zipIdx_append];simp
def ZpR(l):(placesOf l).map (·.1)=l:=by
 unfold placesOf;rw[rD];have:((λx:vS×DataW Unit=>x.1)∘λp:vS×Nat=>(p.1,nI p.2))=Prod.fst:=rfl;rw[this];simp
def ZQ1{l:List vS}{i:Nat}(h:i<l.length):(l[i],nI i)∈placesOf l:=by
 unfold placesOf;refine qm.2 ⟨(l[i],i),?_,rfl⟩;rw[List.mem_zipIdx_iff_getElem?];exact oW h
def ZBt(w):(zeroValue 3).run prog w= .ok (.int .i64 0) w:=by kernel_rfl
end Go.Proofs.YtncnkiabjhhclaaGreatDoor
