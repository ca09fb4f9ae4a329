import Derived.Defers
import Derived.Recover
import Derived.Test.YthmlacabmlghbaaGreatDoorBgJa12
set_option maxRecDepth 100000
set_option maxHeartbeats 8000000
set_option linter.unusedSimpArgs false
set_option linter.unusedVariables false
namespace Go.Proofs.YthmlacabmlghbaaGreatDoor
open Go.Proofs.Tryz
theorem ZPn{p:Prop}(h:p:=by kernel_rfl):p:=h
theorem ZQU{p:Prop}(h:p:=by simp[go_sem]):p:=h
theorem ZRY{p:Prop}(h:p:=by simp[results,Tryz.results22,go_sem,hc3]):p:=h
theorem ZUc{p:Prop}(h:p:=by go_enter func116,ntmps116;go_wp2_with fail;go_ret;exact⟨Xw (by unfold Q3;rw[HK.out];rfl),rfl⟩):p:=h
theorem ZUB{p:Prop}(h:p:=by go_wp2_with fail;go_end0;exact⟨rfl,rfl⟩):p:=h
theorem ZV5{p:Prop}(h:p:=by rintro e w' ⟨rfl,rfl⟩;go_wp2;exact⟨rfl,w.heap.size,rfl,ZPm,ZPm,(Below.refl _ _).alloc (Nat.le_refl _) _⟩):p:=h
theorem ZUT{p:Prop}(h:p:=by go_wp2_with fail;refine(Vr R line _ hc1).mono ?_;rintro e w3 ⟨b,rfl,hb0,hb1,hB3⟩;go_wp2;exact⟨rfl,.inr ⟨HN.out,b,rfl,hb0,hb1,hB1.trans (hB3.mono hB1.size)⟩⟩):p:=h
theorem ZUv{p:Prop}(h:p:=by go_wp2;exact⟨rfl,.inr ⟨hno.out,b,rfl,hb0,hb1,hB.trans (hB3.mono hB.size)⟩⟩):p:=h
open Go.RowKit
def thrown(b:Nat):List PanicEntry:= [{v:=.iface 77 (.pointer (some ⟨b,0,none⟩)),recovered:=false}]
theorem ZdS(kind at_:Int)(w:World):
  Calls prog 50 #[.int .i64 kind,.int .i64 at_] w fun e w'=>e= .panicked (thrown w.heap.size)/\w.alloc (.cells #[.int .i64 kind,.int .i64 at_] 82)=w':=by
 go_enter func50,ntmps50;go_wp2;exact⟨rfl,rfl,rfl⟩
theorem ZAO(pe po:Addr)(w:World):
  CallsD prog 49 #[.pointer (some pe),.pointer (some po)] .returning w fun e u' w'=>e= .returned (.tuple #[])/\u'= .returning/\w'=w:=by
 refine callsD_of_wpS func49 rfl fun c₀ cs hu=>?_;simp only[ntmps49,ZXY,List.length_cons,List.length_nil,Nat.reduceAdd,Nat.reduceSub,ZXZ,Array.replicate_zero,ZX0,ZX1,List.nil_append,List.cons_append];apply wpS_seq;apply wpS_region;simp[wpOpsS,go_sem,recoverD,hu,Exit.thenS];refine wpS_of_wp ?_;go_wp2;cases c₀;simp_all [bodyPostS,results,Tryz.results49]
theorem ZAN(pe po:Addr)(b:Nat)(old:Value)(w:World)(hc:w.cell? pe=some old)(hz:w.frozen? pe=false):
  CallsD prog 49 #[.pointer (some pe),.pointer (some po)] (.panicking (thrown b)) w fun e u' w'=>
   e= .returned (.tuple #[])/\u'= .panicking [{v:=.iface 77 (.pointer (some ⟨b,0,none⟩)),recovered:=true}]/\w'=w.setCell pe (.iface 77 (.pointer (some ⟨b,0,none⟩))):=by
 refine callsD_of_wpS func49 rfl fun c₀ cs hu=>?_;simp only[ntmps49,ZXY,List.length_cons,List.length_nil,Nat.reduceAdd,Nat.reduceSub,ZXZ,Array.replicate_zero,ZX0,ZX1,List.nil_append,List.cons_append];apply wpS_seq;apply wpS_region;simp[wpOpsS,go_sem,recoverD,hu,thrown,Exit.thenS];refine wpS_of_wp ?_;have YU:∀w,(Instr.typeAssert (.iface 77 (.pointer (some ⟨b,0,none⟩))) 20 77 true).run prog w= .ok (.tuple #[.pointer (some ⟨b,0,none⟩),.bool true]) w:=fun _=>ZPn
 go_wp2;cases c₀;simp_all [bodyPostS,results,Tryz.results49]
abbrev Y9(w:World)(other:Int):World:=(w.alloc (.cells #[.int .i64 other] 71)).alloc (.cells #[.nilIface] 36)
abbrev E9(b:Nat):Value:=.iface 77 (.pointer (some ⟨b,0,none⟩))
theorem ZAM(pd:Addr)(other:Int)(w:World)(G:Addr->World->Prop)(B:Nat->World->Prop)
  (h:Calls prog 23 #[.pointer (some pd)] (Y9 w other) fun e w2=>Below (w.heap.size+2) (Y9 w other) w2/\
   ((∃q,e= .returned (.pointer (some q))/\G q w2)\/(∃b,e= .panicked (thrown b)/\B b w2))):
  Calls prog 22 #[.int .i64 other,.func (.func 23) #[] #[.pointer (some pd)]] w fun e w'=>∃w2,Below (w.heap.size+2) (Y9 w other) w2/\
   ((∃q,G q w2/\e= .returned (.tuple #[.pointer (some q),.nilIface])/\w'=w2.setCell ⟨w.heap.size+1,0,none⟩ .nilIface)\/
    (∃b,B b w2/\e= .returned (.tuple #[.pointer none,E9 b])/\w'=w2.setCell ⟨w.heap.size+1,0,none⟩ (E9 b))):=by
 have Xi:∀(fn:Fn) (first cap:Array Value) (w:World),(Instr.makeFunc fn first cap).run prog w= .ok (.func fn first cap) w:=fun _ _ _ _=>rfl;have hc1:(Y9 w other).cell? ⟨w.heap.size+1,0,none⟩=some .nilIface:=ZQk
 have hf1:(Y9 w other).frozen? ⟨w.heap.size+1,0,none⟩=false:=ZQk
 have H:=h;have HH:Hid (Calls prog 23 #[.pointer (some pd)] (Y9 w other) fun e w2=>Below (w.heap.size+2) (Y9 w other) w2/\
   ((∃q,e= .returned (.pointer (some q))/\G q w2)\/(∃b,e= .panicked (thrown b)/\B b w2))):=H
 clear h H;go_enter_defers func22,ntmps22;go_wp2_with fail;refine HH.out.mono ?_;rintro e w2 ⟨hB,⟨q,rfl,hG⟩|⟨b,rfl,Zm2⟩⟩
 ·have hc2:w2.cell? ⟨w.heap.size+1,0,none⟩=some .nilIface:=(hB.cell (p:=⟨w.heap.size+1,0,none⟩) ZPm).trans hc1;have hf2:w2.frozen? ⟨w.heap.size+1,0,none⟩=false:=(hB.frozen (p:=⟨w.heap.size+1,0,none⟩) ZPm).trans hf1;go_wp2;refine leaves_cons (f:=49) (args:=#[.pointer (some ⟨w.heap.size+1,0,none⟩),.pointer (some ⟨w.heap.size,0,none⟩)]) ZPm ZQU ?_;refine(ZAO _ _ _).mono ?_;rintro e u' w'' ⟨rfl,rfl,rfl⟩;have hc3:(w2.setCell ⟨w.heap.size+1,0,none⟩ .nilIface).cell? ⟨w.heap.size+1,0,none⟩=some .nilIface:=World.cell?_setCell_same' _ _ _ ZQV;exact⟨.tuple #[.pointer (some q),.nilIface],ZRY,w2,hB,.inl ⟨q,hG,rfl,rfl⟩⟩
 ·have hc2:w2.cell? ⟨w.heap.size+1,0,none⟩=some .nilIface:=(hB.cell (p:=⟨w.heap.size+1,0,none⟩) ZPm).trans hc1;have hf2:w2.frozen? ⟨w.heap.size+1,0,none⟩=false:=(hB.frozen (p:=⟨w.heap.size+1,0,none⟩) ZPm).trans hf1;go_wp2;refine leaves_cons (f:=49) (args:=#[.pointer (some ⟨w.heap.size+1,0,none⟩),.pointer (some ⟨w.heap.size,0,none⟩)]) ZPm ZQU ?_;refine(ZAN _ _ b .nilIface _ hc2 hf2).mono ?_;rintro e u' w'' ⟨rfl,rfl,rfl⟩;have hc3:(w2.setCell ⟨w.heap.size+1,0,none⟩ (E9 b)).cell? ⟨w.heap.size+1,0,none⟩=some (E9 b):=World.cell?_setCell_same' _ _ _ ZQV;exact⟨.tuple #[.pointer none,E9 b],ZRY,w2,hB,.inr ⟨b,Zm2,rfl,rfl⟩⟩
theorem Zxq(w:World):(zeroValue 171).run prog w= .ok (.int .i64 0) w:=by kernel_rfl
def Q3(Zg:List Za)(s:Za):Bool:= !Zg.contains s&& !s.isEmpty&&decide (((if 0<Zk Zi s then 0 else Zk (Ya++Zi) s:Nat):Int)=s.length)
theorem ZHt{w:World}{Kb n:Nat}{ks:List Za}(h:Xv w Kb n ks)(s:Za)(hs:s.length<=100000):
  ∃v,(Instr.lookup 134 (.map (some Kb)) (.string ⟨s.toArray⟩) true).run prog w= .ok (.tuple #[v,.bool (ks.contains s)]) w:=by
 obtain⟨v,ps,hrun,_⟩:=World.ownsMap.look_ok (R:=ZgU) (D:=Kl ks) h KA underlying134 (Zxq w) rfl (Kz s hs);rw[Znw]at hrun;exact⟨v,hrun⟩
theorem ZoQ(R Kb n:Nat)(Zg:List Za)(s:Za)(w:World)(hs:s.length<=90000)(hk:w.cell? ⟨R,3,none⟩=some (.map (some Kb)))(hK:Xv w Kb n Zg):
  Calls prog 116 #[.pointer (some ⟨R,0,none⟩),.string ⟨s.toArray⟩] w fun e w'=>e= .returned (.bool (Q3 Zg s))/\w=w':=by
 obtain⟨v,hl⟩:=ZHt hK s U;obtain⟨kc,hkc⟩:∃kc,Zg.contains s=kc:=⟨_,rfl⟩;rw[hkc]at hl;have HK:Hid (Zg.contains s=kc):=hkc;clear hkc;cases kc
 ·cases s with
  |nil=>
   exact ZUc
  |cons c s=>
   go_enter func116,ntmps116;go_wp2_with fail;refine(Zxg (c::s) _ hs).mono ?_;rintro e w' ⟨rfl,rfl⟩;generalize hm:(if 0<Zk Zi (c::s)then 0 else Zk (Ya++Zi) (c::s))=m;have HM:Hid ((if 0<Zk Zi (c::s)then 0 else Zk (Ya++Zi) (c::s))=m):=hm;clear hm;go_wp2;go_ret;refine⟨Xw ?_,rfl⟩;unfold Q3;rw[HK.out,HM.out];rw[ZXG];simp
 ·exact ZUc
def bad(n0:Nat)(line:Int)(w:World)(e:Ending)(w':World):Prop:=
 ∃b,e= .panicked (thrown b)/\w'.cell? ⟨b,0,none⟩=some (.int .i64 1)/\w'.cell? ⟨b,1,none⟩=some (.int .i64 line)/\Below n0 w w'
theorem ZbP(p:Addr)(w:World):
  Calls prog 85 #[.pointer (some p),.bool true] w fun e w'=>e= .returned (.tuple #[])/\w=w':=by
 go_enter func85,ntmps85;exact ZUB
theorem Vr(R:Nat)(line:Int)(w:World)(hc:w.cell? ⟨R,0,none⟩=some (.int .i64 line)):
  Calls prog 85 #[.pointer (some ⟨R,0,none⟩),.bool false] w fun e w'=>bad w.heap.size line w e w':=by
 go_enter func85,ntmps85;go_wp2_with fail;refine(ZdS 1 line _).mono ?_;exact ZV5
structure Vx (w:World):Prop where
 syn:∃tp p,w.var? prog "strconv.ErrSyntax"=some #[.iface tp p]
 rng:∃tp p,w.var? prog "strconv.ErrRange"=some #[.iface tp p]
theorem ZCN:prog.globalNamed "strconv.ErrSyntax"=some 8:=by kernel_rfl
theorem ZCM:prog.globalNamed "strconv.ErrRange"=some 9:=by kernel_rfl
theorem Vx.below{n:Nat}{w w':World}(h:Vx w)(hB:Below n w w')(hn:13<=n):Vx w':=by
 obtain⟨⟨a,b,h1⟩,⟨c,d,h2⟩⟩:=h;exact⟨⟨a,b,var?_below hB ZCN U h1⟩,⟨c,d,var?_below hB ZCM U h2⟩⟩
theorem ZvJ(s:Za)(w:World)(hs:s.length<=90000)(hv:Vx w):
  Calls prog 179 #[.string ⟨s.toArray⟩,.int .i64 10,.int .i64 64] w fun e w'=>Below w.heap.size w w'/\
   ((∃v,Lib.parseIntB 64 s= .ok v/\e= .returned (.tuple #[.int .i64 v,.nilIface]))\/
    ((∀v,Lib.parseIntB 64 s≠.ok v)/\∃v t p,e= .returned (.tuple #[.int .i64 v,.iface t p]))):=by
 obtain⟨⟨a,b,h1⟩,⟨c,d,h2⟩⟩:=hv;cases hp:Lib.parseIntB 64 s with
 |ok v=>
  refine(Tryz.strconv_ParseInt_10_at64_ok ⟨s.toArray⟩ ZQW v hp w).mono ?_;rintro e w' ⟨rfl,hw⟩;refine⟨?_,.inl ⟨v,rfl,rfl⟩⟩;rcases hw with rfl|⟨t,rfl⟩
  ·exact ZWT _ _
  ·exact Lib.bytesWorld_below _ _ _
 |«syntax»=>
  refine(Tryz.strconv_ParseInt_10_at64_syntax_var ⟨s.toArray⟩ ZQW hp a b w h1).mono ?_;exact ZV4
 |range=>
  refine(Tryz.strconv_ParseInt_10_at64_range_var ⟨s.toArray⟩ ZQW hp c d w h2).mono ?_;exact ZV4
def Jv(s:Za):Bool:=(match Lib.parseIntB 64 s with| .ok _=>true|_=>false)&&decide (Zk Zi (Lib.trimPrefix s [45])=(Lib.trimPrefix s [45]).length)
theorem ZJM(R:Nat)(line:Int)(s:Za)(w:World)(hs:s.length<=90000)(hv:Vx w)(hc:w.cell? ⟨R,0,none⟩=some (.int .i64 line)):
  Calls prog 159 #[.pointer (some ⟨R,0,none⟩),.string ⟨s.toArray⟩] w fun e w'=>
   (Jv s=true/\(∃t x,e= .returned (.iface t x))/\Below w.heap.size w w')\/(Jv s=false/\bad w.heap.size line w e w'):=by
 have hlt:R<w.heap.size:=ZWW w ⟨R,0,none⟩ hc;go_enter func159,ntmps159;go_wp2_with fail;refine(Tryz.strings_TrimPrefix _ _ _).mono ?_;rintro e w' ⟨rfl,hw⟩;obtain rfl:=hw.symm;rw[show(ByteArray.mk s.toArray).data.toList=s from rfl,show(ByteArray.mk #[45]).data.toList= [45] from rfl];generalize hd:Lib.trimPrefix s [45]=d;have HD:Hid (Lib.trimPrefix s [45]=d):=hd;have hdl:d.length<=90000:=by
  rw[<-hd];unfold Lib.trimPrefix;split
  ·rw[ZXo];omega
  ·exact hs
 clear hd;go_wp2_with fail;refine(ZvJ s _ hs hv).mono ?_;rintro e w1 ⟨hB1,⟨v,hp,rfl⟩|⟨hp,v,t,p,rfl⟩⟩
 ·have hc1:w1.cell? ⟨R,0,none⟩=some (.int .i64 line):=(hB1.cell (p:=⟨R,0,none⟩) hlt).trans hc;have HP:Hid (Lib.parseIntB 64 s= .ok v):=hp;clear hp;go_wp2_with fail;refine(Zlm d _ hdl).mono ?_;rintro e w2 ⟨rfl,rfl⟩;by_cases hdd:Zk Zi d=d.length
  ·have hdb:((Zk Zi d:Int)==(d.length:Int))=true:=by simp[hdd]
   have HN:Hid (Jv s=true):=by
    show Jv s=true;unfold Jv;rw[HP.out,HD.out,ZXX hdd];rfl
   clear hdd;go_wp2_with fail;refine(ZbP _ _).mono ?_;rintro e w3 ⟨rfl,rfl⟩;go_wp2;go_ret;exact .inl ⟨HN.out,⟨_,_,rfl⟩,hB1⟩
  ·have hdb:((Zk Zi d:Int)==(d.length:Int))=false:=by simp;omega
   have HN:Hid (Jv s=false):=by
    show Jv s=false;unfold Jv;rw[HP.out,HD.out,ZXD hdd];rfl
   clear hdd;exact ZUT
 ·have hc1:w1.cell? ⟨R,0,none⟩=some (.int .i64 line):=(hB1.cell (p:=⟨R,0,none⟩) hlt).trans hc;have HP:Hid (∀v,Lib.parseIntB 64 s≠.ok v):=hp;clear hp;have HN:Hid (Jv s=false):=by
   show Jv s=false;unfold Jv;cases hx:Lib.parseIntB 64 s with
   |ok v=>exact absurd hx (HP.out v)
   |_=>rfl
  exact ZUT
def Jj(s:Za)(ty:Int):Bool:=(s== [110,117,108,108])||(if ty=1 then Jv s else s.head? ==some 39)
theorem ZJX(R:Nat)(line ty:Int)(s:Za)(w:World)(hs:s.length<=90000)(hne:s≠ [])(hv:Vx w)(hc:w.cell? ⟨R,0,none⟩=some (.int .i64 line)):
  Calls prog 119 #[.pointer (some ⟨R,0,none⟩),.string ⟨s.toArray⟩,.int .i64 ty] w fun e w'=>
   (Jj s ty=true/\(∃t x,e= .returned (.iface t x))/\Below w.heap.size w w')\/(Jj s ty=false/\bad w.heap.size line w e w'):=by
 have hlt:R<w.heap.size:=ZWW w ⟨R,0,none⟩ hc;by_cases h1:(s== [110,117,108,108])=true
 ·have HN:Hid (Jj s ty=true):=by show Jj s ty=true;unfold Jj;rw[h1];rfl
  go_enter func119,ntmps119;go_wp2_with fail;go_ret;exact .inl ⟨HN.out,⟨_,_,rfl⟩,ZWT _ _⟩
 ·have h1':(s== [110,117,108,108])=false:=by simpa using h1
  clear h1;by_cases h2:(ty==1)=true
  ·have HN:Hid (Jj s ty=Jv s):=by
    show Jj s ty=Jv s;unfold Jj;rw[h1',ZWR ZQe];rfl
   go_enter func119,ntmps119;go_wp2_with fail;refine(ZJM R line s _ hs hv hc).mono ?_;rintro e w1 (⟨hn,⟨t,x,rfl⟩,hB⟩|⟨hn,b,rfl,hb0,hb1,hB3⟩)
   ·have XX:Hid (Jv s=true):=hn;clear hn;go_wp2;go_ret;exact .inl ⟨HN.out.trans XX.out,⟨_,_,rfl⟩,hB⟩
   ·have XX:Hid (Jv s=false):=hn;clear hn;go_wp2;exact⟨rfl,.inr ⟨HN.out.trans XX.out,b,rfl,hb0,hb1,hB3⟩⟩
  ·have h2':(ty==1)=false:=by simpa using h2
   obtain⟨c,r,rfl⟩:∃c r,s=c::r:=ZQF
   have HN:Hid (Jj (c::r) ty=(c==39)):=by
    show Jj (c::r) ty=(c==39);unfold Jj;rw[h1',ZWQ (by simpa using h2')];rfl
   clear hne h2;go_enter func119,ntmps119;go_wp2_with fail;show Calls prog _ #[.pointer (some ⟨R,0,none⟩),.bool ((c.toNat:Int)==39)] w _;by_cases Xh:c=39
   ·have XX:Hid (Jj (c::r) ty=true):=by show _=true;rw[HN.out,Xh];rfl
    rw[show((c.toNat:Int)==39)=true from by rw[Xh];rfl];refine(ZbP _ _).mono ?_;rintro e w1 ⟨rfl,rfl⟩;clear Xh;go_wp2_with fail;refine(ZpH (c::r) _ hs).mono ?_;rintro e w1 ⟨rfl,hB⟩;go_wp2;go_ret;exact .inl ⟨XX.out,⟨_,_,rfl⟩,hB⟩
   ·have XX:Hid (Jj (c::r) ty=false):=by show _=false;rw[HN.out];simpa using Xh
    rw[show((c.toNat:Int)==39)=false from by
     rw[ZX8];intro e;exact Xh (Zdi (b:=39) e)]
    refine(Vr R line _ hc).mono ?_;rintro e w3 ⟨b,rfl,hb0,hb1,hB3⟩;clear Xh;go_wp2;exact⟨rfl,.inr ⟨XX.out,b,rfl,hb0,hb1,hB3⟩⟩
def JB(c:UInt8)(s:Za):Za:=s.takeWhile fun x=>x≠c
def Qc(s:Za):Option Nat:=
 if s.head? =some 39 then
  (let n:=(Yn s).2
   if 0<n/\(n=s.length\/s[n]? =some 32)then some n else none)
 else some (JB 32 s).length
theorem ZW{B:Nat}{a w:World}(h:Below B a w)(n:Nat):Below B a (w.drewN n):=h.trans ⟨rfl,rfl,rfl,ZWS _,fun _ _=>rfl⟩
theorem Zg0(c:UInt8):∀s:Za,(Lib.indexByte s c= -1/\(s.takeWhile fun x=>x≠c)=s)\/(∃k:Nat,k<s.length/\Lib.indexByte s c=k/\(s.takeWhile fun x=>x≠c)=s.take k/\s[k]? =some c)
 | []=>.inl ⟨rfl,rfl⟩
 |b::l=>by
  by_cases h:b=c
  ·subst h;refine .inr ⟨0,ZPm,by simp[Lib.indexByte],?_,rfl⟩;simp[ZXs]
  ·rcases Zg0 c l with⟨h1,h2⟩|⟨k,hk,h1,h2,h3⟩
   ·refine .inl ⟨?_,?_⟩
    ·unfold Lib.indexByte;rw[ZWQ ZPv,h1];rfl
    ·rw[ZXs,ZWR ZPv,h2]
   ·refine .inr ⟨k+1,ZQD,?_,?_,by simpa using h3⟩
    ·unfold Lib.indexByte;rw[ZWQ ZPv,h1,ZWQ (by rw[ZXT];omega)];rfl
    ·rw[ZXs,ZWR ZPv,h2];rfl
theorem ZBH(s:Za)(w:World)(hs:s.length<=90000):
  Calls prog 202 #[.string ⟨s.toArray⟩,.string ⟨#[32]⟩] w fun e w'=>∃x b,e= .returned (.tuple #[.string ⟨(JB 32 s).toArray⟩,.string x,.bool b])/\Below w.heap.size w w':=by
 have hex:=QY;go_enter func202,ntmps202;go_wp2_with fail;refine(Tryz.stringslite_Index_one _ 32 _).mono ?_;rintro e w' ⟨rfl,hw⟩;obtain rfl:=hw.symm;rw[show(ByteArray.mk s.toArray).data.toList=s from rfl];rcases Zg0 32 s with⟨h1,h2⟩|⟨k,hk,h1,h2,h3⟩
 ·have H2:Hid (JB 32 s=s):=h2;rw[h1];clear h1 h2;go_wp2;go_ret3;exact⟨_,_,by rw[H2.out];rfl,ZWT _ _⟩
 ·have H2:Hid (JB 32 s=s.take k):=h2;rw[h1];clear h1 h2 h3;go_wp2;go_quiet (fail);go_wp2;go_ret3;exact⟨_,_,by rw[H2.out];rfl,ZW (ZWT _ _) _⟩
theorem ZBI(s:Za)(w:World)(hs:s.length<=90000):
  Calls prog 156 #[.string ⟨s.toArray⟩,.string ⟨#[32]⟩] w fun e w'=>∃x b,e= .returned (.tuple #[.string ⟨(JB 32 s).toArray⟩,.string x,.bool b])/\Below w.heap.size w w':=by
 have hex:=QY;go_enter func156,ntmps156;go_wp2_with fail;refine(ZBH s _ hs).mono ?_;rintro e w' ⟨x,b,rfl,hB⟩;go_wp2;go_ret3;exact⟨_,_,rfl,hB⟩
theorem ZJK(R:Nat)(line:Int)(s:Za)(w:World)(hs:s.length<=90000)(hne:s≠ [])(hc:w.cell? ⟨R,0,none⟩=some (.int .i64 line)):
  Calls prog 115 #[.pointer (some ⟨R,0,none⟩),.string ⟨s.toArray⟩] w fun e w'=>
   (∃n:Nat,Qc s=some n/\e= .returned (.int .i64 n)/\Below w.heap.size w w')\/(Qc s=none/\bad w.heap.size line w e w'):=by
 have hlt:R<w.heap.size:=ZWW w ⟨R,0,none⟩ hc;obtain⟨c,r,rfl⟩:∃c r,s=c::r:=ZQF
 clear hne;go_enter func115,ntmps115;go_wp2_with fail
 ·have Xh:((((ByteArray.mk (c::r).toArray)[0]'(ZXP _)).toNat:Int) != 39)=true:=by assumption
  have n39:c≠39:=Zd3 39 Xh rfl;refine(ZBI (c::r) _ hs).mono ?_;rintro e w1 ⟨x,b,rfl,hB⟩;have HF:Hid (Qc (c::r)=some (JB 32 (c::r)).length):=by
   show Qc (c::r)=_;unfold Qc;rw[ZWQ ZRi]
  have htl:(JB 32 (c::r)).length<=90000:=ZW0 (ZYq _).length_le hs;generalize JB 32 (c::r)=t at HF htl ⊢;clear n39;go_wp2;go_ret;exact .inl ⟨_,HF.out,rfl,hB⟩
 ·have Xh:((((ByteArray.mk (c::r).toArray)[0]'(ZXP _)).toNat:Int) != 39)=false:=by assumption
  have e39:c=39:=Zbp 39 Xh rfl;refine(ZpH (c::r) _ hs).mono ?_;rintro e w1 ⟨rfl,hB⟩;have hc1:w1.cell? ⟨R,0,none⟩=some (.int .i64 line):=(hB.cell (p:=⟨R,0,none⟩) hlt).trans hc;have hql:=Zg4 c r;have HF:Hid (Qc (c::r)=if 0<(Yn (c::r)).2/\((Yn (c::r)).2=(c::r).length\/(c::r)[(Yn (c::r)).2]? =some 32)then some (Yn (c::r)).2 else none):=by
   show Qc (c::r)=_;unfold Qc;rw[ZWR (by rw[e39];rfl)]
  generalize (Yn (c::r)).2=n at HF hql ⊢;generalize (Yn (c::r)).1=q;clear e39;by_cases h0:0<n
  ·by_cases h1:n=(c::r).length
   ·have hok:Hid (Qc (c::r)=some n):=by show _=some n;rw[HF.out,ZWR ⟨h0,.inl h1⟩]
    clear HF;subst h1;go_wp2_with fail;refine(ZbP _ _).mono ?_;rintro e w3 ⟨rfl,rfl⟩;go_wp2;go_ret;exact .inl ⟨_,hok.out,ZcV ZPm,hB⟩
   ·have hn:n<(c::r).length:=by omega
    have hsz:n<(ByteArray.mk (c::r).toArray).size:=hn;have hn':n<r.length+1:=by simpa using hn
    have hb:((n:Int)==(r.length:Int)+1)=false:=by simp at h1 ⊢;omega
    have HF2:Hid (Qc (c::r)=if(c::r)[n]=32 then some n else none):=by
     show Qc (c::r)=_;rw[HF.out,ZW1 hn];by_cases h2:(c::r)[n]=32
     ·rw[ZWR ⟨h0,.inr (by rw[h2])⟩,ZWR h2]
     ·rw[ZWQ (fun h=>h2 (by rcases h.2 with h|h;exact absurd h h1;exact ZXc h)),ZWQ h2]
    clear HF h1;go_wp2_with fail;show Calls prog _ #[.pointer (some ⟨R,0,none⟩),.bool ((((c::r)[n]'hn).toNat:Int)==32)] w1 _;by_cases h32:(c::r)[n]=32
    ·have hok:Hid (Qc (c::r)=some n):=by show _=some n;rw[HF2.out,ZWR h32]
     rw[show((((c::r)[n]'hn).toNat:Int)==32)=true from by rw[h32];rfl];refine(ZbP _ _).mono ?_;rintro e w3 ⟨rfl,rfl⟩;clear h32 HF2;go_wp2;go_ret;exact .inl ⟨_,hok.out,rfl,hB⟩
    ·have hno:Hid (Qc (c::r)=none):=by show _=none;rw[HF2.out,ZWQ h32]
     rw[show((((c::r)[n]'hn).toNat:Int)==32)=false from by rw[ZX8];intro e;exact h32 (Zdi (b:=32) e)];refine(Vr R line _ hc1).mono ?_;rintro e w3 ⟨b,rfl,hb0,hb1,hB3⟩;clear h32 HF2;exact ZUv
  ·have h0':n=0:=by omega
   have hno:Hid (Qc (c::r)=none):=by show _=none;rw[HF.out,ZWQ U]
   clear HF;subst h0';go_wp2_with fail;refine(Vr R line _ hc1).mono ?_;rintro e w3 ⟨b,rfl,hb0,hb1,hB3⟩;exact ZUv
def JC(s:Za):Za:=Lib.trimLeftB s 32
theorem Zmq(s:Za):JC (32::s)=JC s:=by simp[JC,Lib.trimLeftB]
theorem Zmp(c:UInt8)(s:Za)(h:c≠32):JC (c::s)=c::s:=by simp[JC,Lib.trimLeftB,h]
theorem Zmr:JC []= []:=by simp[JC,Lib.trimLeftB]
theorem Zfl:∀s:Za,(JC s).length<=s.length
 | []=>by rw[Zmr];exact ZTg
 |c::s=>by
  by_cases h:c=32
  ·subst h;rw[Zmq];have:=Zfl s;simp;omega
  ·rw[Zmp c s h];exact ZTg
theorem Zg5:∀(s:Za) (c:UInt8) (r:Za),JC s=c::r->c≠32
 | [],c,r,h=>by rw[Zmr]at h;cases h
 |d::s,c,r,h=>by
  by_cases hd:d=32
  ·subst hd;rw[Zmq]at h;exact Zg5 s c r h
  ·rw[Zmp d s hd]at h;rw[<-(ZXk h).1];exact hd
theorem ZjG{c:UInt8}{r:Za}(h:c≠32){n:Nat}(hn:Qc (c::r)=some n):0<n/\n<=(c::r).length:=by
 unfold Qc at hn;by_cases Xh:c=39
 ·rw[ZWR (by simp[Xh])]at hn;simp only at hn;split at hn
  ·rename_i h2;cases hn;exact⟨h2.1,Zg4 c r⟩
  ·cases hn
 ·rw[ZWQ (by simpa using Xh)]at hn;cases hn;refine⟨?_,(ZYq _).length_le⟩;unfold JB;rw[ZXs,ZWR ZPv];simp
def Ez:Nat->Za->Option (List Za)
 |0,_=>some []
 |f+1,s=>
  match JC s with
  | []=>some []
  |c::r=>
   match Qc (c::r)with
   |none=>none
   |some n=>(Ez f ((c::r).drop n)).map ((c::r).take n::·)
def fieldsOf(s:Za):Option (List Za):=Ez (s.length+1) s
theorem ZCo(f:Nat):∀(s:Za) (g:Nat),s.length<f->s.length<g->Ez f s=Ez g s:=by
 induction f with
 |zero=>intro s g h;omega
 |succ f ih=>
  intro s g hf hg;obtain⟨g,rfl⟩:∃g',g=g'+1:=⟨g-1,U⟩;rw[Ez,Ez];have htl:=Zfl s;cases ht:JC s with
  |nil=>rfl
  |cons c r=>
   have hc:=Zg5 s c r ht;rw[ht]at htl;simp only;cases hl:Qc (c::r)with
   |none=>rfl
   |some n=>
    have hp:=ZjG hc hl;simp only;rw[ih ((c::r).drop n) g ZPO ZPO]
theorem ZjH{s:Za}(h:JC s= []):fieldsOf s=some []:=by
 unfold fieldsOf;rw[Ez,h]
theorem Zhd{s:Za}{c:UInt8}{r:Za}(h:JC s=c::r)(hl:Qc (c::r)=none):fieldsOf s=none:=by
 unfold fieldsOf;rw[Ez,h];simp only;rw[hl]
theorem Zfm{s:Za}{c:UInt8}{r:Za}(h:JC s=c::r){n:Nat}(hl:Qc (c::r)=some n):
  fieldsOf s=(fieldsOf ((c::r).drop n)).map ((c::r).take n::·):=by
 have hp:=ZjG (Zg5 s c r h) hl;have htl:=Zfl s;rw[h]at htl;unfold fieldsOf;rw[Ez,h];simp only;rw[hl];simp only;rw[ZCo s.length ((c::r).drop n) (((c::r).drop n).length+1) ZPO U]
def ZCq(w:World)(line:Int):Option (List Za)->Ending->World->Prop
 |none,e,w'=>bad w.heap.size line w e w'
 |some l,e,w'=>∃v,e= .returned v/\w'.ownsRow w.heap.size 9 1 v l.length (l.map Zp)/\Below w.heap.size w w'
theorem own_below{w w':World}{B e size n:Nat}{v:Value}{xs:List Value}(h:w.ownsRow B e size v n xs)(hb:Below w.heap.size w w'):w'.ownsRow B e size v n xs:=by
 refine⟨h.1,?_⟩;rcases h.2 with h0|⟨g,cap,cur,rfl,hg,hh,r⟩
 ·exact ZS4
 ·exact ZU8
def Zk9:Value->Nat| .string s=>s.size|_=>0
theorem trimLeft(s:Za)(w:World):
  Calls prog 114 #[.string ⟨s.toArray⟩,.string ⟨#[32]⟩] w fun e w'=>e= .returned (.string ⟨(JC s).toArray⟩)/\w=w':=
 (Tryz.strings_TrimLeft_one ⟨s.toArray⟩ 32 ZPl w).mono fun e w' h=>⟨h.1,h.2.symm⟩
theorem ZJL(R:Nat)(line:Int)(s:Za)(w:World)(hs:s.length<=90000)(hc:w.cell? ⟨R,0,none⟩=some (.int .i64 line)):
  Calls prog 82 #[.pointer (some ⟨R,0,none⟩),.string ⟨s.toArray⟩] w fun e w'=>ZCq w line (fieldsOf s) e w':=by
 have hlt:R<w.heap.size:=ZWW w ⟨R,0,none⟩ hc;have hex:=QY;obtain⟨i0,hi,hz0,hz1,hz2⟩:=ZXd Tryz.ZeE;go_enter func82,ntmps82;go_wp2_with fail;refine(trimLeft s _).mono ?_;rintro e w' ⟨rfl,rfl⟩;go_wp2;go_loopw [5,6,7] (fun v t _ wr=>∃(x:Za) (out:List Za),x.length<=s.length/\out.length+x.length<=s.length/\t= .string ⟨(JC x).toArray⟩/\wr.ownsRow w.heap.size 9 1 v out.length (out.map Zp)/\Below w.heap.size w wr/\Hid ((fieldsOf x).map (out++·)=fieldsOf s))
  (fun _ t _ _=>Zk9 t)
 case atStart=>exact⟨s, [],ZWS _,ZPm,rfl,ZXp _ _ _ _,ZWT _ _,by simp[Hid]⟩
 case round=>
  obtain⟨x,out,hx,ho,rfl,hown,hB,hq⟩:=hrel;have hcr:wr.cell? ⟨R,0,none⟩=some (.int .i64 line):=(hB.cell (p:=⟨R,0,none⟩) hlt).trans hc;have htl:=Zfl x;cases ht:JC x with
  |nil=>
   have HR:Hid (fieldsOf s=some out):=by show _=some out;rw[<-hq.out,ZjH ht];simp
   clear ht;go_wp2_with fail;go_ret;rw[HR.out];exact ZTL
  |cons c r=>
   rw[ht]at htl;have hc32:=Zg5 x c r ht;have HT:Hid (JC x=c::r):=ht;clear ht;go_wp2_with fail;refine(ZJK R line (c::r) _ U ZPm hcr).mono ?_;rintro e w1 (⟨n,hn,rfl,hB1⟩|⟨hn,b,rfl,hb0,hb1,hB3⟩)
   ·have hp:=ZjG hc32 hn;have HN:Hid (Qc (c::r)=some n):=hn;clear hn hc32;obtain⟨hp1,hp2⟩:=hp;have hown1:=own_below hown hB1;have hB2:Below w.heap.size w w1:=hB.trans (hB1.mono hB.size);simp only[List.length_cons]at hp2 htl;clear hown hB hB1 hcr;go_wp2_with (at_builtin;refine ZXg _ rfl _ _ 22 rfl w.heap.size 9 i0 (.string ⟨#[]⟩) 1 16 underlying22 hi hz0 hz1 hz2 rfl ZPl _ _ _ rfl (hown1.alloc _) ⟨w1.heap.size,0,none⟩ 1 1 [Zp ((c::r).take n)] rfl rfl (ZXm _ _ _) ZPJ ZPq U (by have:=hB2.size;simp;omega) ?_;intro v' w2 hown' hgrow _);rw[ZXB (by rw[ZXo,List.length_cons];exact ZWS _)];have hB3:=XM hB2 hB2.size hown1 hgrow;have HS:Hid (fieldsOf s=(fieldsOf ((c::r).drop n)).map ((out++ [(c::r).take n])++·)):=by
     show fieldsOf s=_;rw[<-hq.out,Zfm HT.out HN.out,ZYt];congr 1;funext l;simp
    clear hgrow hown1 hB2;have hdl:((c::r).drop n).length=r.length+1-n:=by rw[ZXo,List.length_cons]
    generalize (c::r).drop n=y at hdl HS ⊢;refine(trimLeft y _).mono ?_;rintro e w3 ⟨rfl,rfl⟩;go_wp2;have hyl:=Zfl y;refine⟨⟨y,out++ [(c::r).take n],U,ZPo,rfl,ZQd,hB3,HS.out.symm⟩,?_⟩;simp only[Zk9,Zd4,List.length_cons];omega
   ·have HR:Hid (fieldsOf s=none):=by show _=none;rw[<-hq.out,Zhd HT.out hn];rfl
    clear hn hc32;go_wp2;refine⟨rfl,?_⟩;rw[HR.out];exact⟨b,rfl,hb0,hb1,hB.trans (hB3.mono hB.size)⟩
def Q5(k:Za):Option Int:=if k= [105,110,116]then some 1 else if k= [116,101,120,116]then some 2 else none
theorem ZNi(w:World):(zeroValue 246).run prog w= .ok (.int .i64 0) w:=by kernel_rfl
theorem ZfL{w w':World}{b n:Nat}{ks:List Za}(h:Xv w b n ks)(hB:Below w.heap.size w w'):Xv w' b n ks:=by
 obtain⟨es,clock,hb,r⟩:=h;exact⟨es,clock,(hB.block b (ZWU.1 hb).1).trans hb,r⟩
abbrev Zd7(w:World):World:=(w.alloc (.cells #[.string ⟨#[]⟩,.int .i64 0] 248)).alloc (.map #[] 0)
theorem ZMK(w:World)(kind:Za)(hkl:kind.length<=90000):
  ∃w1 w2 ty,
    (Instr.mapUpdate 298 (.map (some (w.heap.size+1))) (.string ⟨#[105,110,116]⟩) (.int .i64 1)).run prog (Zd7 w)= .ok () w1/\
    (Instr.mapUpdate 298 (.map (some (w.heap.size+1))) (.string ⟨#[116,101,120,116]⟩) (.int .i64 2)).run prog w1= .ok () w2/\
    (Instr.lookup 298 (.map (some (w.heap.size+1))) (.string ⟨kind.toArray⟩) true).run prog w2= .ok (.tuple #[.int .i64 ty,.bool (Q5 kind).isSome]) w2/\
    (∀t,Q5 kind=some t->ty=t)/\Below w.heap.size w w2/\w.heap.size+2<=w2.heap.size/\
    w2.cell? ⟨w.heap.size,0,none⟩=some (.string ⟨#[]⟩)/\w2.cell? ⟨w.heap.size,1,none⟩=some (.int .i64 0)/\w2.frozen? ⟨w.heap.size,0,none⟩=false/\w2.frozen? ⟨w.heap.size,1,none⟩=false:=by
 have h0:=World.ownsMap_made (H:=Unit) (w.alloc (.cells #[.string ⟨#[]⟩,.int .i64 0] 248)) prog 9 (plainElem prog 246);rw[World.size_alloc]at h0;obtain⟨w1,hr1,hown1,hg1⟩:=h0.update KA underlying298 ZPq (Kz [105,110,116] ZPm) (plainElem_int underlying246 (a:=1) ZPl);obtain⟨w2,hr2,hown2,hg2⟩:=hown1.update KA underlying298 ZPq (Kz [116,101,120,116] ZPm) (plainElem_int underlying246 (a:=2) ZPl);obtain⟨v,ps,hl,hv⟩:=hown2.look_ok KA underlying298 (ZNi w2) (plainElem_int underlying246 (a:=0) ZPl) (Kz kind U);obtain⟨ty,rfl,hz,_⟩:=plainElem_int_inv underlying246 hv;have hat:=congrArg Prod.fst hz;simp only at hat;have hB0:Below w.heap.size w (Zd7 w):=((ZWT _ w).alloc (ZWS _) _).alloc ZPm _;have hB1:=hB0.grown hg1 ZPo (fun k e=>ZQt);have hB2:=hB1.grown hg2 hB1.size (fun k e=>ZQt);have hs1:=hg1.size;have hs2:=hg2.size;have hblk:w2.heap[w.heap.size]? =(Zd7 w).heap[w.heap.size]? :=(hg2.block w.heap.size (by simp at hs1;omega) ZRZ).trans (hg1.block w.heap.size ZPo ZRZ);refine⟨w1,w2,ty,hr1,hr2,?_,?_,hB2,by simp at hs1;omega,?_,?_,?_,?_⟩
 ·have hh:Maps.has (((DataW.map []).put (YD [105,110,116]) (DataW.lit (Lit.int IntKind.i64 1))).put (YD [116,101,120,116]) (DataW.lit (Lit.int IntKind.i64 2)):DataW Unit) (YD kind)=(Q5 kind).isSome:=by
   unfold Q5;by_cases e1:kind= [105,110,116]
   · rw[ZWR e1,e1];rfl
   · by_cases e2:kind= [116,101,120,116]
     ·rw[ZWQ e1,ZWR e2,e2];rfl
     ·rw[ZWQ e1,ZWQ e2,Maps.has_put_other (show YD kind≠YD [116,101,120,116] from fun e=>e2 (Lit.string.inj e)),Maps.has_put_other (show YD kind≠YD [105,110,116] from fun e=>e1 (Lit.string.inj e))];rfl
  rw[hl,hh]
 ·intro t ht;unfold Q5 at ht;by_cases e1:kind= [105,110,116]
  · rw[ZWR e1]at ht;rw[e1,Maps.atKey_put_other (show YD [105,110,116]≠YD [116,101,120,116] from by intro e;cases e),Maps.atKey_put_same Maps.isMap_empty (show WideAt.IsKeyLit (YD [105,110,116]) from trivial)]at hat;cases ht;cases hat;rfl
  · by_cases e2:kind= [116,101,120,116]
    · rw[ZWQ e1,ZWR e2]at ht;rw[e2,Maps.atKey_put_same (Maps.isMap_empty.put _ _) (show WideAt.IsKeyLit (YD [116,101,120,116]) from trivial)]at hat;cases ht;cases hat;rfl
    · rw[ZWQ e1,ZWQ e2]at ht;cases ht
 ·rw[ZXb hblk];simp[Zd7]
 ·rw[ZXb hblk];simp[Zd7]
 ·rw[World.frozen?_of_block hblk];simp[Zd7]
 ·rw[World.frozen?_of_block hblk];simp[Zd7]
theorem Zv2(R Kb nK:Nat)(Zg:List Za)(line:Int)(name kind:Za)(w:World)(hn:name.length<=90000)(hkl:kind.length<=90000)(hc:w.cell? ⟨R,0,none⟩=some (.int .i64 line))(hk:w.cell? ⟨R,3,none⟩=some (.map (some Kb)))(hK:Xv w Kb nK Zg):
  Calls prog 118 #[.pointer (some ⟨R,0,none⟩),.string ⟨name.toArray⟩,.string ⟨kind.toArray⟩] w fun e w'=>
   (∃ty,Q5 kind=some ty/\Q3 Zg name=true/\e= .returned (.agg #[.string ⟨name.toArray⟩,.int .i64 ty])/\Below w.heap.size w w')\/
   ((Q5 kind=none\/Q3 Zg name=false)/\bad w.heap.size line w e w'):=by
 have hmm:=@run_makeMap prog;have hlt:R<w.heap.size:=ZWW w ⟨R,0,none⟩ hc;obtain⟨w1,w2,ty,hr1,hr2,hl,hty,hB,hs2,hc0,hc1,hf0,hf1⟩:=ZMK w kind hkl;have hcr:w2.cell? ⟨R,0,none⟩=some (.int .i64 line):=(hB.cell (p:=⟨R,0,none⟩) hlt).trans hc;have hkr:w2.cell? ⟨R,3,none⟩=some (.map (some Kb)):=(hB.cell (p:=⟨R,3,none⟩) hlt).trans hk;have hKr:Xv w2 Kb nK Zg:=ZfL hK hB;have HTy:Hid (∀t,Q5 kind=some t->ty=t):=hty;clear hty;cases hto:Q5 kind with
 |none=>
  rw[hto]at hl;simp only[Option.isSome_none]at hl;go_enter func118,ntmps118;go_wp2_with fail;refine(Vr R line _ hcr).mono ?_;rintro e w3 ⟨b,rfl,hb0,hb1,hB3⟩;go_wp2;exact⟨rfl,.inr ⟨.inl trivial,b,rfl,hb0,hb1,hB.trans (hB3.mono hB.size)⟩⟩
 |some t=>
  rw[hto]at hl;simp only[Option.isSome_some]at hl;have HT:Hid (ty=t):=HTy.out t hto;go_enter func118,ntmps118;go_wp2_with fail;refine(ZoQ R Kb nK Zg name _ hn hkr hKr).mono ?_;rintro e w3 ⟨rfl,rfl⟩;generalize hnm:Q3 Zg name=nm;have HN:Hid (Q3 Zg name=nm):=hnm;clear hnm;cases nm
  ·go_wp2_with fail;refine(Vr R line _ hcr).mono ?_;rintro e w3 ⟨b,rfl,hb0,hb1,hB3⟩;go_wp2;exact⟨rfl,.inr ⟨.inr (by first|exact HN.out|rfl|trivial),b,rfl,hb0,hb1,hB.trans (hB3.mono hB.size)⟩⟩
  ·go_wp2_with fail;refine(ZbP _ _).mono ?_;rintro e w3 ⟨rfl,rfl⟩;go_wp2;refine ZW4 (v:=.agg #[.string ⟨name.toArray⟩,.int .i64 ty]) (by simp[results,Tryz.results118,go_sem,hc0,hc1]) rfl (.inl ⟨t,rfl,HN.out,by rw[HT.out],?_⟩);exact(hB.setCell (p:=⟨w.heap.size,0,none⟩) (ZWS _) _).setCell (p:=⟨w.heap.size,1,none⟩) (ZWS _) _
def Zah:Value->Option (DataW Unit×List MemPlace)
 | .int .i64 k=>some (.lit (.int .i64 k), [])
 | .pointer (some ⟨b,0,none⟩)=>some (.lit (.int .u64 b), [])
 | .pointer none=>some (.agg [], [])
 |_=>none
def nI(k:Int):DataW Unit:=.lit (.int .i64 k)
def nP(b:Nat):DataW Unit:=.lit (.int .u64 b)
def Zgj(m:DataW Unit)(x:Za×DataW Unit):DataW Unit:=m.put (YD x.1) x.2
def ET(Qp:List (Za×DataW Unit)):DataW Unit:=Qp.foldl Zgj (.map [])
def Vv(w:World)(b n:Nat)(Qp:List (Za×DataW Unit)):Prop:=w.ownsMap prog 9 Zah b n (ET Qp)
theorem V7{w w':World}{b n:Nat}{ks:List (Za×DataW Unit)}(h:Vv w b n ks)(hB:w'.heap[b]? =w.heap[b]?):Vv w' b n ks:=by
 exact ZVL
theorem Vv.obj{w:World}{b n:Nat}{ks:List (Za×DataW Unit)}(h:Vv w b n ks):∃es ck,w.heap[b]? =some (.map es ck):=by
 obtain⟨es,clock,hb,r⟩:=h;exact⟨es,clock,hb⟩
theorem Zxe{w:World}{b:Nat}(h:w.heap[b]? =some (.map #[] 0)):Vv w b 0 []:=
 ⟨#[],0,h,⟨ZPm,MapKept.stamped_empty 0,ZPm⟩,ZWS _,rfl⟩
theorem ZJq(Qp:List (Za×DataW Unit))(s:Za)(d:DataW Unit):(ET Qp).put (YD s) d=ET (Qp++ [(s,d)]):=by
 unfold ET;rw[List.foldl_append];rfl
theorem Zxc{w w':World}{b n:Nat}{Qp:List (Za×DataW Unit)}{s:Za}{d:DataW Unit}{val:Value}{t e:TypeId}(h:Vv w b n Qp)(ht:prog.underlying t=some (.map 9 e))(hn:n<maxLen)(hk:s.length<=100000)(hv:Zah val=some (d, []))
  (hr:(Instr.mapUpdate t (.map (some b)) (.string ⟨s.toArray⟩) val).run prog w= .ok () w'):Vv w' b (n+1) (Qp++ [(s,d)]):=by
 obtain⟨w2,hr2,ho2,_⟩:=World.ownsMap.update h KA ht hn (Kz s hk) hv;rw[hr]at hr2;cases hr2;rw[ZJq]at ho2;exact ho2
theorem Zxd{D:DataW Unit}(h:Maps.IsMap D)(x:Za×DataW Unit):Maps.IsMap (Zgj D x):=by
 obtain⟨es,rfl⟩:=h;exact⟨_,rfl⟩
theorem ZuO{s x:Za}(h:s≠x):YD s≠YD x:=fun e=>h (by cases e;rfl)
theorem has_fold(s:Za):∀(Qp:List (Za×DataW Unit)) (m:DataW Unit),Maps.IsMap m->Maps.has (Qp.foldl Zgj m) (YD s)=((Qp.map (·.1)).contains s||Maps.has m (YD s))
 | [],m,_=>ZPm
 |x::r,m,hm=>by
  rw[List.foldl_cons,has_fold s r _ (Zxd hm x)];by_cases h:s=x.1
  ·subst h;have:Maps.has (Zgj m x) (YD x.1)=true:=Maps.has_put_same hm (show WideAt.IsKeyLit (YD x.1) from trivial) x.2;rw[this];simp
  ·have:Maps.has (Zgj m x) (YD s)=Maps.has m (YD s):=Maps.has_put_other (ZuO h) x.2;have hb:(s==x.1)=false:=by simpa using h
   rw[this,ZWZ,List.contains_cons,hb,Bool.false_or]
theorem Zkf(Qp:List (Za×DataW Unit))(s:Za):Maps.has (ET Qp) (YD s)=(Qp.map (·.1)).contains s:=by
 unfold ET;rw[has_fold s Qp _ ⟨[],rfl⟩];simp[Maps.has]
theorem Zrb(s:Za)(d z:DataW Unit):∀(Qp:List (Za×DataW Unit)) (m:DataW Unit),Maps.IsMap m->(Qp.map (·.1)).Nodup->((s,d)∈Qp\/(s∉Qp.map (·.1)/\m.atKey (YD s) z=d))->(Qp.foldl Zgj m).atKey (YD s) z=d
 | [],m,_,_,h=>by
  rcases h with h|h
  ·cases h
  ·exact h.2
 |x::r,m,hm,hn,h=>by
  rw[List.foldl_cons];rw[ZWZ,ZYm]at hn;refine Zrb s d z r _ (Zxd hm x) hn.2 ?_;rcases h with h|⟨h1,h2⟩
  ·rcases ZW3.1 h with h|h
   ·subst h;exact .inr ⟨hn.1,Maps.atKey_put_same hm (show WideAt.IsKeyLit (YD s) from trivial) d z⟩
   ·exact ZS3
  ·have hne:s≠x.1:=fun e=>h1 ZQI;exact .inr ⟨fun h=>h1 (by simp only[ZWZ,ZW3];exact .inr h),(Maps.atKey_put_other (ZuO hne) x.2 z).trans h2⟩
theorem Zrc{Qp:List (Za×DataW Unit)}{s:Za}{d z:DataW Unit}(hn:(Qp.map (·.1)).Nodup)(h:(s,d)∈Qp):(ET Qp).atKey (YD s) z=d:=
 Zrb s d z Qp _ ⟨[],rfl⟩ hn (.inl h)
theorem Zsb{v:Value}{k:Int}{ps:List MemPlace}(h:Zah v=some (nI k,ps)):v= .int .i64 k:=by
 unfold Zah nI at h;split at h
 ·cases h;rfl
 ·cases h
 ·cases h
 ·cases h
theorem ZB2{v:Value}{b:Nat}{ps:List MemPlace}(h:Zah v=some (nP b,ps)):v= .pointer (some ⟨b,0,none⟩):=by
 unfold Zah nP at h;split at h
 ·cases h
 ·simp only[ZYe,Prod.mk.injEq,DataW.lit.injEq,Lit.int.injEq,true_and]at h;have:_=b:=Int.ofNat.inj h.1;rw[this]
 ·cases h
 ·cases h
def placesOf(l:List Za):List (Za×DataW Unit):=l.zipIdx.map fun p=>(p.1,nI p.2)
theorem ZJi(l:List Za)(x:Za):placesOf (l++ [x])=placesOf l++ [(x,nI l.length)]:=by
 unfold placesOf;rw[List.zipIdx_append];simp
theorem ZoH(l:List Za):(placesOf l).map (·.1)=l:=by
 unfold placesOf;rw[ZX2];have:((fun x:Za×DataW Unit=>x.1)∘fun p:Za×Nat=>(p.1,nI p.2))=Prod.fst:=rfl;rw[this];simp
theorem ZJj{l:List Za}{i:Nat}(h:i<l.length):(l[i],nI i)∈placesOf l:=by
 unfold placesOf;refine ZXj.2 ⟨(l[i],i),?_,rfl⟩;rw[List.mem_zipIdx_iff_getElem?];exact ZW1 h
theorem Zxp(w:World):(zeroValue 3).run prog w= .ok (.int .i64 0) w:=by kernel_rfl
end Go.Proofs.YthmlacabmlghbaaGreatDoor
