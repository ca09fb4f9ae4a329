import Derived.Test.YthmlacabmlghbaaGreatDoorBgJa32
set_option maxRecDepth 100000
set_option maxHeartbeats 8000000
set_option linter.unusedSimpArgs false
set_option linter.unusedVariables false
namespace Go.Proofs.YthmlacabmlghbaaGreatDoor
open Go.Proofs.Tryz
open Go.RowKit
theorem ZGb(W0 W:World)(b:Nat)(sv av gv:Value)(xs:List XS)(hB0:Below W0.heap.size W0 W)(ho:W.heap[b]? =some (.cells #[sv,av,gv] 256 (0,0)))(hsv:U0 W sv xs)(ht:∀x∈xs,∃B,Qi B W0 x.T x.Ze)(hok:∀x∈xs,Zc1 x.Ze)(hle:xs.length<=3):
  Calls prog 176 #[.pointer (some ⟨b,0,none⟩)] W fun e W'=>∃ea en ec tv,e= .returned (.tuple #[.slice ea en ec,tv])/\Below W.heap.size W W'/\Qj W' tv (JA xs):=by
 have c0:W.cell? ⟨b,0,none⟩=some sv:=ZP7
 have hbl:=(ZWU.1 ho).1;obtain⟨sa,sc,rfl,hsc⟩:=hsv;have EZ:Hid (∀w',Below W.heap.size W w'->∀k (hk:k<xs.length),∃g,sa=some ⟨g,0,none⟩/\w'.cell? ⟨g,k*3,none⟩=some (.string ⟨xs[k].name.toArray⟩)/\w'.cell? ⟨g,k*3+1,none⟩=some (.pointer (some ⟨xs[k].T,0,none⟩))/\w'.cell? ⟨g,k*3+2,none⟩=some (.int .i64 (ZR xs k))):=fun w' hB k hk=>by
  exact ZVM
 have HFL:Hid (∀k,ZR xs k<=6*k):=ZjI xs (fun x hx=>(hok x hx).le);have hW0:Hid (∀w',Below W.heap.size W w'->Below W0.heap.size W0 w'):=fun w' hB=>hB0.trans (hB.mono hB0.size);have HT:=(show Hid _ from ht);have X9:=(show Hid _ from hok);clear hsc ht hok;obtain⟨i0,hi,hz0,hz1,hz2⟩:=ZXd Tryz.Zn9;obtain⟨j0,hj,hy0,hy1,hy2⟩:=ZXd Tryz.Zn8;go_enter func176,ntmps176;go_wp2_with fail;go_loopg [4,5,15] (xs.length+1) (fun gk ev tv iv wr=>∃(k ne:Nat),k<=xs.length/\gk=xs.length-k+1/\iv= .int .i64 k/\ne<=6*k/\Two W.heap.size W ev tv ne (JA (xs.take k)) wr);case atStart=>exact⟨0,0,U,U,rfl,U,Two.start (ZWS _)⟩
 case round=>
  obtain⟨k,ne,hk,rfl,rfl,hne,XQ⟩:=hrel;have hB:Below W.heap.size W wr:=XQ.rx.below (ZWT _ _) (ZWS _);by_cases hlt:k<xs.length
  ·obtain⟨g,rfl,d0,d1,d2⟩:=EZ.out wr hB k hlt;obtain⟨Bt,htk⟩:=HT.out xs[k] (ZWX hlt);obtain⟨gc,cap,P,rv,hTo,hgc,Vk,hPl,hcc,hval⟩:=Zld htk;have HTC:Hid (∀w',Below W.heap.size W w'->w'.cell? ⟨xs[k].T,0,none⟩=some (.slice (some ⟨gc,0,none⟩) xs[k].Ze.length cap)):=fun w' hb=>((hW0.out _ hb).cell (p:=⟨xs[k].T,0,none⟩) Vk).trans ZRz;have hc6:=(X9.out _ (ZWX hlt)).le;have hkf:=HFL.out k;have KI:Hid (xs.take (k+1)=xs.take k++ [xs[k]]):=by show _=_;rw[ZXA hlt]
   have htl:(JA (xs.take k)).length<=18:=by
    have:=ZqF (xs:=xs.take k) (fun x hx=>(X9.out x (List.mem_of_mem_take hx)).le);rw[ZXS]at this;omega
   have Xe:=(show Hid _ from htk);have hki:(k:Int)<(xs.length:Int):=U
   clear htk hTo hcc hval Vk hPl hgc;generalize hxk:xs[k]=x at *;have HXK:=(show Hid _ from hxk);clear hxk;obtain⟨nm,T,Ze⟩:=x;simp only at *;generalize ZR xs k=fk at *;have tA:=fun ob=>HTC.out (wr.alloc ob) (hB.alloc hB.size _);go_wp2_with fail;have hsb:(wr.alloc (.cells #[.string ⟨nm.toArray⟩,.pointer (some ⟨T,0,none⟩),.int .i64 (fk:Int)] 268)).heap[wr.heap.size]? =some (.cells #[.string ⟨nm.toArray⟩,.pointer (some ⟨T,0,none⟩),.int .i64 (fk:Int)] 268 (0,0)):=ZWV wr _;have Zes:=XQ.alloc (.cells #[.string ⟨nm.toArray⟩,.pointer (some ⟨T,0,none⟩),.int .i64 (fk:Int)] 268);generalize wr.alloc (.cells #[.string ⟨nm.toArray⟩,.pointer (some ⟨T,0,none⟩),.int .i64 (fk:Int)] 268)=wA at *;generalize wr.heap.size=sb at *;generalize hat:JA (xs.take k)=ats at *;have HAT:=(show Hid _ from hat);clear tA d0 d1 d2 XQ hB hat;go_loopg [4,5,25] (Ze.length+1) (fun gk ev tv iv w=>∃(c ne:Nat),c<=Ze.length/\gk=Ze.length-c+1/\iv= .int .i64 c/\ne<=6*k+c/\Two W.heap.size wA ev tv ne (ats++(Ze.take c).map (·.2)) w);case atStart=>exact⟨0,ne,U,U,rfl,U,by rw[List.take_zero,ZW2,ZYb];exact⟨Zes.1,Zes.2.1,RX.refl _ _,Zes.2.2.2⟩⟩
   case round=>
    obtain⟨c,Qf,hc,rfl,rfl,hne2,Zer⟩:=hrel;have ZeB:=Zer.rx.keep _ _ _ _ hsb ZPl ZPl;have hB2:Below W.heap.size W wr:=(Zes.rx.trans Zer.rx).below (ZWT _ _) (ZWS _);by_cases hlc:c<Ze.length
    ·have hci:(c:Int)<(Ze.length:Int):=by omega
     obtain⟨s0,s1,s2,_⟩:=YW ZeB;go_wp2_with fail;refine(ZuJ Bt W0 nm T Ze fk c _ Xe.out (hW0.out _ hB2) hlc U).mono ?_;rintro e w2 ⟨rfl,hB3⟩;have Zkc:=Zer.below hB3;have HTN:Hid ((ats++(Ze.take (c+1)).map (·.2))=(ats++(Ze.take c).map (·.2))++ [Ze[c].2]):=by show _=_;rw[ZXA hlc,ZWY,ZW7];rfl
     have hln:(ats++(Ze.take c).map (·.2)).length<=24:=by rw[ZW9,ZW5,ZXS];omega
     generalize (ats++(Ze.take c).map (·.2))=Zq at *;generalize Ze[c].2=ty at *;clear Zer ZeB hB2 hB3 s0 s1 s2;obtain⟨⟨ea,ec,rfl⟩,ta,tc,rfl⟩:=Zkc.slices;have hs2:=Zkc.2.2.2;have HTW:Hid (Two W.heap.size wA (.slice ea Qf ec) (.slice ta Zq.length tc) Qf Zq w2):=Zkc;clear Zkc;go_wp2_with fail;have Zn:(w2.alloc (.cells #[.int .i64 ((fk:Int)+(c:Int)),.int .i64 ty] 346)).heap[w2.heap.size]? =some (.cells #[.int .i64 ((fk:Int)+(c:Int)),.int .i64 ty] 346 (0,0)):=ZWV w2 _;have HTF:Hid (Two W.heap.size (w2.alloc (.cells #[.int .i64 ((fk:Int)+(c:Int)),.int .i64 ty] 346)) (.slice ea Qf ec) (.slice ta Zq.length tc) Qf Zq (w2.alloc (.cells #[.int .i64 ((fk:Int)+(c:Int)),.int .i64 ty] 346))):=(HTW.out.alloc _).self;have HRF:Hid (RX W.heap.size wA (w2.alloc (.cells #[.int .i64 ((fk:Int)+(c:Int)),.int .i64 ty] 346))):=(HTW.out.alloc _).rx;generalize w2.alloc (.cells #[.int .i64 ((fk:Int)+(c:Int)),.int .i64 ty] 346)=wF at *;generalize w2.heap.size=fb at *;obtain⟨f0,f1,_,_⟩:=U5 Zn;have HOB:=(show Hid _ from Zn);have UQ:Hid (∀w',RX W.heap.size wF w'->w'.cell? ⟨fb,0,none⟩=some (.int .i64 ((fk:Int)+(c:Int)))/\w'.cell? ⟨fb,1,none⟩=some (.int .i64 ty)):=fun w' h=>by
      have:=U5 (h.keep _ _ _ _ Zn ZPl ZPl);exact⟨this.1,this.2.1⟩
     clear Zn;go_region_held3 (fun w'=>w'.cell? ⟨fb,0,none⟩=some (.int .i64 ((fk:Int)+(c:Int)))/\w'.cell? ⟨fb,1,none⟩=some (.int .i64 ty)) (go_keep)
      (first
       |(go_at_call 214;refine(ZuF _ _ _).mono ?_;rintro e w4 ⟨x1,x2,x3,rfl,hB4⟩;have Zfz:Two W.heap.size wF (.slice ea Qf ec) (.slice ta Zq.length tc) Qf Zq w4:=Two.below (by repeat (first|exact HTF.out|refine Two.drew ?_|refine Two.drewN ?_ _|refine Two.alloc ?_ _)) hB4;obtain⟨hc0,hc1⟩:=UQ.out _ Zfz.rx;(try have hT4:w4.heap[wF.heap.size]? =some (.cells #[.int .i64 ty] 246 (0,0)):=(hB4.block wF.heap.size ZPm).trans (ZWV _ _)))
       |(refine Zli rfl _ _ rfl W.heap.size wF (.slice ea Qf ec) (.slice ta Zq.length tc) Qf Zq ZQ6 rfl ⟨w4.heap.size,0,none⟩ x1 x2 x3 rfl (ZXm w4 (.func x1 x2 x3) 327 0 _ rfl) U ?_;intro gE Zbq w6 K4 Zey;have hT6:w6.heap[wF.heap.size]? =some (.cells #[.int .i64 ty] 246 (0,0)):=Zey _ _ _ _ ((ZXa _ _ _ (ZWU.1 hT4).1).trans hT4) ZPl;obtain⟨hd0,hd1⟩:=UQ.out _ K4.rx)
       |(refine Zli rfl _ _ rfl W.heap.size wF (.slice ea Qf ec) (.slice ta Zq.length tc) Qf Zq ZQ6 rfl ⟨w4.heap.size,0,none⟩ x1 x2 x3 rfl ((ZW6 _ _ _ (by rw[ZXE];simp)).trans (ZXm w4 (.func x1 x2 x3) 327 0 _ rfl)) U ?_;intro gE Zbq w6 K4 Zey;have hT6:w6.heap[w4.heap.size+1]? =some (.cells #[.int .i64 ty] 246 (0,0)):=Zey _ _ _ _ (by have hq:=ZWV (w4.alloc (.cells #[.func x1 x2 x3] 327 (0,0))) (.cells #[.int .i64 ty] 246 (0,0));rw[World.size_alloc]at hq;exact hq) ZPl;obtain⟨hd0,hd1⟩:=UQ.out _ K4.rx)
       |(refine Zli rfl _ _ rfl W.heap.size wF (.slice ea Qf ec) (.slice ta Zq.length tc) Qf Zq ZQ6 rfl ⟨w4.heap.size+1,0,none⟩ x1 x2 x3 rfl (by have hq:=ZXm (w4.alloc (.cells #[.int .i64 ty] 246 (0,0))) (.func x1 x2 x3) 327;rw[World.size_alloc]at hq;exact hq 0 _ rfl) U ?_;intro gE Zbq w6 K4 Zey;have hT6:w6.heap[w4.heap.size]? =some (.cells #[.int .i64 ty] 246 (0,0)):=Zey _ _ _ _ ((ZXa _ _ _ ZPm).trans (ZWV w4 _)) ZPl;obtain⟨hd0,hd1⟩:=UQ.out _ K4.rx)
       |(refine Zli rfl _ _ rfl W.heap.size wF (.slice ea Qf ec) (.slice ta Zq.length tc) Qf Zq ZQ6 rfl ⟨w4.heap.size,0,none⟩ x1 x2 x3 rfl (ZXm w4 (.func x1 x2 x3) 327 0 _ rfl) U ?_;intro gE Zbq w6 K4 Zey;obtain⟨hd0,hd1⟩:=UQ.out _ K4.rx)
       |(refine Zlj rfl _ _ rfl W.heap.size wF (.slice (some ⟨gE,0,none⟩) (Qf+1) Zbq) (.slice ta Zq.length tc) (Qf+1) Zq ZQ7 rfl ⟨wF.heap.size,0,none⟩ ty rfl ZRD U ?_;intro gT Zg9 w8 EF;obtain⟨hd0,hd1⟩:=UQ.out _ EF.rx)
       |(refine Zlj rfl _ _ rfl W.heap.size wF (.slice (some ⟨gE,0,none⟩) (Qf+1) Zbq) (.slice ta Zq.length tc) (Qf+1) Zq ZQ7 rfl ⟨w4.heap.size+1,0,none⟩ ty rfl ZRD U ?_;intro gT Zg9 w8 EF;obtain⟨hd0,hd1⟩:=UQ.out _ EF.rx)
       |(refine Zlj rfl _ _ rfl W.heap.size wF (.slice (some ⟨gE,0,none⟩) (Qf+1) Zbq) (.slice ta Zq.length tc) (Qf+1) Zq ZQ7 rfl ⟨w4.heap.size,0,none⟩ ty rfl ZRD U ?_;intro gT Zg9 w8 EF;obtain⟨hd0,hd1⟩:=UQ.out _ EF.rx)
       |(refine Zlj rfl _ _ rfl W.heap.size wF (.slice (some ⟨gE,0,none⟩) (Qf+1) Zbq) (.slice ta Zq.length tc) (Qf+1) Zq ZQ7 rfl ⟨w6.heap.size,0,none⟩ ty rfl (ZXm w6 (.int .i64 ty) 246 0 _ rfl) U ?_;intro gT Zg9 w8 EF;obtain⟨hd0,hd1⟩:=UQ.out _ EF.rx))
     all_goals
      have HT8:Hid (Two W.heap.size wA (.slice (some ⟨gE,0,none⟩) (Qf+1) Zbq) (.slice (some ⟨gT,0,none⟩) (Zq.length+1) Zg9) (Qf+1) (Zq++ [ty]) w8):=EF.base HRF.out;clear Zfz hc0 hc1 K4 Zey hd0 hd1 EF f0 f1;go_wp2_with fail;go_roundg (Ze.length-(c+1)+1);case measure=>omega
      case rel=>exact⟨c+1,Qf+1,U,rfl,ZPp,U,by rw[HTN.out];exact HT8.out⟩
    ·obtain rfl:c=Ze.length:=by omega
     rw[ZXB (ZWS _)]at Zer;have HT9:Hid (Two W.heap.size W u4 u5 Qf (JA (xs.take (k+1))) wr):=by
      show Two _ _ _ _ _ _ _;rw[KI.out,Zzb,HAT.out];exact Zer.base Zes.rx
     clear Zer ZeB hB2;go_wp2_with fail;go_roundg (xs.length-(k+1)+1);case measure=>omega
     case rel=>exact⟨k+1,Qf,U,rfl,ZPp,U,HT9.out⟩
  ·obtain rfl:k=xs.length:=by omega
   rw[ZXB (ZWS _)]at XQ;obtain⟨⟨ea,ec,rfl⟩,ta,tc,rfl⟩:=XQ.slices;have V8:Hid (Qj wr (.slice ta (JA xs).length tc) (JA xs)):=Zvu XQ.2.1;clear XQ;go_wp2_with fail;go_ret2;exact⟨_,_,_,_,rfl,hB,V8.out⟩
def Zl0(W0 W:World)(C M:Nat)(cl:Bool)(m:Nat)(ss:List Sc)(nb b:Nat)(r:Jr)(Zq:List Int)(k:Nat)(e:Ending)(W':World):Prop:=
 (r.lost=true/\XD W0.heap.size 5 0 W0 e W')\/(r.lost=false/\∃ea en ec tv,e= .returned (.tuple #[.slice ea en ec,tv])/\Fr ss nb C W W'/\Z7 W0 W' C M (cl||r.ZG) (m+k) ss nb W'.heap.size b/\Qj W' tv Zq)
theorem RX.fr{B nb C:Nat}{ss:List Sc}{W a b:World}(h0:Fr ss nb C W a)(hB:W.heap.size<=B)(h:RX B a b):Fr ss nb C W b:=by
 have hl:∀g,g<W.heap.size->b.heap[g]? =a.heap[g]? :=fun g hg=>h.low g U (by have:=h0.fx.size;omega);refine⟨⟨h.os.trans h0.fx.os,h.tape.trans h0.fx.tape,h.output.trans h0.fx.output,ZW0 h0.fx.size h.size,fun g h1 h2 h3=>(hl g h3).trans (h0.fx.low g h1 h2 h3),fun g ob e hp=>(hl g (ZWU.1 e).1).trans (h0.fx.plain g ob e hp)⟩,fun hp=>?_⟩;have hk:=h0.kp hp;exact⟨h.os.trans hk.os,h.tape.trans hk.tape,h.output.trans hk.output,ZW0 hk.size h.size,fun g h1 h2=>(hl g h2).trans (hk.block g h1 h2)⟩
theorem RX.pin{B:Nat}{W0 a b:World}{C M:Nat}{cl:Bool}{m:Nat}{ss:List Sc}{nb n p:Nat}(h:RX B a b)(hB:W0.heap.size<=B)(hI:Z7 W0 a C M cl m ss nb n p):Z7 W0 b C M cl m ss nb n p:=by
 refine⟨⟨(⟨h.os.trans hI.ck.low.os,h.tape.trans hI.ck.low.tape,h.output.trans hI.ck.low.output,ZW0 hI.ck.low.size h.size,fun g hg=>(h.low g U (by have:=hI.ck.low.size;omega)).trans (hI.ck.low.block g hg)⟩:Below W0.heap.size W0 b),hI.ck.hC,h.keep _ _ _ _ hI.ck.obj ZPl ZPl⟩,Yv.same ⟨fun g cu e=>h.keep _ _ _ _ e ZPl ZPl,fun g cu e=>h.keep _ _ _ _ e ZPl ZPl,fun g cu e=>h.keep _ _ _ _ e ZPl ZPl⟩ ss nb n _ (fun g cu _ e=>h.keep _ _ _ _ e ZPl ZPl) (fun g cu _ e=>h.keep _ _ _ _ e ZPl ZPl) hI.pl,hI.nb,ZW0 hI.n h.size,hI.gl,hI.len⟩
theorem Zob(ss:List Sc):∀l:List Tr,(ZY l ss).1.length=l.length
 | []=>rfl
 |x::l=>by rw[ZY,List.length_cons,List.length_cons,Zob ss l]
theorem ZKJ{ops:Array Oper}{rest:List Oper}{o:Oper}{a:Act}{Q:Exit->Act->World->Prop}{w:World}(hgd:o.guard=none)(s x:Operand)(ho:o.op= .call {callee:=.builtin .append,args:=#[s,x],argTypes:=#[264,264]})
  (B:Nat)(wb:World)(ev tv:Value)(ne:Nat)(Zq:List Int)(XQ:Two B wb ev tv ne Zq w)(hs:a.eval s=ev)(ad:Addr)(f1:Fn)(f2 f3:Array Value)(hx:a.eval x= .slice (some ad) 1 1)(hc:w.cell? (ad.add 0)=some (.func f1 f2 f3))(hne:ne<=1000000)
  (h:∀g cap w',Two B wb (.slice (some ⟨g,0,none⟩) (ne+1) cap) tv (ne+1) Zq w'->wpList prog ops Q rest (a.put o.dst (.slice (some ⟨g,0,none⟩) (ne+1) cap)) w'):wpList prog ops Q (o::rest) a w:=by
 obtain⟨j0,hj,hy0,hy1,hy2⟩:=ZXd Tryz.Zn8;obtain⟨⟨ys,h1⟩,h2,h3,h4⟩:=id XQ;refine wpList_append_lies _ hgd s x 264 ho B 327 j0 .nilFunc 1 8 underlying264 hj hy0 hy1 hy2 rfl ZPl ev ne ys hs h1 ad 1 1 [.func f1 f2 f3] hx rfl (fun j u hj=>?_) ZPA U ZPq U h4 _ rfl ?_
 ·rcases j with _|j
  ·exact ZWF
  ·simp at hj
 ·intro g cap w' hown hgrow _ _;exact h g cap w' (XQ.Zsw hgrow hown)
theorem ZKK{ops:Array Oper}{rest:List Oper}{o:Oper}{a:Act}{Q:Exit->Act->World->Prop}{w:World}(hgd:o.guard=none)(s x:Operand)(ho:o.op= .call {callee:=.builtin .append,args:=#[s,x],argTypes:=#[162,162]})
  (B:Nat)(wb:World)(ev tv:Value)(ne:Nat)(Zq:List Int)(XQ:Two B wb ev tv ne Zq w)(hs:a.eval s=tv)(ad:Addr)(ty:Int)(hx:a.eval x= .slice (some ad) 1 1)(hc:w.cell? (ad.add 0)=some (.int .i64 ty))(hne:Zq.length<=1000000)
  (h:∀g cap w',Two B wb ev (.slice (some ⟨g,0,none⟩) (Zq.length+1) cap) ne (Zq++ [ty]) w'->wpList prog ops Q rest (a.put o.dst (.slice (some ⟨g,0,none⟩) (Zq.length+1) cap)) w'):wpList prog ops Q (o::rest) a w:=by
 obtain⟨j0,hj,hy0,hy1,hy2⟩:=ZXd Tryz.Zn9;obtain⟨⟨ys,h1⟩,h2,h3,h4⟩:=id XQ;refine wpList_append_lies _ hgd s x 162 ho B 246 j0 (.int .i64 0) 1 8 underlying162 hj hy0 hy1 hy2 rfl ZPl tv Zq.length (Zq.map fun j=>Value.int .i64 j) hs h2 ad 1 1 [.int .i64 ty] hx rfl (fun j u hj=>?_) ZPA U ZPq U h4 _ rfl ?_
 ·rcases j with _|j
  ·exact ZWF
  ·simp at hj
 ·exact ZVi
theorem ZGu(W0 W:World)(C M:Nat)(cl:Bool)(m:Nat)(s:Sc)(up:List Sc)(nb n b:Nat)(hI:Z7 W0 W C M cl m (s::up) nb n b):
  Calls prog 127 #[.pointer (some ⟨C,0,none⟩),.slice none 0 0,.pointer (some ⟨b,0,none⟩)] W (Zl0 W0 W C M cl m (s::up) nb b {} ((s.tabs.flatMap (·.types)).map ZI) 0):=by
 obtain⟨b0,sv,av,gv,xs,nb',e,ho,hsv,hsc,ht,hnb,hup,hg⟩:=hI.pl;cases e;have hall:=ZGb W0 W b sv av gv xs hI.ck.low ho hsv ht hsc.ok hsc.le;rw[hsc.JA];have HI:=(show Hid _ from hI);clear hI hg hup ho hsv hsc ht;generalize JA xs=Zq at *;go_enter func127,ntmps127;go_wp2_with fail;refine hall.mono ?_;rintro e w1 ⟨ea,en,ec,tv,rfl,hB,hT⟩;have HT:Hid (Qj w1 tv Zq):=hT;clear hT hall;go_wp2_with fail;go_ret2;exact .inr ⟨rfl,_,_,_,_,rfl,Fr.of_below hB,ZSd,HT.out⟩
theorem ZGs(W0 W:World)(C M:Nat)(cl:Bool)(m:Nat)(ss:List Sc)(nb n b:Nat)(hI:Z7 W0 W C M cl m ss nb n b)(L:List (Value×Za×Tr))(g cap:Nat)(hne:L≠ [])(hp:∀p∈L,XK p.1 p.2.2/\∃n y,p.1= .iface n y)(hll:L.length<=100000)(hm:m+(L.map fun p=>1+sz p.2.2).sum<=1000000)
  (hcells:∀i (h:i<L.length),W0.cell? ⟨g,i*2,none⟩=some L[i].1/\W0.cell? ⟨g,i*2+1,none⟩=some (.string ⟨L[i].2.1.toArray⟩)):
  Calls prog 127 #[.pointer (some ⟨C,0,none⟩),.slice (some ⟨g,0,none⟩) L.length cap,.pointer (some ⟨b,0,none⟩)] W (Zl0 W0 W C M cl m ss nb b (ZY (L.map JU) ss).2 ((ZY (L.map JU) ss).1.map ZI) (L.map fun p=>1+sz p.2.2).sum):=by
 have hl0:(L.length==0)=false:=by
  cases L with
  |nil=>exact ZTr
  |cons x l=>simp
 have hl1:((L.length:Int)==0)=false:=by
  cases L with
  |nil=>exact ZTr
  |cons x l=>simp;omega
 have HP:=(show Hid _ from hp);have HCE:=(show Hid _ from hcells);have HI:=(show Hid _ from hI);have hBs:=hI.nb;have hW0:=hI.ck.low.size;have HJL:Hid (∀k (h:k<L.length),(jx L[k].2.2 ss).2.lost=true->(ZY (L.map JU) ss).2.lost=true):=fun k h hlo=>Zut (ZXj.2 ⟨_,ZWX h,rfl⟩) hlo;have HJN:Hid (∀k (h:k<L.length),ZY ((L.take (k+1)).map JU) ss=((ZY ((L.take k).map JU) ss).1++ [(jx L[k].2.2 ss).1],(ZY ((L.take k).map JU) ss).2.or (jx L[k].2.2 ss).2)):=fun k h=>by
  rw[ZXA h,ZWY,ZWZ,ZW2,Zuu,ZFm]
 have HSN:Hid (∀k (h:k<L.length),((L.take (k+1)).map fun p=>1+sz p.2.2).sum=((L.take k).map fun p=>1+sz p.2.2).sum+(1+sz L[k].2.2)):=fun k h=>by
  rw[ZXA h,ZWY,List.sum_append];simp
 have HSL:Hid (∀k,((L.take k).map fun p=>1+sz p.2.2).sum<=(L.map fun p=>1+sz p.2.2).sum):=fun k=>by
  have:L.map (fun p=>1+sz p.2.2)=(L.take k++L.drop k).map (fun p=>1+sz p.2.2):=by rw[List.take_append_drop]
  rw[this,ZWY,List.sum_append];omega
 have HAL:Hid (ZY ((L.take L.length).map JU) ss=ZY (L.map JU) ss/\((L.take L.length).map fun p=>1+sz p.2.2).sum=(L.map fun p=>1+sz p.2.2).sum):=by rw[ZYv];exact⟨rfl,rfl⟩
 have HJB:Hid (∀k,(ZY ((L.take k).map JU) ss).1.length<=L.length):=fun k=>by rw[Zob,ZW5,ZXS];omega
 have HJ0:Hid (ZY ((L.take 0).map JU) ss=([],{})/\((L.take 0).map fun p=>1+sz p.2.2).sum=0):=⟨rfl,rfl⟩;generalize ZY (L.map JU) ss=RJ at *;generalize (L.map fun p=>1+sz p.2.2).sum=SK at *;obtain⟨J,hJ⟩:∃J:Nat->List Za×Jr,J=fun k=>ZY ((L.take k).map JU) ss:=⟨_,rfl⟩;obtain⟨S,hS⟩:∃S:Nat->Nat,S=fun k=>((L.take k).map fun p=>1+sz p.2.2).sum:=⟨_,rfl⟩;have hJ':∀k,ZY ((L.take k).map JU) ss=J k:=fun k=>by rw[hJ]
 have hS':∀k,((L.take k).map fun p=>1+sz p.2.2).sum=S k:=fun k=>by rw[hS]
 simp only[hJ',hS']at HJN HSN HSL HAL HJ0 HJB;clear hp hcells hI hne hJ hS hJ' hS';go_enter func127,ntmps127;go_wp2_with fail;go_loopg [8,9,23] (L.length+1) (fun gk ev tv iv wr=>∃(k:Nat),k<=L.length/\gk=L.length-k+1/\iv= .int .i64 k/\Two W.heap.size wr ev tv k ((J k).1.map ZI) wr/\Fr ss nb C W wr/\Hid (Z7 W0 wr C M (cl||(J k).2.ZG) (m+S k) ss nb wr.heap.size b)/\Hid ((J k).2.lost=false));case atStart=>
  refine⟨0,U,U,rfl,?_,Fr.refl _ _ _ _,?_,?_⟩
  ·rw[HJ0.out.1];exact Two.start (ZWS _)
  ·show Z7 _ _ _ _ _ _ _ _ _ _;rw[HJ0.out.1,HJ0.out.2,ZYc];exact HI.out.wide (ZWS _)
  ·show _=_;rw[HJ0.out.1]
 case round=>
  obtain⟨k,hk,rfl,rfl,XQ,hF,hI1,hlo⟩:=hrel;by_cases hlt:k<L.length
  ·have hki:(k:Int)<(L.length:Int):=by omega
   obtain⟨q0,q1⟩:=HCE.out k hlt;obtain⟨hex,hif⟩:=HP.out L[k] (ZWX hlt);have hjl:=HJL.out k hlt;have hjn:=HJN.out k hlt;have hsn:=HSN.out k hlt;have hs1:=HSL.out (k+1);generalize hpk:L[k]=p at *;clear hpk;obtain⟨v,nm,t⟩:=p;simp only at *;obtain⟨vn,vy,rfl⟩:=hif;have Eo:Hid (∀w',Below wr.heap.size wr w'->Calls prog 167 #[.pointer (some ⟨C,0,none⟩),.iface vn vy,.pointer (some ⟨b,0,none⟩)] w' (QT W0 w' C M (cl||(J k).2.ZG) (m+S k) ss nb b t)):=fun w' hB=>hex W0 w' C M _ (m+S k) ss nb _ b (hI1.out.below hB) U;have hgl:g<W0.heap.size:=ZWW W0 _ q0;have hB0:=hI1.out.ck.low;have r0:=(hB0.cell (p:=⟨g,k*2,none⟩) hgl).trans q0;have r1:=(hB0.cell (p:=⟨g,k*2+1,none⟩) hgl).trans q1;have HF1:Hid (Fr ss nb C W wr):=hF;have ZlA:=(show Hid _ from hjn);have Zx0:=(show Hid _ from hjl);have Zys:=(show Hid _ from hsn);unfold QT at Eo;clear hex q0 q1 hF hjl hjn hsn hB0;generalize jx t ss=RX at *;obtain⟨ty,rlo,run⟩:=RX;go_wp2_with fail;have Qm:Below wr.heap.size wr (wr.alloc (.cells #[.iface vn vy,.string ⟨nm.toArray⟩] 351)):=(ZWT _ wr).alloc (ZWS _) _;refine(Eo.out _ Qm).mono ?_;rintro e wF (⟨hl2,b',rfl,h0,h1,hB3⟩|⟨hl2,x1,x2,x3,rfl,hF2,hI2⟩)
   ·go_wp2;exact⟨rfl,.inl ⟨Zx0.out hl2,b',rfl,h0,h1,hB3⟩⟩
   ·have Zes:=XQ.below Qm;obtain⟨⟨ys,hoE⟩,hoT,_,hsA⟩:=Zes;have HTF:Hid (Two W.heap.size wF u8 u9 k ((J k).1.map ZI) wF):=⟨⟨ys,hF2.fx.own hoE ZPl⟩,hF2.fx.own hoT ZPl,RX.refl _ _,ZW0 hsA hF2.fx.size⟩;have HF3:Hid (Fr ss nb C W wF):=(HF1.out.trans (Fr.of_below Qm)).trans hF2;have HI3:=(show Hid _ from hI2);have HL2:=(show Hid _ from hl2);obtain⟨⟨ea,ec,rfl⟩,ta,tc,rfl⟩:=HTF.out.slices;have HT1:Hid ((J (k+1)).1.map ZI=(J k).1.map ZI++ [ZI ty]):=by show _=_;rw[ZlA.out];simp
    have hln:((J k).1.map ZI).length<=1000000:=by rw[ZW5];have:=HJB.out k;omega
    clear XQ hF2 hI2 hl2 hoE hoT hsA Qm r0 r1 hgl;generalize (J k).1.map ZI=Zq at *;generalize ZI ty=ty at *;go_wp2_with (at_builtin;first
     |(refine ZKJ rfl _ _ rfl W.heap.size wF (.slice ea k ec) (.slice ta Zq.length tc) k Zq (HTF.out.alloc _) rfl ⟨wF.heap.size,0,none⟩ x1 x2 x3 rfl (ZXm wF (.func x1 x2 x3) 327 0 _ rfl) U ?_;intro gE Zbq w6 K4)
     |(go_must (refine ZKK rfl _ _ rfl W.heap.size wF (.slice (some ⟨gE,0,none⟩) (k+1) Zbq) (.slice ta Zq.length tc) (k+1) Zq (K4.alloc _) rfl ⟨w6.heap.size,0,none⟩ ty rfl (ZXm w6 (.int .i64 ty) 246 0 _ rfl) U ?_);intro gT Zg9 w8 EF))
    go_roundg (L.length-(k+1)+1);case measure=>omega
    case rel=>
     have hu:(cl||(J (k+1)).2.ZG)=((cl||(J k).2.ZG)||run):=by rw[ZlA.out];simp[Jr.or,ZXx]
     have Zkk:(J (k+1)).2.lost=false:=by
      have h2:=HL2.out;rw[ZlA.out];simp[Jr.or,hlo.out,h2]
     refine⟨k+1,U,rfl,ZPp,by rw[HT1.out];exact EF.self,EF.rx.fr HF3.out (ZWS _),?_,Zkk⟩;show Z7 _ _ _ _ _ _ _ _ _ _;rw[hu];exact(EF.rx.pin hW0 HI3.out).wide (by rw[Zys.out];omega)
  ·obtain rfl:k=L.length:=by omega
   obtain⟨⟨ea,ec,rfl⟩,ta,tc,rfl⟩:=XQ.slices;have V8:Hid (Qj wr (.slice ta ((J L.length).1.map ZI).length tc) ((J L.length).1.map ZI)):=Zvu XQ.2.1;clear XQ;rw[HAL.out.1]at *;rw[HAL.out.2]at hI1;generalize (RJ.1.map ZI)=Zq at *;go_wp2_with fail;go_ret2;exact .inr ⟨hlo.out,_,_,_,_,rfl,hF,hI1.out,V8.out⟩
def IfV(v:Value):Prop:=v= .nilIface\/∃n y,v= .iface n y
theorem ZCT{ti tg:Tr}{L:List (Value×Za×Tr)}{gl:Nat}(hc:ZL ti=L.any fun p=>ZL p.2.2)(hg:tg.len=gl):KZ ti tg=(decide (0<gl)||(L.map fun p=>p.2.2).any ZL):=by
 unfold KZ;rw[hc,hg,Bool.or_comm,List.any_map];rfl
theorem ZGz(W:World)(d:Bool)(ia:Option Addr)(ic:Nat)(fa:Option Addr)(fl fc:Nat)(wv hv:Value)(ga:Option Addr)(gl gc:Nat)(L:List (Value×Za×Tr))(hw:IfV wv)(hh:IfV hv)(hI:ItC W ia (L.map itV))(hl:L.length<=100000)(hgl:gl<=100000)(hp:∀p∈L,UW p.1 p.2.2/\∃n y,p.1= .iface n y):
  Calls prog 124 #[.agg #[.bool d,.slice ia L.length ic,.slice fa fl fc,wv,.slice ga gl gc,hv]] W fun e w'=>e= .returned (.bool (decide (0<gl)||(L.map fun p=>p.2.2).any ZL))/\Below W.heap.size W w':=by
 have HC:Hid (∀w',Below W.heap.size W w'->Calls prog 173 #[.slice ia L.length ic,.func (.func 174) #[] #[]] w' fun e w2=>e= .returned (.bool ((L.map fun p=>p.2.2).any ZL))/\Below w'.heap.size w' w2):=fun w' hB=>by
  have:=ZGh w' ia ic (L.map itV) (L.map fun p=>p.2.2) (ItC.below (n:=0) hI hB) (by rw[ZW5,ZW5]) (by rw[ZW5];exact hl) (fun i x t hx ht=>by
   rw[ZXU]at hx ht;cases hpi:L[i]? with
   |none=>rw[hpi]at hx;cases hx
   |some p=>
    rw[hpi]at hx ht;cases hx;cases ht;obtain⟨h1,h2⟩:=hp p (ZXW hpi);exact⟨h2,⟨p.2.1,rfl⟩,h1⟩)
  rw[ZW5]at this;exact this
 clear hI hp;generalize (L.map fun p=>p.2.2).any ZL=R at *;generalize L.length=ll at *;by_cases hg:0<gl
 ·have hg1:(0:Int)<(gl:Int):=by omega
  have HG:Hid ((decide (0<gl)||R)=true):=by show _=_;simp[hg]
  rcases hw with rfl|⟨wn,wy,rfl⟩<;>rcases hh with rfl|⟨hn,hy,rfl⟩;all_goals
   generalize (decide (0<gl)||R)=RR at *;go_enter func124,ntmps124;go_wp2_with fail;go_ret;exact⟨by rw[HG.out];rfl,(ZWT _ W).alloc (ZWS _) _⟩
 ·obtain rfl:gl=0:=by omega
  rw[ZXD U,Bool.false_or];rcases hw with rfl|⟨wn,wy,rfl⟩<;>rcases hh with rfl|⟨hn,hy,rfl⟩;all_goals
   go_enter func124,ntmps124;go_wp2_with fail;have ZE:=fun ob=>(ZWT W.heap.size W).alloc (ZWS _) ob;refine(HC.out _ (ZE _)).mono ?_;rintro e w2 ⟨rfl,hB2⟩;go_wp2_with fail;go_ret;exact⟨rfl,(ZE _).trans (hB2.mono ZPm)⟩
structure ZdY (W0:World) (iv fv gv wv hv:Value) (star:Bool) (ti tf tg tw th:Tr) (L:List (Value×Za×Tr)) (YY YT:List (Za×Za)):Prop where
 items:(star=true/\iv= .slice none 0 0/\L= [])\/(star=false/\L≠ []/\∃g cap,iv= .slice (some ⟨g,0,none⟩) L.length cap/\∀i (h:i<L.length),W0.cell? ⟨g,i*2,none⟩=some L[i].1/\W0.cell? ⟨g,i*2+1,none⟩=some (.string ⟨L[i].2.1.toArray⟩))
 itp:∀p∈L,XK p.1 p.2.2/\UW p.1 p.2.2/\∃n y,p.1= .iface n y
 ite:elems ti=L.map JU
 its:sz ti=(L.map fun p=>1+sz p.2.2).sum
 itc:ZL ti=L.any fun p=>ZL p.2.2
 itl:L.length<=100000
 src:∃g cap,fv= .slice (some ⟨g,0,none⟩) YY.length cap/\∀i (h:i<YY.length),W0.cell? ⟨g,i*2,none⟩=some (.string ⟨YY[i].1.toArray⟩)/\W0.cell? ⟨g,i*2+1,none⟩=some (.string ⟨YY[i].2.toArray⟩)
 sre:elems tf=YY.map Zal
 srl:∀p∈YY,p.1.length<=1000/\p.2.length<=1000
 srn:YY.length<=100000
 YB:∃ga cap,gv= .slice ga YT.length cap/\∀i (h:i<YT.length),∃g,ga=some ⟨g,0,none⟩/\W0.cell? ⟨g,i*2,none⟩=some (.string ⟨YT[i].1.toArray⟩)/\W0.cell? ⟨g,i*2+1,none⟩=some (.string ⟨YT[i].2.toArray⟩)
 gre:elems tg=YT.map Ev
 grl:∀p∈YT,p.2.length<=1000
 grn:YT.length<=400
 Q6:(wv= .nilIface/\tw= .nil)\/((∃n y,wv= .iface n y)/\Vw W0 wv tw)
 Qn:(hv= .nilIface/\th= .nil)\/((∃n y,hv= .iface n y)/\Vw W0 hv th)
theorem ZrY{W0:World}{x:Value}{t:Tr}(h:(x= .nilIface/\t= .nil)\/((∃n y,x= .iface n y)/\Vw W0 x t))(W:World)(C M:Nat)(db:List Tb)(cl:Bool)(m:Nat)(ss:List Sc)(nb n b:Nat)(hD:J4 W0 M db)(hI:Z7 W0 W C M cl m ss nb n b)(hs:ss.length+sz t<=1000000)(hm:m+sz t<=1000000):
  Calls prog 122 #[.pointer (some ⟨C,0,none⟩),x,.pointer (some ⟨b,0,none⟩)] W (En W0 W C M cl m ss nb b (jc db t ss) (sz t)):=by
 rcases h with⟨rfl,rfl⟩|⟨_,hc⟩
 ·exact ZBl W0 W C M cl m ss nb n b hI
 ·exact hc W C M db cl m ss nb n b hD hI hs hm
theorem ZdY.ifs{W0:World}{iv fv gv wv hv:Value}{star:Bool}{ti tf tg tw th:Tr}{L:List (Value×Za×Tr)}{YY YT:List (Za×Za)}(h:ZdY W0 iv fv gv wv hv star ti tf tg tw th L YY YT):IfV wv/\IfV hv:=
 ⟨h.Q6.imp (fun a=>a.1) (fun a=>a.1),h.Qn.imp (fun a=>a.1) (fun a=>a.1)⟩
theorem Zd6{w:World}{T:Nat}{c0 c1 c2 c3 c4 c5:Value}{ty:TypeId}(h:w.heap[T]? =some (.cells #[c0,c1,c2,c3,c4,c5] ty (0,0))):
  w.cell? ⟨T,0,none⟩=some c0/\w.cell? ⟨T,1,none⟩=some c1/\w.cell? ⟨T,2,none⟩=some c2/\w.cell? ⟨T,3,none⟩=some c3/\w.cell? ⟨T,4,none⟩=some c4/\w.cell? ⟨T,5,none⟩=some c5:=
 ⟨ZPy,ZPy,ZPy,ZPy,ZPy,ZPy⟩
theorem ZFW{R:List Za×Jr}{a:List Za}{jw jh x:Jr}(h:R=(a,(jw.or jh).or x))(hl:jw.lost=true):R.2.lost=true:=by rw[h];simp[Jr.or,hl]
theorem ZFV{R:List Za×Jr}{a:List Za}{jw jh x:Jr}(h:R=(a,(jw.or jh).or x))(hl:jh.lost=true):R.2.lost=true:=by rw[h];simp[Jr.or,hl]
theorem Zoc{R:List Za×Jr}{a:List Za}{jw jh x:Jr}(h:R=(a,(jw.or jh).or x))(hl:x.lost=true):R.2.lost=true:=by rw[h];simp[Jr.or,hl]
theorem Tryz.ZEI:(prog.info? 136).map (fun i=>(i.zero,i.size,i.bytes))=some (some (.pointer none),1,8):=by kernel_rfl
theorem Zdk{w:World}{T j:Nat}{cu:Array Value}{v:Value}{ty:TypeId}(h:w.heap[T]? =some (.cells cu ty (0,0)))(hv:cu[j]? =some v):w.cell? ⟨T,j,none⟩=some v:=by simp[World.cell?,h,hv]
theorem ZGN{rs n ty sz k:Nat}{wc w wq w7:World}{v u:Value}{ys:List Value}{o:Nat}(hK:Zb rs wc w)(hB:Below w.heap.size w wq)(hn:n=wc.heap.size)(hown:wq.ownsRow n ty sz v k ys)(hg:wq.grownBy w7 v.ownBlock):Zb rs wc (w7.setCell ⟨rs,o,none⟩ u):=by
 refine⟨hg.os.trans (hB.os.trans hK.os),hg.tape.trans (hB.tape.trans hK.tape),hg.output.trans (hB.output.trans hK.output),?_,fun g h1 h2=>?_⟩
 ·have:=hg.size;have:=hB.size;have:=hK.size;simp;omega
 ·have:=hB.size;have:=hK.size;refine(ZXf w7 ⟨rs,o,none⟩ _ g h1).trans ((hg.block g U fun e=>?_).trans ((hB.block g U).trans (hK.block g h1 h2)));have:=(hown.lt g e.symm).1;omega
structure Zcc (W0 W:World) (C M:Nat) (cl:Bool) (m:Nat) (s1:Sc) (up:List Sc) (rb:Nat) (Kw pc:Array Value) (sv:Value) (xs:List XS) (kv:Value) (ks:List Nat) (w:World):Prop where
 pin:Z7 W0 w C M cl m (s1::up) W.heap.size w.heap.size rb
 keep:Zb C W w
 Yk:w.heap[W.heap.size]? =some (.cells Kw 217 (0,0))
 row:w.heap[rb]? =some (.cells pc 256 (0,0))
 XC:U0 w sv xs
 keys:KJ w kv ks
theorem ZfK{rs:Nat}{w w':World}(hK:Zb rs w w')(hr:∃cu,w.heap[rs]? =some (.cells cu 266 (0,0)))(g:Nat)(cu:Array Value)(ty:TypeId)(e:w.heap[g]? =some (.cells cu ty (0,0)))(ht:ty≠266):w'.heap[g]? =some (.cells cu ty (0,0)):=by
 obtain⟨cu',hr⟩:=hr;refine(hK.block g (fun eg=>?_) (ZWU.1 e).1).trans e;rw[eg,hr]at e;cases e;exact ht rfl
theorem Z7.Zie{W0 w w':World}{C M:Nat}{cl:Bool}{m:Nat}{ss:List Sc}{nb n b rs:Nat}(h:Z7 W0 w C M cl m ss nb n b)(hK:Zb rs w w')(hr:∃cu,w.heap[rs]? =some (.cells cu 266 (0,0)))(hrs:W0.heap.size<=rs):Z7 W0 w' C M cl m ss nb n b:=by
 have hx:=ZfK hK hr;refine⟨⟨⟨hK.os.trans h.ck.low.os,hK.tape.trans h.ck.low.tape,hK.output.trans h.ck.low.output,ZW0 h.ck.low.size hK.size,fun g hg=>(hK.block g U (by have:=h.ck.low.size;omega)).trans (h.ck.low.block g hg)⟩,h.ck.hC,hx _ _ _ h.ck.obj ZPl⟩,Yv.same ⟨fun g cu e=>hx _ _ _ e ZPl,fun g cu e=>hx _ _ _ e ZPl,fun g cu e=>hx _ _ _ e ZPl⟩ ss nb n _ (fun g cu _ e=>hx _ _ _ e ZPl) (fun g cu _ e=>hx _ _ _ e ZPl) h.pl,h.nb,ZW0 h.n hK.size,h.gl,h.len⟩
theorem Zcc.Zie{W0 W:World}{C M:Nat}{cl:Bool}{m:Nat}{s1:Sc}{up:List Sc}{rb:Nat}{Kw pc:Array Value}{sv:Value}{xs:List XS}{kv:Value}{ks:List Nat}{w w':World}{rs:Nat}(h:Zcc W0 W C M cl m s1 up rb Kw pc sv xs kv ks w)(hK:Zb rs w w')(hr:∃cu,w.heap[rs]? =some (.cells cu 266 (0,0)))(hrs:W.heap.size<=rs)(h0:W0.heap.size<=W.heap.size):Zcc W0 W C M cl m s1 up rb Kw pc sv xs kv ks w':=by
 have hx:=ZfK hK hr;have hp:=h.pin.Zie hK hr U;refine⟨hp.wide (ZWS _),⟨hK.os.trans h.keep.os,hK.tape.trans h.keep.tape,hK.output.trans h.keep.output,ZW0 h.keep.size hK.size,fun g h1 h2=>(hK.block g U ZRE).trans (h.keep.block g h1 h2)⟩,hx _ _ _ h.Yk ZPl,hx _ _ _ h.row ZPl,h.XC.same (fun g cu e=>hx _ _ _ e ZPl),h.keys.same (fun g cu e=>hx _ _ _ e ZPl)⟩
theorem Zcc.below{W0 W:World}{C M:Nat}{cl:Bool}{m:Nat}{s1:Sc}{up:List Sc}{rb:Nat}{Kw pc:Array Value}{sv:Value}{xs:List XS}{kv:Value}{ks:List Nat}{w w':World}(h:Zcc W0 W C M cl m s1 up rb Kw pc sv xs kv ks w)(hB:Below w.heap.size w w'):Zcc W0 W C M cl m s1 up rb Kw pc sv xs kv ks w':=by
 have hx:∀(g:Nat) (ob:Obj),w.heap[g]? =some ob->w'.heap[g]? =some ob:=fun g ob e=>(hB.block g (ZWU.1 e).1).trans e;exact⟨(h.pin.below hB).wide (ZWS _),h.keep.trans (Zb.of_below hB),hx _ _ h.Yk,hx _ _ h.row,h.XC.same (fun g cu e=>hx _ _ e),h.keys.same (fun g cu e=>hx _ _ e)⟩
structure E5 (W0 W:World) (C M:Nat) (cl:Bool) (m:Nat) (s2:Sc) (up:List Sc) (ab Vp rs:Nat) (Kw rc:Array Value) (w:World):Prop where
 pin:Z7 W0 w C M cl m (s2::up) Vp w.heap.size ab
 keep:Zb C W w
 nb:W.heap.size<=Vp
 Yk:w.heap[W.heap.size]? =some (.cells Kw 217 (0,0))
 res:w.heap[rs]? =some (.cells rc 266 (0,0))
theorem E5.fr{W0 W:World}{C M:Nat}{cl cl':Bool}{m m':Nat}{s2:Sc}{up:List Sc}{ab Vp rs:Nat}{Kw rc:Array Value}{w w':World}(h:E5 W0 W C M cl m s2 up ab Vp rs Kw rc w)(hF:Fr (s2::up) Vp C w w')(hI:Z7 W0 w' C M cl' m' (s2::up) Vp w'.heap.size ab):E5 W0 W C M cl' m' s2 up ab Vp rs Kw rc w':=
 ⟨hI,⟨hF.fx.os.trans h.keep.os,hF.fx.tape.trans h.keep.tape,hF.fx.output.trans h.keep.output,ZW0 h.keep.size hF.fx.size,fun g h1 h2=>(hF.fx.low g (by have:=h.nb;omega) h1 ZRE).trans (h.keep.block g h1 h2)⟩,h.nb,hF.fx.obj h.Yk ZPl,hF.fx.obj h.res ZPl⟩
theorem E5.set{W0 W:World}{C M:Nat}{cl:Bool}{m:Nat}{s2:Sc}{up:List Sc}{ab Vp rs:Nat}{Kw rc:Array Value}{w:World}(h:E5 W0 W C M cl m s2 up ab Vp rs Kw rc w)(hrs:W.heap.size<=rs)(h0:W0.heap.size<=W.heap.size)(j:Nat)(u:Value):E5 W0 W C M cl m s2 up ab Vp rs Kw (rc.setIfInBounds j u) (w.setCell ⟨rs,j,none⟩ u):=by
 have hK:=Zb.set rs w j u;have hx:=ZfK hK ⟨_,h.res⟩;exact⟨(h.pin.Zie hK ⟨_,h.res⟩ U).wide (ZWS _),⟨hK.os.trans h.keep.os,hK.tape.trans h.keep.tape,hK.output.trans h.keep.output,ZW0 h.keep.size hK.size,fun g h1 h2=>(hK.block g U ZRE).trans (h.keep.block g h1 h2)⟩,h.nb,hx _ _ _ h.Yk ZPl,Xn h.res⟩
theorem Z7.ZKz{W0 w:World}{C M:Nat}{cl:Bool}{m:Nat}{s1 s2:Sc}{up:List Sc}{nb n b:Nat}(h:Z7 W0 w C M cl m (s1::up) nb n b)(hn:s2.names=s1.names)(ht:s2.tabs=s1.tabs)(h1:s1.phase≠YV)(h2:s2.phase≠YV)(hg:s2.groups.length<=400):Z7 W0 w C M cl m (s2::up) nb n b:=by
 obtain⟨b',sv,av,gv,xs,nb',e,ho,hsv,hsc,htb,hnb,hup,hgr⟩:=h.pl;refine⟨h.ck,⟨b',sv,av,gv,xs,nb',e,ho,hsv,⟨by rw[ht];exact hsc.len,by rw[hn];exact hsc.names,by rw[ht];exact hsc.tabs,by rw[hn];exact hsc.nd,by rw[hn];exact hsc.ne,hsc.le,hsc.ok⟩,htb,hnb,hup,?_⟩,h.nb,h.n,fun s hs=>?_,h.len⟩
 ·rcases hgr with⟨_,hg0⟩|⟨hp,_⟩
  ·exact .inl ⟨h2,hg0⟩
  ·exact absurd hp h1
 ·rcases ZW3.1 hs with rfl|hs
  ·exact hg
  ·exact h.gl s (ZXe _ hs)
theorem Z7.group{W0 w w':World}{C M:Nat}{cl:Bool}{m:Nat}{s1 s2:Sc}{up:List Sc}{nb n rb p G:Nat}{sv kv:Value}{oa:Option Addr}{xs:List XS}{cs:List (Nat×Nat)}(h:Z7 W0 w C M cl m (s1::up) nb n rb)(hrow:w.heap[rb]? =some (.cells #[sv,.pointer oa,.pointer none] 256 (0,0)))(hsv:U0 w sv xs)(hsc:Xk s1 xs)(htb:∀x∈xs,∃B,Qi B W0 x.T x.Ze)(hk:KJ w kv (cs.map fun p=>ZR xs p.1+p.2))
  (hB:Below w.heap.size w w')(hp:w'.heap[p]? =some (.cells #[sv,.pointer oa,.pointer (some ⟨G,0,none⟩)] 256 (0,0)))(hG:w'.heap[G]? =some (.cells #[kv,.pointer (some ⟨rb,0,none⟩),.slice none 0 0] 274 (0,0)))(hGe:w.heap.size<=G)
  (hn:s2.names=s1.names)(ht:s2.tabs=s1.tabs)(h2:s2.phase=YV)(hg:s2.groups=cs.map fun p=>QP p.1 p.2)(hc:∀p∈cs,∃x,xs[p.1]? =some x/\p.2<x.Ze.length)(hgl:s2.groups.length<=400):Z7 W0 w' C M cl m (s2::up) w.heap.size w'.heap.size p:=by
 obtain⟨b',sv',av,gv,xs',nb',e,ho,_,_,_,hnb,hup,_⟩:=h.pl;cases e;rw[hrow]at ho;cases ho;have hx:∀(g:Nat) (ob:Obj),w.heap[g]? =some ob->w'.heap[g]? =some ob:=fun g ob e=>(hB.block g (ZWU.1 e).1).trans e;have hs:=hB.size;have hnn:=h.n;have hGl:=(ZWU.1 hG).1;refine⟨h.ck.below hB,⟨p,_,_,_,xs,nb',rfl,hp,hsv.same (fun g cu e=>hx _ _ e),⟨by rw[ht];exact hsc.len,by rw[hn];exact hsc.names,by rw[ht];exact hsc.tabs,by rw[hn];exact hsc.nd,by rw[hn];exact hsc.ne,hsc.le,hsc.ok⟩,htb,hs,Yv.wide (Yv.below hup hB) (ZWS _) U,.inr ⟨h2,G,kv,.slice none 0 0,rb,cs,rfl,hGe,hGl,hG,hk.same (fun g cu e=>hx _ _ e),⟨hg,hc⟩,hx _ _ hrow,⟨0, [],ZW8 _,ZXp _ _ _ _⟩,(fun g hg=>by cases hg)⟩⟩,by have:=h.nb;omega,ZWS _,fun s hs=>?_,h.len⟩;rcases ZW3.1 hs with rfl|hs
 ·exact hgl
 ·exact h.gl s (ZXe _ hs)
theorem Zhi:∀(l:List Tr) (ss:List Sc) (gs:List Za) (b:Bool),(YO l ss gs b).1.length<=gs.length+l.length
 | [],_,gs,_=>ZWS _
 | .nil::r,ss,gs,b=>by have:=Zhi r ss gs true;simp only[YO,List.length_cons];omega
 | .cons _ _::r,ss,gs,b=>by have:=Zhi r ss gs true;simp only[YO,List.length_cons];omega
 | .node f _ _ _ _ _ _::r,ss,gs,b=>by
  rw[YO];split
  ·rename_i i c _;have:=Zhi r ss (gs++ [QP i c]) b;exact ZWm
  ·have:=Zhi r ss gs true;exact ZWK
theorem ZGt{W0:World}{iv fv gv wv hv:Value}{star:Bool}{ti tf tg tw th:Tr}{L:List (Value×Za×Tr)}{YY YT:List (Za×Za)}(hS:ZdY W0 iv fv gv wv hv star ti tf tg tw th L YY YT)(W:World)(C M:Nat)(cl:Bool)(m:Nat)(s2:Sc)(up:List Sc)(nb n b:Nat)(hI:Z7 W0 W C M cl m (s2::up) nb n b)(hm:m+sz ti<=1000000):
  Calls prog 127 #[.pointer (some ⟨C,0,none⟩),iv,.pointer (some ⟨b,0,none⟩)] W (Zl0 W0 W C M cl m (s2::up) nb b (ZY (elems ti) (s2::up)).2 (((ZY (elems ti) (s2::up)).1++(if star then s2.tabs.flatMap (·.types)else[])).map ZI) (sz ti)):=by
 rw[hS.ite,hS.its];rw[hS.its]at hm;rcases hS.items with⟨rfl,rfl,rfl⟩|⟨rfl,hne,g,cap,rfl,hc⟩
 ·have:=ZGu W0 W C M cl m s2 up nb n b hI;simpa[ZY]using this
 ·have:=ZGs W0 W C M cl m (s2::up) nb n b hI L g cap hne (fun p hp=>⟨(hS.itp p hp).1,(hS.itp p hp).2.2⟩) hS.itl hm hc;exact ZWN
theorem ZFo{W0:World}{iv fv gv wv hv:Value}{star:Bool}{ti tf tg tw th:Tr}{L:List (Value×Za×Tr)}{YY YT:List (Za×Za)}(hS:ZdY W0 iv fv gv wv hv star ti tf tg tw th L YY YT){s1:Sc}{xs:List XS}(hsc:Xk s1 xs)(ss:List Sc):(((ZY (elems ti) ss).1++(if star then s1.tabs.flatMap (·.types)else[])).map ZI).length<=100000:=by
 have h1:=hS.itl;rw[ZW5,ZW9,Zob,hS.ite,ZW5];rcases hS.items with⟨rfl,_,rfl⟩|⟨rfl,_⟩
 ·have h2:=congrArg List.length hsc.JA;rw[ZW5]at h2;have h3:=ZqF (xs:=xs) (fun x hx=>(hsc.ok x hx).le);have h4:=hsc.le;simp only[ZXR,List.length_nil];omega
 ·simpa using h1
end Go.Proofs.YthmlacabmlghbaaGreatDoor
