import Derived.Test.YthmlacabmlghbaaGreatDoorBgJa42
set_option maxRecDepth 100000
set_option maxHeartbeats 8000000
set_option linter.unusedSimpArgs false
set_option linter.unusedVariables false
namespace Go.Proofs.YthmlacabmlghbaaGreatDoor
open Go.Proofs.Tryz
open Go.RowKit
section
open NT
def QV(first:NT)(one:Option (T×NT))(two:Bool)(w:List T)(i j q:Nat):Prop:=(∀u n,one=some (u,n)->w[q]? =some u->G first (st w i q)->¬G n (st w (q+1) j))/\(two=true->w[q]? =some T.group->w[q+1]? =some T.Y7->G first (st w i q)->¬G Z6 (st w (q+2) j))
def ZgK(first:NT)(one:Option (T×NT))(two:Bool)(w:List T)(i j p:Nat):Prop:=¬G first (st w i j)/\∀q,i<q->q<p->QV first one two w i j q
theorem Zov{k first:NT}{one:Option (T×NT)}{two:Bool}{w:List T}{i j:Nat}(hj:j<=w.length)
  (hinv:∀l,G k l->G first l\/(∃u n a b,one=some (u,n)/\l=a++u::b/\G first a/\G n b)\/(two=true/\∃a b,l=a++T.group::T.Y7::b/\G first a/\G Z6 b))(h:ZgK first one two w i j j):¬G k (st w i j):=by
 intro hg;have hlt:∀{p:Nat},G first (st w i p)->i<p:=fun {p} ha=>by
  have hne:=EB ha;by_cases hh:i<p
  ·exact hh
  ·exact ZWk
 rcases hinv _ hg with h1|⟨u,n,a,b,e0,e,ha,hb⟩|⟨e0,a,b,e,ha,hb⟩
 ·exact h.1 h1
 ·obtain⟨p,p1,p2,rfl,p3,rfl⟩:=ZdQ hj e;exact(h.2 p (hlt ha) p2).1 u n e0 p3 ha hb
 ·obtain⟨p,p1,p2,rfl,p3,p4⟩:=ZdQ hj e;have VU:p+1<j:=by
   by_cases hh:p+1<j
   ·exact hh
   ·rw[Ky w U]at p4;cases p4
  rw[Q4 w VU hj]at p4;obtain⟨e1,rfl⟩:=ZXk p4;exact(h.2 p (hlt ha) p2).2 e0 p3 ZSs ha hb
theorem ZE2(l:List T)(h:G tail l):G sources l\/(∃u n a b,some (T.Y2,after)=some (u,n)/\l=a++u::b/\G sources a/\G n b)\/(true=true/\∃a b,l=a++T.group::T.Y7::b/\G sources a/\G Z6 b):=by
 rcases(ZFe l).1 h with h|⟨a,b,e,h1,h2⟩|⟨a,b,e,h1,h2⟩
 ·exact ZS3
 ·exact .inr (.inl ⟨_,_,a,b,rfl,e,h1,h2⟩)
 ·exact .inr (.inr ⟨rfl,a,b,e,h1,h2⟩)
theorem ZE0(l:List T)(h:G after l):G cnd l\/(∃u n a b,(none:Option (T×NT))=some (u,n)/\l=a++u::b/\G cnd a/\G n b)\/(true=true/\∃a b,l=a++T.group::T.Y7::b/\G cnd a/\G Z6 b):=by
 rcases(ZE3 l).1 h with h|⟨a,b,e,h1,h2⟩
 ·exact ZS3
 ·exact .inr (.inr ⟨rfl,a,b,e,h1,h2⟩)
theorem ZE1(l:List T)(h:G Z6 l):G Zu l\/(∃u n a b,some (T.having,cnd)=some (u,n)/\l=a++u::b/\G Zu a/\G n b)\/(false=true/\∃a b,l=a++T.group::T.Y7::b/\G Zu a/\G Z6 b):=by
 rcases(ZE9 l).1 h with h|⟨a,b,e,h1,h2⟩
 ·exact ZS3
 ·exact .inr (.inl ⟨_,_,a,b,rfl,e,h1,h2⟩)
theorem Zol{ws:List RW}(ok:∀w∈ws,Yi w)(p:Nat):
  (ZJ ws (p:Int) [119,104,101,114,101]=true/\ZJ ws (p:Int) [103,114,111,117,112]=false/\ZJ ws (p:Int) [104,97,118,105,110,103]=false)\/
  (ZJ ws (p:Int) [119,104,101,114,101]=false/\ZJ ws (p:Int) [103,114,111,117,112]=true/\ZJ ws (p:Int) [104,97,118,105,110,103]=false)\/
  (ZJ ws (p:Int) [119,104,101,114,101]=false/\ZJ ws (p:Int) [103,114,111,117,112]=false/\ZJ ws (p:Int) [104,97,118,105,110,103]=true)\/
  (ZJ ws (p:Int) [119,104,101,114,101]=false/\ZJ ws (p:Int) [103,114,111,117,112]=false/\ZJ ws (p:Int) [104,97,118,105,110,103]=false):=by
 have h1:=ZZ ok ([119,104,101,114,101],T.Y2) ZPl ZPl p;have h2:=ZZ ok ([103,114,111,117,112],T.group) ZPl ZPl p;have h3:=ZZ ok ([104,97,118,105,110,103],T.having) ZPl ZPl p;simp only at h1 h2 h3;cases e1:ZJ ws (p:Int) [119,104,101,114,101]<;>cases e2:ZJ ws (p:Int) [103,114,111,117,112]<;>cases e3:ZJ ws (p:Int) [104,97,118,105,110,103]<;>simp
 ·rw[h2.1 e2]at h3;have:=h3.1 e3;simp at this
 ·rw[h1.1 e1]at h3;have:=h3.1 e3;simp at this
 ·rw[h1.1 e1]at h2;have:=h2.1 e2;simp at this
 ·rw[h1.1 e1]at h2;have:=h2.1 e2;simp at this
def BOk(M N:Nat)(W:World)(b:Nat)(f g w v:Tr):Prop:=b≠M/\∃af cf ag cg ow ov,W.cell? ⟨b,12,none⟩=some (.slice af f.len cf)/\W.cell? ⟨b,13,none⟩=some (.slice ag g.len cg)/\W.cell? ⟨b,14,none⟩=some (.pointer ow)/\W.cell? ⟨b,15,none⟩=some (.pointer ov)/\
 Z8 M N W f (.slice af f.len cf)/\Z8 M N W g (.slice ag g.len cg)/\Zr M N W w (.pointer ow)/\Zr M N W v (.pointer ov)
theorem BOk.keep{M N:Nat}{W W':World}{b:Nat}{f g w v:Tr}(h:BOk M N W b f g w v)(hk:Zb M W W'):BOk M N W' b f g w v:=by
 obtain⟨hb,af,cf,ag,cg,ow,ov,c1,c2,c3,c4,s1,s2,s3,s4⟩:=h;exact⟨hb,af,cf,ag,cg,ow,ov,hk.cell hb c1,hk.cell hb c2,hk.cell hb c3,hk.cell hb c4,s1.keep hk,s2.keep hk,s3.keep hk,s4.keep hk⟩
theorem Zmv{M N:Nat}{W:World}{f g w v:Tr}{b:Nat}(h:Zr M N W (ZV f g w v) (.pointer (some ⟨b,0,none⟩))):BOk M N W b f g w v:=by
 refine⟨?_,ZeU h⟩;unfold ZV at h;rw[X7]at h;obtain⟨b',_,_,_,_,_,_,e,h1,_⟩:=h;cases e;exact h1
theorem Zbs{w:World}{b:Nat}{cs:Array Value}{ty:TypeId}(h:w.heap[b]? =some (.cells cs ty (0,0)))(k:Nat):w.cell? ⟨b,k,none⟩=cs[k]? :=by simp[World.cell?,h]
theorem Zjr{M N:Nat}{W:World}(hM:M<W.heap.size)(fl:Fl)(vk vi:Value){v:Tr}{o:Option Addr}(hv:Zr M N W v (.pointer o)):
  BOk M N (W.alloc (.cells (YF fl vk vi (.slice none 0 0) (.slice none 0 0) (.pointer none) (.pointer o)) XY)) W.heap.size .nil .nil .nil v:=by
 have h3:=ZWV W (.cells (YF fl vk vi (.slice none 0 0) (.slice none 0 0) (.pointer none) (.pointer o)) XY);exact⟨U,none,0,none,0,none,o,(Zbs h3 12).trans rfl,(Zbs h3 13).trans rfl,(Zbs h3 14).trans rfl,(Zbs h3 15).trans rfl,Z8.nil _ _ _,Z8.nil _ _ _,Zr.nil _ _ _,hv.keep (Zb.alloc M _ _)⟩
def Zl9(M N:Nat)(ws:List RW)(k first:NT)(one:Option (T×NT))(two:Bool)(fin:Tr->Tr->Tr->Tr->Tr->Tr)(i j p:Nat)(W:World)(av bv:Value):Prop:=
 (av= .pointer none/\(∃o,bv= .pointer o)/\ZgK first one two (ws.map tok) i j p)\/
 ∃ba bb ta f g w v,av= .pointer (some ⟨ba,0,none⟩)/\ba≠N/\Zr M N W ta av/\bv= .pointer (some ⟨bb,0,none⟩)/\BOk M N W bb f g w v/\(∃l,D first l ta)/\D k (sw ws i j) (fin ta f g w v)
theorem Zy1{a:List RW}{x:Tr}(h:D after a x):∃f g w v,x=ZV f g w v:=by cases h<;>exact⟨_,_,_,_,rfl⟩
theorem Zsv{a:List RW}{x:Tr}(h:D Z6 a x):∃f g w v,x=ZV f g w v:=by cases h<;>exact⟨_,_,_,_,rfl⟩
theorem ZLd{a:List RW}{x:Tr}(h:D sources a x):∃k,x=nd {kind:= [114,111,119]} k:=by cases h<;>exact⟨_,rfl⟩
theorem ZBv{a:List RW}{x:Tr}(h:D Zu a x):∃k,x=nd {kind:= [114,111,119]} k:=by cases h<;>exact⟨_,rfl⟩
theorem ZwJ(w:List RW){i p j:Nat}(hi:i<=p)(hp:p+1<j)(hj:j<=w.length):sw w i j=sw w i p++w[p]' U::w[p+1]' U::sw w (p+2) j:=by
 rw[Zan w hi U hj,Z0 w hp hj]
theorem Zr2{k:NT}{ws:List RW}{i j:Nat}{x:Tr}(h:D k (sw ws i j) x):i<j:=by
 have hne:=EB h.g;by_cases hh:i<j
 ·exact hh
 ·exact ZWp
theorem ZAK(C M N:Nat)(ws:List RW)(m:Nat)(hI:Is C M N ws m)(i j:Nat)(W:World)(h:Cut C M N ws W)(hi:i<j)(hj:j<=ws.length)(hm:(j-i)*20+1<m):
  Calls prog 100 #[.pointer (some ⟨C,0,none⟩),.int .i64 2,.int .i64 i,.int .i64 j] W (Post C M N ws W (¬G tail (st (ws.map tok) i j)) (D tail (sw ws i j))):=by
 have hlen:=h.len;have HL:Hid (j<=(ws.map tok).length):=by show j<=_;simpa using hj
 go_enter func100,ntmps100;go_wp2_with fail;refine(hI sources i j _ h U U U ZPr).mono ?_;rintro e w1 ⟨v1,rfl,Zf,hK1,hF1⟩;rw[Int.toNat_natCast]at hF1;go_wp2_with fail;go_loopg [10,11,12] (j-i) (fun gk av bv pv wr=>∃p:Nat,i+1<=p/\p<=j/\gk=j-p+1/\pv= .int .i64 p/\Cut C M N ws wr/\Zb M W wr/\Zl9 M N ws tail sources (some (T.Y2,after)) true (fun ta f g w v=>ZV ta.kids g w v) i j p wr av bv);case atStart=>
  refine⟨i+1,U,U,U,rfl,Zf.alloc _,hK1.trans (Zb.alloc M _ _),?_⟩;rcases hF1 with⟨e,hn⟩|⟨b,t,e,hb,hp,hd⟩
  ·exact ZS9
  ·exact .inr ⟨b,_,t,.nil,.nil,.nil,.nil,e,hb,hp.keep (Zb.alloc M _ _),rfl,Zjr Zf.ZN {} (.slice none 0 0) (.slice none 0 0) (Zr.nil _ _ _),⟨_,hd⟩,.UM hd⟩
 case round=>
  obtain⟨p,hp1,hp2,rfl,rfl,hC,hK,hA⟩:=hrel;rcases hA with⟨rfl,⟨ob,rfl⟩,hno⟩|⟨ba,bb,ta,f,g,w,v,rfl,hba,Vm,rfl,hbb,⟨sa,hsa⟩,hd⟩
  ·by_cases hlt:p<j
   · have Yq:Hid (QV sources (some (T.Y2,after)) true (ws.map tok) i j p->ZgK sources (some (T.Y2,after)) true (ws.map tok) i j (p+1)):=fun hn=>⟨hno.1,fun q h1 h2=>by
      by_cases e:q=p
      ·subst e;exact hn
      ·exact hno.2 q h1 U⟩
     clear hno;have c1:=fun s=>Y8 C M N ws (p:Int) s wr hC U U;have c2:=fun s=>Y8 C M N ws ((p+1:Nat):Int) s wr hC U U;rcases Zol h.ok p with⟨kw,kg,kh⟩|⟨kw,kg,kh⟩|⟨kw,kg,kh⟩|⟨kw,kg,kh⟩
     ·
      have HY:=(ZZ h.ok ([119,104,101,114,101],T.Y2) ZPl ZPl p).1 kw;go_wp2_with fail;refine(c1 _).mono ?_;rintro e w' ⟨rfl,rfl⟩;try simp only[kw,kg,kh]
      go_wp2_with fail;refine(c1 _).mono ?_;rintro e w' ⟨rfl,rfl⟩;try simp only[kw,kg,kh]
      go_wp2_with fail;refine(c1 _).mono ?_;rintro e w' ⟨rfl,rfl⟩;try simp only[kw,kg,kh]
      go_wp2_with fail;refine(hI after (p+1) j _ hC U U U ZPr).mono ?_;rintro e w3 ⟨v3,rfl,ZA,hK3,ZH⟩;rw[Int.toNat_natCast]at ZH;rcases ZH with⟨rfl,ZK⟩|⟨b3,t3,rfl,hb3,hp3,hd3⟩
      ·have HN:Hid (QV sources (some (T.Y2,after)) true (ws.map tok) i j p):=⟨(fun u n e _ _=>by cases e;exact ZK),(fun _ hu=>absurd hu (fun e=>ZQg))⟩;clear ZK;go_wp2_with fail;go_roundg (j-(p+1)+1);case measure=>omega
       case rel=>exact ZT4
      ·go_wp2_with fail;refine(hI sources i p _ (ZA) U U U ZPr).mono ?_;rintro e w4 ⟨v4,rfl,ZB,hK4,Yx⟩;rw[Int.toNat_natCast]at Yx;have hKW:=((hK.trans hK3)).trans hK4;rcases Yx with⟨rfl,YH⟩|⟨b4,t4,rfl,hb4,XR,hd4⟩
       ·have HN:Hid (QV sources (some (T.Y2,after)) true (ws.map tok) i j p):=⟨(fun u n e _ h=>absurd h YH),(fun _ hu=>absurd hu (fun e=>ZQg))⟩;clear YH;go_wp2_with fail;go_roundg (j-(p+1)+1);case measure=>omega
        case rel=>exact ZT5
       ·obtain⟨tf,tg,tw,tv,et⟩:=Zy1 hd3;subst et;have HB:Hid (BOk M N w4 _ tf tg tw tv):=(Zmv hp3).keep hK4;go_wp2_with fail;go_roundg (j-(p+1)+1);case measure=>omega
        case rel=>
         refine⟨p+1,U,U,rfl,ZPp,ZB,hKW,.inr ⟨b4,_,t4,tf,tg,tw,tv,rfl,hb4,XR,rfl,HB.out,⟨_,hd4⟩,?_⟩⟩;obtain⟨hpl,htp⟩:=ZQ HY;rw[Zan ws (i:=i) (p:=p) U hlt hj];exact .V5 htp hd4 hd3
     ·
      cases kb:ZJ ws ((p+1:Nat):Int) [98,121]with
      |false=>
       have HN:Hid (QV sources (some (T.Y2,after)) true (ws.map tok) i j p):=⟨(fun u n e hu=>ZQA),(fun _ _ hb=>absurd hb (fun e=>ZSt))⟩;go_wp2_with fail;refine(c1 _).mono ?_;rintro e w' ⟨rfl,rfl⟩;try simp only[kw,kg,kh,kb]
       go_wp2_with fail;refine(c1 _).mono ?_;rintro e w' ⟨rfl,rfl⟩;try simp only[kw,kg,kh,kb]
       go_wp2_with fail;refine(c2 _).mono ?_;rintro e w' ⟨rfl,rfl⟩;try simp only[kw,kg,kh,kb]
       go_wp2_with fail;refine(c1 _).mono ?_;rintro e w' ⟨rfl,rfl⟩;try simp only[kw,kg,kh,kb]
       go_wp2_with fail;go_roundg (j-(p+1)+1);case measure=>omega
       case rel=>exact ZT8
      |true=>
       have HY:=(ZZ h.ok ([103,114,111,117,112],T.group) ZPl ZPl p).1 kg;have HY2:=(ZZ h.ok ([98,121],T.Y7) ZPl ZPl (p+1)).1 kb;go_wp2_with fail;refine(c1 _).mono ?_;rintro e w' ⟨rfl,rfl⟩;try simp only[kw,kg,kh,kb]
       go_wp2_with fail;refine(c1 _).mono ?_;rintro e w' ⟨rfl,rfl⟩;try simp only[kw,kg,kh,kb]
       go_wp2_with fail;refine(c2 _).mono ?_;rintro e w' ⟨rfl,rfl⟩;try simp only[kw,kg,kh,kb]
       go_wp2_with fail;refine(c1 _).mono ?_;rintro e w' ⟨rfl,rfl⟩;try simp only[kw,kg,kh,kb]
       go_wp2_with fail;refine(hI Z6 (p+2) j _ hC U U U ZPr).mono ?_;rintro e w3 ⟨v3,rfl,ZA,hK3,ZH⟩;rw[Int.toNat_natCast]at ZH;rcases ZH with⟨rfl,ZK⟩|⟨b3,t3,rfl,hb3,hp3,hd3⟩
       ·have HN:Hid (QV sources (some (T.Y2,after)) true (ws.map tok) i j p):=⟨(fun u n e hu=>ZQA),(fun _ _ _ _=>ZK)⟩;clear ZK;go_wp2_with fail;go_roundg (j-(p+1)+1);case measure=>omega
        case rel=>exact ZT4
       ·go_wp2_with fail;refine(hI sources i p _ (ZA) U U U ZPr).mono ?_;rintro e w4 ⟨v4,rfl,ZB,hK4,Yx⟩;rw[Int.toNat_natCast]at Yx;have hKW:=((hK.trans hK3)).trans hK4;rcases Yx with⟨rfl,YH⟩|⟨b4,t4,rfl,hb4,XR,hd4⟩
        ·have HN:Hid (QV sources (some (T.Y2,after)) true (ws.map tok) i j p):=⟨(fun u n e hu=>ZQA),(fun _ _ _ h=>absurd h YH)⟩;clear YH;go_wp2_with fail;go_roundg (j-(p+1)+1);case measure=>omega
         case rel=>exact ZT5
        ·obtain⟨tf,tg,tw,tv,et⟩:=Zsv hd3;subst et;have HB:Hid (BOk M N w4 _ tf tg tw tv):=(Zmv hp3).keep hK4;go_wp2_with fail;go_roundg (j-(p+1)+1);case measure=>omega
         case rel=>
          refine⟨p+1,U,U,rfl,ZPp,ZB,hKW,.inr ⟨b4,_,t4,tf,tg,tw,tv,rfl,hb4,XR,rfl,HB.out,⟨_,hd4⟩,?_⟩⟩;obtain⟨hpl,htp⟩:=ZQ HY;obtain⟨ZtX,Zn4⟩:=ZQ HY2;have hlt2:=Zr2 hd3;rw[ZwJ ws (i:=i) (p:=p) U U hj];exact .UL htp Zn4 hd4 hd3
     ·
      have HN:Hid (QV sources (some (T.Y2,after)) true (ws.map tok) i j p):=⟨(fun u n e hu=>ZQA),(fun _ hu=>absurd hu (fun e=>ZQg))⟩;go_wp2_with fail;refine(c1 _).mono ?_;rintro e w' ⟨rfl,rfl⟩;try simp only[kw,kg,kh]
      go_wp2_with fail;refine(c1 _).mono ?_;rintro e w' ⟨rfl,rfl⟩;try simp only[kw,kg,kh]
      go_wp2_with fail;refine(c1 _).mono ?_;rintro e w' ⟨rfl,rfl⟩;try simp only[kw,kg,kh]
      go_wp2_with fail;go_roundg (j-(p+1)+1);case measure=>omega
      case rel=>exact ZT8
     ·
      have HN:Hid (QV sources (some (T.Y2,after)) true (ws.map tok) i j p):=⟨(fun u n e hu=>ZQA),(fun _ hu=>absurd hu (fun e=>ZQg))⟩;go_wp2_with fail;refine(c1 _).mono ?_;rintro e w' ⟨rfl,rfl⟩;try simp only[kw,kg,kh]
      go_wp2_with fail;refine(c1 _).mono ?_;rintro e w' ⟨rfl,rfl⟩;try simp only[kw,kg,kh]
      go_wp2_with fail;refine(c1 _).mono ?_;rintro e w' ⟨rfl,rfl⟩;try simp only[kw,kg,kh]
      go_wp2_with fail;go_roundg (j-(p+1)+1);case measure=>omega
      case rel=>exact ZT8
   · go_wp2_with fail;go_ret;exact⟨_,rfl,hC,hK,.inl ⟨rfl,Zov HL.out ZE2 ZQi⟩⟩
  ·obtain⟨tk,ek⟩:=ZLd hsa;subst ek;obtain⟨ak,ck,c10,s0⟩:=ZfM Vm;obtain⟨hbM,af,cf,ag,cg,ow,ov,c12,c13,c14,c15,s1,s2,s3,s4⟩:=hbb;generalize hLf:f.len=Lf at c12 s1;generalize hLg:g.len=Lg at c13 s2;generalize hLk:tk.len=Lk at c10 s0;have ZhN:ba<wr.heap.size:=ZWW _ _ c10;have HX:Hid (Zr M N _ _ _):=ZbM (f:={kind:= [116,97,105,108]}) hC.ZN hC.Zw (Z8.nil M N wr) (Z8.nil M N wr) s0 s2 s3 s4;have HD:Hid (D tail (sw ws i j) _):=hd;clear hd;by_cases hlt:p<j<;>
    (go_wp2_with fail
     go_region;go_wp2_with fail;go_ret;refine⟨_,rfl,(hC.alloc _).drew 1,(hK.trans (Zb.alloc M _ _)).trans (Zb.drew M _ 1),.inr ⟨_,_,rfl,?_,HX.out.keep (Zb.drew M _ 1),HD.out⟩⟩;have:=hC.Zw;omega)
theorem ZAI(C M N:Nat)(ws:List RW)(m:Nat)(hI:Is C M N ws m)(i j:Nat)(W:World)(h:Cut C M N ws W)(hi:i<j)(hj:j<=ws.length)(hm:(j-i)*20+3<m):
  Calls prog 100 #[.pointer (some ⟨C,0,none⟩),.int .i64 3,.int .i64 i,.int .i64 j] W (Post C M N ws W (¬G after (st (ws.map tok) i j)) (D after (sw ws i j))):=by
 have hlen:=h.len;have HL:Hid (j<=(ws.map tok).length):=by show j<=_;simpa using hj
 go_enter func100,ntmps100;go_wp2_with fail;refine(hI cnd i j _ h U U U ZPr).mono ?_;rintro e w1 ⟨v1,rfl,Zf,hK1,hF1⟩;rw[Int.toNat_natCast]at hF1;go_wp2_with fail;go_loopg [10,11,12] (j-i) (fun gk av bv pv wr=>∃p:Nat,i+1<=p/\p<=j/\gk=j-p+1/\pv= .int .i64 p/\Cut C M N ws wr/\Zb M W wr/\Zl9 M N ws after cnd (none) true (fun ta f g w v=>ZV f g ta v) i j p wr av bv);case atStart=>
  refine⟨i+1,U,U,U,rfl,Zf.alloc _,hK1.trans (Zb.alloc M _ _),?_⟩;rcases hF1 with⟨e,hn⟩|⟨b,t,e,hb,hp,hd⟩
  ·exact ZS9
  ·exact .inr ⟨b,_,t,.nil,.nil,.nil,.nil,e,hb,hp.keep (Zb.alloc M _ _),rfl,Zjr Zf.ZN {} (.slice none 0 0) (.slice none 0 0) (Zr.nil _ _ _),⟨_,hd⟩,.U1 hd⟩
 case round=>
  obtain⟨p,hp1,hp2,rfl,rfl,hC,hK,hA⟩:=hrel;rcases hA with⟨rfl,⟨ob,rfl⟩,hno⟩|⟨ba,bb,ta,f,g,w,v,rfl,hba,Vm,rfl,hbb,⟨sa,hsa⟩,hd⟩
  ·by_cases hlt:p<j
   · have Yq:Hid (QV cnd (none) true (ws.map tok) i j p->ZgK cnd (none) true (ws.map tok) i j (p+1)):=fun hn=>⟨hno.1,fun q h1 h2=>by
      by_cases e:q=p
      ·subst e;exact hn
      ·exact hno.2 q h1 U⟩
     clear hno;have c1:=fun s=>Y8 C M N ws (p:Int) s wr hC U U;have c2:=fun s=>Y8 C M N ws ((p+1:Nat):Int) s wr hC U U;rcases Zol h.ok p with⟨kw,kg,kh⟩|⟨kw,kg,kh⟩|⟨kw,kg,kh⟩|⟨kw,kg,kh⟩
     ·
      have HN:Hid (QV cnd (none) true (ws.map tok) i j p):=⟨(fun u n e=>ZPF),(fun _ hu=>absurd hu (fun e=>ZQg))⟩;go_wp2_with fail;refine(c1 _).mono ?_;rintro e w' ⟨rfl,rfl⟩;try simp only[kw,kg,kh]
      go_wp2_with fail;refine(c1 _).mono ?_;rintro e w' ⟨rfl,rfl⟩;try simp only[kw,kg,kh]
      go_wp2_with fail;refine(c1 _).mono ?_;rintro e w' ⟨rfl,rfl⟩;try simp only[kw,kg,kh]
      go_wp2_with fail;go_roundg (j-(p+1)+1);case measure=>omega
      case rel=>exact ZT8
     ·
      cases kb:ZJ ws ((p+1:Nat):Int) [98,121]with
      |false=>
       have HN:Hid (QV cnd (none) true (ws.map tok) i j p):=⟨(fun u n e=>ZPF),(fun _ _ hb=>absurd hb (fun e=>ZSt))⟩;go_wp2_with fail;refine(c1 _).mono ?_;rintro e w' ⟨rfl,rfl⟩;try simp only[kw,kg,kh,kb]
       go_wp2_with fail;refine(c1 _).mono ?_;rintro e w' ⟨rfl,rfl⟩;try simp only[kw,kg,kh,kb]
       go_wp2_with fail;refine(c2 _).mono ?_;rintro e w' ⟨rfl,rfl⟩;try simp only[kw,kg,kh,kb]
       go_wp2_with fail;refine(c1 _).mono ?_;rintro e w' ⟨rfl,rfl⟩;try simp only[kw,kg,kh,kb]
       go_wp2_with fail;go_roundg (j-(p+1)+1);case measure=>omega
       case rel=>exact ZT8
      |true=>
       have HY:=(ZZ h.ok ([103,114,111,117,112],T.group) ZPl ZPl p).1 kg;have HY2:=(ZZ h.ok ([98,121],T.Y7) ZPl ZPl (p+1)).1 kb;go_wp2_with fail;refine(c1 _).mono ?_;rintro e w' ⟨rfl,rfl⟩;try simp only[kw,kg,kh,kb]
       go_wp2_with fail;refine(c1 _).mono ?_;rintro e w' ⟨rfl,rfl⟩;try simp only[kw,kg,kh,kb]
       go_wp2_with fail;refine(c2 _).mono ?_;rintro e w' ⟨rfl,rfl⟩;try simp only[kw,kg,kh,kb]
       go_wp2_with fail;refine(c1 _).mono ?_;rintro e w' ⟨rfl,rfl⟩;try simp only[kw,kg,kh,kb]
       go_wp2_with fail;refine(hI Z6 (p+2) j _ hC U U U ZPr).mono ?_;rintro e w3 ⟨v3,rfl,ZA,hK3,ZH⟩;rw[Int.toNat_natCast]at ZH;rcases ZH with⟨rfl,ZK⟩|⟨b3,t3,rfl,hb3,hp3,hd3⟩
       ·have HN:Hid (QV cnd (none) true (ws.map tok) i j p):=⟨(fun u n e=>ZPF),(fun _ _ _ _=>ZK)⟩;clear ZK;go_wp2_with fail;go_roundg (j-(p+1)+1);case measure=>omega
        case rel=>exact ZT4
       ·go_wp2_with fail;refine(hI cnd i p _ (ZA) U U U ZPr).mono ?_;rintro e w4 ⟨v4,rfl,ZB,hK4,Yx⟩;rw[Int.toNat_natCast]at Yx;have hKW:=((hK.trans hK3)).trans hK4;rcases Yx with⟨rfl,YH⟩|⟨b4,t4,rfl,hb4,XR,hd4⟩
        ·have HN:Hid (QV cnd (none) true (ws.map tok) i j p):=⟨(fun u n e=>ZPF),(fun _ _ _ h=>absurd h YH)⟩;clear YH;go_wp2_with fail;go_roundg (j-(p+1)+1);case measure=>omega
         case rel=>exact ZT5
        ·obtain⟨tf,tg,tw,tv,et⟩:=Zsv hd3;subst et;have HB:Hid (BOk M N w4 _ tf tg tw tv):=(Zmv hp3).keep hK4;go_wp2_with fail;go_roundg (j-(p+1)+1);case measure=>omega
         case rel=>
          refine⟨p+1,U,U,rfl,ZPp,ZB,hKW,.inr ⟨b4,_,t4,tf,tg,tw,tv,rfl,hb4,XR,rfl,HB.out,⟨_,hd4⟩,?_⟩⟩;obtain⟨hpl,htp⟩:=ZQ HY;obtain⟨ZtX,Zn4⟩:=ZQ HY2;have hlt2:=Zr2 hd3;rw[ZwJ ws (i:=i) (p:=p) U U hj];exact .Ub htp Zn4 hd4 hd3
     ·
      have HN:Hid (QV cnd (none) true (ws.map tok) i j p):=⟨(fun u n e=>ZPF),(fun _ hu=>absurd hu (fun e=>ZQg))⟩;go_wp2_with fail;refine(c1 _).mono ?_;rintro e w' ⟨rfl,rfl⟩;try simp only[kw,kg,kh]
      go_wp2_with fail;refine(c1 _).mono ?_;rintro e w' ⟨rfl,rfl⟩;try simp only[kw,kg,kh]
      go_wp2_with fail;refine(c1 _).mono ?_;rintro e w' ⟨rfl,rfl⟩;try simp only[kw,kg,kh]
      go_wp2_with fail;go_roundg (j-(p+1)+1);case measure=>omega
      case rel=>exact ZT8
     ·
      have HN:Hid (QV cnd (none) true (ws.map tok) i j p):=⟨(fun u n e=>ZPF),(fun _ hu=>absurd hu (fun e=>ZQg))⟩;go_wp2_with fail;refine(c1 _).mono ?_;rintro e w' ⟨rfl,rfl⟩;try simp only[kw,kg,kh]
      go_wp2_with fail;refine(c1 _).mono ?_;rintro e w' ⟨rfl,rfl⟩;try simp only[kw,kg,kh]
      go_wp2_with fail;refine(c1 _).mono ?_;rintro e w' ⟨rfl,rfl⟩;try simp only[kw,kg,kh]
      go_wp2_with fail;go_roundg (j-(p+1)+1);case measure=>omega
      case rel=>exact ZT8
   · go_wp2_with fail;go_ret;exact⟨_,rfl,hC,hK,.inl ⟨rfl,Zov HL.out ZE0 ZQi⟩⟩
  ·obtain⟨hbM,af,cf,ag,cg,ow,ov,c12,c13,c14,c15,s1,s2,s3,s4⟩:=hbb;generalize hLf:f.len=Lf at c12 s1;generalize hLg:g.len=Lg at c13 s2;have HX:Hid (Zr M N _ _ _):=ZbM (f:={kind:= [116,97,105,108]}) hC.ZN hC.Zw (Z8.nil M N wr) (Z8.nil M N wr) s1 s2 Vm s4;have HD:Hid (D after (sw ws i j) _):=hd;clear hd;by_cases hlt:p<j<;>
    (go_wp2_with fail
     go_region;go_wp2_with fail;go_ret;refine⟨_,rfl,(hC.alloc _).drew 1,(hK.trans (Zb.alloc M _ _)).trans (Zb.drew M _ 1),.inr ⟨_,_,rfl,?_,HX.out.keep (Zb.drew M _ 1),HD.out⟩⟩;have:=hC.Zw;omega)
theorem ZAJ(C M N:Nat)(ws:List RW)(m:Nat)(hI:Is C M N ws m)(i j:Nat)(W:World)(h:Cut C M N ws W)(hi:i<j)(hj:j<=ws.length)(hm:(j-i)*20+1<m):
  Calls prog 100 #[.pointer (some ⟨C,0,none⟩),.int .i64 4,.int .i64 i,.int .i64 j] W (Post C M N ws W (¬G Z6 (st (ws.map tok) i j)) (D Z6 (sw ws i j))):=by
 have hlen:=h.len;have HL:Hid (j<=(ws.map tok).length):=by show j<=_;simpa using hj
 go_enter func100,ntmps100;go_wp2_with fail;refine(hI Zu i j _ h U U U ZPr).mono ?_;rintro e w1 ⟨v1,rfl,Zf,hK1,hF1⟩;rw[Int.toNat_natCast]at hF1;go_wp2_with fail;go_loopg [10,11,12] (j-i) (fun gk av bv pv wr=>∃p:Nat,i+1<=p/\p<=j/\gk=j-p+1/\pv= .int .i64 p/\Cut C M N ws wr/\Zb M W wr/\Zl9 M N ws Z6 Zu (some (T.having,cnd)) false (fun ta f g w v=>ZV f ta.kids w v) i j p wr av bv);case atStart=>
  refine⟨i+1,U,U,U,rfl,Zf.alloc _,hK1.trans (Zb.alloc M _ _),?_⟩;rcases hF1 with⟨e,hn⟩|⟨b,t,e,hb,hp,hd⟩
  ·exact ZS9
  ·exact .inr ⟨b,_,t,.nil,.nil,.nil,.nil,e,hb,hp.keep (Zb.alloc M _ _),rfl,Zjr Zf.ZN {} (.slice none 0 0) (.slice none 0 0) (Zr.nil _ _ _),⟨_,hd⟩,.Ur hd⟩
 case round=>
  obtain⟨p,hp1,hp2,rfl,rfl,hC,hK,hA⟩:=hrel;rcases hA with⟨rfl,⟨ob,rfl⟩,hno⟩|⟨ba,bb,ta,f,g,w,v,rfl,hba,Vm,rfl,hbb,⟨sa,hsa⟩,hd⟩
  ·by_cases hlt:p<j
   · have Yq:Hid (QV Zu (some (T.having,cnd)) false (ws.map tok) i j p->ZgK Zu (some (T.having,cnd)) false (ws.map tok) i j (p+1)):=fun hn=>⟨hno.1,fun q h1 h2=>by
      by_cases e:q=p
      ·subst e;exact hn
      ·exact hno.2 q h1 U⟩
     clear hno;have c1:=fun s=>Y8 C M N ws (p:Int) s wr hC U U;have c2:=fun s=>Y8 C M N ws ((p+1:Nat):Int) s wr hC U U;rcases Zol h.ok p with⟨kw,kg,kh⟩|⟨kw,kg,kh⟩|⟨kw,kg,kh⟩|⟨kw,kg,kh⟩
     ·
      have HN:Hid (QV Zu (some (T.having,cnd)) false (ws.map tok) i j p):=⟨(fun u n e hu=>ZRc),(fun e=>ZPF)⟩;go_wp2_with fail;refine(c1 _).mono ?_;rintro e w' ⟨rfl,rfl⟩;try simp only[kw,kg,kh]
      go_wp2_with fail;refine(c1 _).mono ?_;rintro e w' ⟨rfl,rfl⟩;try simp only[kw,kg,kh]
      go_wp2_with fail;refine(c1 _).mono ?_;rintro e w' ⟨rfl,rfl⟩;try simp only[kw,kg,kh]
      go_wp2_with fail;go_roundg (j-(p+1)+1);case measure=>omega
      case rel=>exact ZT8
     ·
      cases kb:ZJ ws ((p+1:Nat):Int) [98,121]with
      |false=>
       have HN:Hid (QV Zu (some (T.having,cnd)) false (ws.map tok) i j p):=⟨(fun u n e hu=>ZRc),(fun e=>ZPF)⟩;go_wp2_with fail;refine(c1 _).mono ?_;rintro e w' ⟨rfl,rfl⟩;try simp only[kw,kg,kh,kb]
       go_wp2_with fail;refine(c1 _).mono ?_;rintro e w' ⟨rfl,rfl⟩;try simp only[kw,kg,kh,kb]
       go_wp2_with fail;refine(c2 _).mono ?_;rintro e w' ⟨rfl,rfl⟩;try simp only[kw,kg,kh,kb]
       go_wp2_with fail;refine(c1 _).mono ?_;rintro e w' ⟨rfl,rfl⟩;try simp only[kw,kg,kh,kb]
       go_wp2_with fail;go_roundg (j-(p+1)+1);case measure=>omega
       case rel=>exact ZT8
      |true=>
       have HN:Hid (QV Zu (some (T.having,cnd)) false (ws.map tok) i j p):=⟨(fun u n e hu=>ZRc),(fun e=>ZPF)⟩;go_wp2_with fail;refine(c1 _).mono ?_;rintro e w' ⟨rfl,rfl⟩;try simp only[kw,kg,kh,kb]
       go_wp2_with fail;refine(c1 _).mono ?_;rintro e w' ⟨rfl,rfl⟩;try simp only[kw,kg,kh,kb]
       go_wp2_with fail;refine(c2 _).mono ?_;rintro e w' ⟨rfl,rfl⟩;try simp only[kw,kg,kh,kb]
       go_wp2_with fail;refine(c1 _).mono ?_;rintro e w' ⟨rfl,rfl⟩;try simp only[kw,kg,kh,kb]
       go_wp2_with fail;go_roundg (j-(p+1)+1);case measure=>omega
       case rel=>exact ZT8
     ·
      have HY:=(ZZ h.ok ([104,97,118,105,110,103],T.having) ZPl ZPl p).1 kh;go_wp2_with fail;refine(c1 _).mono ?_;rintro e w' ⟨rfl,rfl⟩;try simp only[kw,kg,kh]
      go_wp2_with fail;refine(c1 _).mono ?_;rintro e w' ⟨rfl,rfl⟩;try simp only[kw,kg,kh]
      go_wp2_with fail;refine(c1 _).mono ?_;rintro e w' ⟨rfl,rfl⟩;try simp only[kw,kg,kh]
      go_wp2_with fail;refine(hI cnd (p+1) j _ hC U U U ZPr).mono ?_;rintro e w3 ⟨v3,rfl,ZA,hK3,ZH⟩;rw[Int.toNat_natCast]at ZH;rcases ZH with⟨rfl,ZK⟩|⟨b3,t3,rfl,hb3,hp3,hd3⟩
      ·have HN:Hid (QV Zu (some (T.having,cnd)) false (ws.map tok) i j p):=⟨(fun u n e _ _=>by cases e;exact ZK),(fun e=>ZPF)⟩;clear ZK;go_wp2_with fail;go_roundg (j-(p+1)+1);case measure=>omega
       case rel=>exact ZT4
      ·go_wp2_with fail;refine(hI Zu i p _ (ZA.alloc _) U U U ZPr).mono ?_;rintro e w4 ⟨v4,rfl,ZB,hK4,Yx⟩;rw[Int.toNat_natCast]at Yx;have hKW:=((hK.trans hK3).trans (Zb.alloc M _ _)).trans hK4;rcases Yx with⟨rfl,YH⟩|⟨b4,t4,rfl,hb4,XR,hd4⟩
       ·have HN:Hid (QV Zu (some (T.having,cnd)) false (ws.map tok) i j p):=⟨(fun u n e _ h=>absurd h YH),(fun e=>ZPF)⟩;clear YH;go_wp2_with fail;go_roundg (j-(p+1)+1);case measure=>omega
        case rel=>exact ZT5
       ·have HB:Hid (BOk M N w4 _ .nil .nil .nil t3):=(Zjr ZA.ZN {} (.slice none 0 0) (.slice none 0 0) hp3).keep hK4;go_wp2_with fail;go_roundg (j-(p+1)+1);case measure=>omega
        case rel=>
         refine⟨p+1,U,U,rfl,ZPp,ZB,hKW,.inr ⟨b4,_,t4,.nil,.nil,.nil,t3,rfl,hb4,XR,rfl,HB.out,⟨_,hd4⟩,?_⟩⟩;obtain⟨hpl,htp⟩:=ZQ HY;rw[Zan ws (i:=i) (p:=p) U hlt hj];exact .Us htp hd4 hd3
     ·
      have HN:Hid (QV Zu (some (T.having,cnd)) false (ws.map tok) i j p):=⟨(fun u n e hu=>ZRc),(fun e=>ZPF)⟩;go_wp2_with fail;refine(c1 _).mono ?_;rintro e w' ⟨rfl,rfl⟩;try simp only[kw,kg,kh]
      go_wp2_with fail;refine(c1 _).mono ?_;rintro e w' ⟨rfl,rfl⟩;try simp only[kw,kg,kh]
      go_wp2_with fail;refine(c1 _).mono ?_;rintro e w' ⟨rfl,rfl⟩;try simp only[kw,kg,kh]
      go_wp2_with fail;go_roundg (j-(p+1)+1);case measure=>omega
      case rel=>exact ZT8
   · go_wp2_with fail;go_ret;exact⟨_,rfl,hC,hK,.inl ⟨rfl,Zov HL.out ZE1 ZQi⟩⟩
  ·obtain⟨tk,ek⟩:=ZBv hsa;subst ek;obtain⟨ak,ck,c10,s0⟩:=ZfM Vm;obtain⟨hbM,af,cf,ag,cg,ow,ov,c12,c13,c14,c15,s1,s2,s3,s4⟩:=hbb;generalize hLf:f.len=Lf at c12 s1;generalize hLg:g.len=Lg at c13 s2;generalize hLk:tk.len=Lk at c10 s0;have ZhN:ba<wr.heap.size:=ZWW _ _ c10;have HX:Hid (Zr M N _ _ _):=ZbM (f:={kind:= [116,97,105,108]}) hC.ZN hC.Zw (Z8.nil M N wr) (Z8.nil M N wr) s1 s0 s3 s4;have HD:Hid (D Z6 (sw ws i j) _):=hd;clear hd;by_cases hlt:p<j<;>
    (go_wp2_with fail
     go_region;go_wp2_with fail;go_ret;refine⟨_,rfl,(hC.alloc _).drew 1,(hK.trans (Zb.alloc M _ _)).trans (Zb.drew M _ 1),.inr ⟨_,_,rfl,?_,HX.out.keep (Zb.drew M _ 1),HD.out⟩⟩;have:=hC.Zw;omega)
end
section
open NT
theorem Zju{w:World}{b:Nat}{x y z:Value}{ty:TypeId}(h:w.heap[b]? =some (.cells #[x,y,z] ty (0,0))):w.cell? ⟨b,0,none⟩=some x/\w.cell? ⟨b,1,none⟩=some y/\w.cell? ⟨b,2,none⟩=some z:=
 ⟨ZPy,ZPy,ZPy⟩
def setW:List Za:= [[117,110,105,111,110], [105,110,116,101,114,115,101,99,116], [101,120,99,101,112,116]]
def Zcn(w:List T)(q:Nat):Nat:=if w[q+1]? =some T.Xl then q+2 else q+1
def Zbh(w:List T)(i j q:Nat):Prop:=∀u,w[q]? =some u->isSet u=true->G query (st w i q)->¬G core (st w (Zcn w q) j)
def Zl4(w:List T)(i j p:Nat):Prop:=¬G core (st w i j)/\∀q,i<q->q<p->Zbh w i j q
theorem ZH4{w:List T}{i j:Nat}(hj:j<=w.length)(h:Zl4 w i j j):¬G query (st w i j):=by
 intro hg;rcases(ZFc _).1 hg with h1|⟨a,u,b,e,hu,ha,hb⟩
 ·exact h.1 h1
 ·obtain⟨p,p1,p2,rfl,p3,rfl⟩:=ZdQ hj e;have hne:=EB ha;have hip:i<p:=by
   by_cases hh:i<p
   ·exact hh
   ·exact ZWk
  refine h.2 p hip p2 u p3 hu ha ?_;rcases hb with hb|⟨b',e',hb'⟩
  ·have hne2:=EB hb;have VU:p+1<j:=by
    by_cases hh:p+1<j
    ·exact hh
    ·rw[Ky w U]at hne2;exact absurd rfl hne2
   have:Zcn w p=p+1:=by
    unfold Zcn;rw[ZWQ];intro e2;rw[Q4 w VU hj]at hb;obtain⟨t,r,e3,hf⟩:=VM hb;obtain⟨e4,_⟩:=ZXk e3;rw[ZW1 U]at e2;rw[<-e4,ZXc e2]at hf;exact absurd hf ZPl
   rw[this];exact hb
  ·have VU:p+1<j:=by
    by_cases hh:p+1<j
    ·exact hh
    ·rw[Ky w U]at e';cases e'
   rw[Q4 w VU hj]at e';obtain⟨e1,e2⟩:=ZXk e';have:Zcn w p=p+2:=by
    unfold Zcn;rw[ZWR];rw[ZW1 U,e1]
   rw[this,show p+2=p+1+1 from rfl,e2];exact hb'
theorem ZK3:∀x∈YE.map Prod.fst,(isSet (Je x)=true↔x∈setW):=by decide
theorem ZK2{ws:List RW}(ok:∀w∈ws,Yi w){p:Nat}{u:T}(hu:(ws.map tok)[p]? =some u)(hs:isSet u=true):∃k,∃hk:k<setW.length,ZJ ws (p:Int) setW[k]=true:=by
 obtain⟨hl,rfl⟩:=ZQ hu;have hw:=ok _ (ZWX hl);have h3:tok ws[p]=T.union\/tok ws[p]=T.inter\/tok ws[p]=T.exc:=by
  revert hs;generalize tok ws[p]=t;cases t<;>simp[isSet]
 rcases h3 with h3|h3|h3
 ·exact⟨0,ZPl,(ZZ ok ([117,110,105,111,110],T.union) ZPl ZPl p).2 (by rw[hu,h3])⟩
 ·exact⟨1,ZPl,(ZZ ok ([105,110,116,101,114,115,101,99,116],T.inter) ZPl ZPl p).2 (by rw[hu,h3])⟩
 ·exact⟨2,ZPl,(ZZ ok ([101,120,99,101,112,116],T.exc) ZPl ZPl p).2 (by rw[hu,h3])⟩
theorem ZGU{ws:List RW}(ok:∀w∈ws,Yi w){p k:Nat}(hk:k<setW.length)(h:ZJ ws (p:Int) setW[k]=true):∃hl:p<ws.length,isSet (tok ws[p])=true/\ws[p].text=setW[k]:=by
 by_cases hl:p<ws.length
 ·refine⟨hl,?_⟩;have hx:Vn ws[p] setW[k]=true:=by unfold ZJ at h;rw[Za6 hl]at h;exact h
  unfold Vn at hx;simp only[ZXN,ZXT]at hx;have ht:ws[p].text∈YE.map Prod.fst:=by rw[hx.2];exact(show ∀x∈setW,x∈YE.map Prod.fst by decide) _ (ZWX hk)
  refine⟨?_,hx.2⟩;unfold tok;rw[ZWR hx.1,ZK3 _ ht,hx.2];exact ZWX hk
 ·unfold ZJ at h;rw[Zc0 U]at h;cases h
theorem ZAF(C M N:Nat)(ws:List RW)(m:Nat)(hI:Is C M N ws m)(i j:Nat)(W:World)(h:Cut C M N ws W)(hi:i<j)(hj:j<=ws.length)(hm:(j-i)*20<m):
  Calls prog 98 #[.pointer (some ⟨C,0,none⟩),.int .i64 i,.int .i64 j] W (Post C M N ws W (¬G query (st (ws.map tok) i j)) (D query (sw ws i j))):=by
 have hlen:=h.len;have HL:Hid (j<=(ws.map tok).length):=by show j<=_;simpa using hj
 go_enter func98,ntmps98;go_wp2_with fail;refine(hI core i j _ h U U U (by simpa[rk]using hm)).mono ?_;rintro e w1 ⟨v1,rfl,Zf,hK1,hF1⟩;rw[Int.toNat_natCast]at hF1;go_wp2_with fail;generalize hSe:w1.heap.size=S;have hSM:S≠M:=by have:=Zf.ZN;omega
 have YL:Hid (KO M S (w1.alloc (.cells #[.string ⟨#[117,110,105,111,110]⟩,.string ⟨#[105,110,116,101,114,115,101,99,116]⟩,.string ⟨#[101,120,99,101,112,116]⟩] 9)) setW):=by
  refine⟨hSM,fun k hk=>?_⟩;have h3:k<3:=hk;obtain⟨c0,c1,c2⟩:=Zju (ZWV w1 (.cells #[.string ⟨#[117,110,105,111,110]⟩,.string ⟨#[105,110,116,101,114,115,101,99,116]⟩,.string ⟨#[101,120,99,101,112,116]⟩] 9));rw[hSe]at c0 c1 c2;rcases k with _|_|_|k
  ·exact c0
  ·exact c1
  ·exact c2
  ·omega
 have ZsI:=Zf.alloc (.cells #[.string ⟨#[117,110,105,111,110]⟩,.string ⟨#[105,110,116,101,114,115,101,99,116]⟩,.string ⟨#[101,120,99,101,112,116]⟩] 9);have hKa:Zb M w1 _:=Zb.alloc M w1 (.cells #[.string ⟨#[117,110,105,111,110]⟩,.string ⟨#[105,110,116,101,114,115,101,99,116]⟩,.string ⟨#[101,120,99,101,112,116]⟩] 9);have ZsL:=hF1.keep hKa;have hK1':=hK1.trans hKa;clear hF1 hKa Zf hK1;generalize w1.alloc (.cells #[.string ⟨#[117,110,105,111,110]⟩,.string ⟨#[105,110,116,101,114,115,101,99,116]⟩,.string ⟨#[101,120,99,101,112,116]⟩] 9)=w2 at YL ZsI ZsL hK1' ⊢;clear hSe w1;go_loopg [7,9] (j-i) (fun gk tv pv wr=>∃p:Nat,i+1<=p/\p<=j/\gk=j-p+1/\pv= .int .i64 p/\Cut C M N ws wr/\Zb M w2 wr/\Em M N wr tv (Zl4 (ws.map tok) i j p) (D query (sw ws i j)));case atStart=>
  refine⟨i+1,U,U,U,rfl,ZsI,Zb.refl _ _,?_⟩;rcases ZsL with⟨e,hn⟩|⟨b,t,e,hb,hp,hd⟩
  ·exact ZS8
  ·exact .inr ⟨b,t,e,hb,hp,.Kt hd⟩
 case round=>
  obtain⟨p,hp1,hp2,rfl,rfl,hC,hK,hA⟩:=hrel;rcases hA with⟨rfl,hno⟩|⟨b,t,rfl,hb,hp,hd⟩
  ·by_cases hlt:p<j
   ·have Y4:Hid (Zl4 (ws.map tok) i j p):=hno;clear hno;go_wp2;go_loopg [7,10] (3+1) (fun gk tv kv w3=>∃k:Nat,k<=3/\gk=3-k+1/\kv= .int .i64 k/\Cut C M N ws w3/\Zb M w2 w3/\Em M N w3 tv (∀k',k'<k->∀(hk:k'<setW.length),ZJ ws (p:Int) setW[k']=true->Zbh (ws.map tok) i j p) (D query (sw ws i j)));case atStart=>exact⟨0,U,U,rfl,hC,hK,.inl ⟨rfl,fun k' h=>U⟩⟩
    case round=>
     obtain⟨k,hk,rfl,rfl,hC2,hK2,hA2⟩:=hrel;by_cases hkl:k<3
     ·have hkl':k<setW.length:=hkl;have q4:=(YL.out.keep hK2).2 k hkl';go_wp2_with fail;refine(Y8 C M N ws (p:Int) setW[k] _ hC2 U U).mono ?_;rintro e w' ⟨rfl,rfl⟩;cases hkey:ZJ ws (p:Int) setW[k]with
      |false=>
       go_wp2_with fail;go_roundg (3-(k+1)+1);case measure=>omega
       case rel=>
        refine⟨k+1,U,rfl,ZPp,hC2,hK2,?_⟩;rcases hA2 with⟨e,hn⟩|hA
        ·refine .inl ⟨e,fun k' hk' hk2 e1=>?_⟩;by_cases hkk:k'=k
         ·subst hkk;rw[hkey]at e1;cases e1
         ·exact hn k' U hk2 e1
        ·exact .inr hA
      |true=>
       obtain⟨hpw,hset,htext⟩:=ZGU h.ok hkl' hkey;have Zqh:Hid (isSet (tok ws[p])=true):=hset;have HT:Hid (ws[p].text=setW[k]):=htext;clear hset htext hkey;go_wp2_with fail;refine(Y8 C M N ws ((p+1:Nat):Int) [97,108,108] _ hC2 U U).mono ?_;rintro e w' ⟨rfl,rfl⟩;cases hall:ZJ ws ((p+1:Nat):Int) [97,108,108]with
       |false=>
        have Zlx:Hid (Zcn (ws.map tok) p=p+1):=by
         show _=_;unfold Zcn;rw[ZWQ];intro e;rw[(ZZ h.ok ([97,108,108],T.Xl) ZPl ZPl (p+1)).2 e]at hall;cases hall
        clear hall;go_wp2_with fail;refine(hI query i p _ hC2 U U U ZPr).mono ?_;rintro e w3 ⟨v3,rfl,ZA,hK3,ZH⟩;rw[Int.toNat_natCast]at ZH;go_wp2_with fail;refine(hI core (p+1) j _ ZA U U U ZPr).mono ?_;rintro e w4 ⟨v4,rfl,ZB,hK4,Yx⟩;rw[Int.toNat_natCast]at Yx;have Zdr:Zb M wr w4:=hK3.trans hK4;have hKW:=hK2.trans Zdr;have JH:=hA2.keep Zdr;have Q7:Hid (Zbh (ws.map tok) i j p->Em M N w4 u7 (∀k',k'<k+1->∀(hk:k'<setW.length),ZJ ws (p:Int) setW[k']=true->Zbh (ws.map tok) i j p) (D query (sw ws i j))):=by
         intro hnc;rcases JH with⟨e,_⟩|JH
         ·exact .inl ⟨e,fun _ _ _ _=>hnc⟩
         ·exact .inr JH
        clear JH;rcases ZH with⟨rfl,ZK⟩|⟨b3,t3,rfl,hb3,hp3,hd3⟩
        ·have UT:Hid (Zbh (ws.map tok) i j p):=fun u _ _ h _=>ZK h;clear ZK;go_wp2;go_roundg (3-(k+1)+1);case measure=>omega
         case rel=>exact ZTY
        ·rcases Yx with⟨rfl,YH⟩|⟨b4,t4,rfl,hb4,XR,hd4⟩
         ·have JJ:Hid (Zbh (ws.map tok) i j p):=fun u _ _ _=>by rw[Zlx.out];exact YH
          clear YH;go_wp2;go_roundg (3-(k+1)+1);case measure=>omega
          case rel=>exact ZTX
         ·have q5:=(YL.out.keep hKW).2 k hkl';go_wp2;go_roundg (3-(k+1)+1);case measure=>omega
          case rel=>
           have hM:=ZB.ZN;have hN:=ZB.Zw;have Ka:=hp3.keep hK4;refine⟨k+1,U,rfl,ZPp,(ZB.alloc _).alloc _,(hKW.trans (Zb.alloc M _ _)).trans (Zb.alloc M _ _),.inr ⟨_,_,rfl,?_,EK hM hN {kind:=setW[k]} Ka XR,?_⟩⟩
           ·simp;omega
           ·have e:=D.Ku (u:=ws[p]) Zqh.out hd3 hd4;rw[HT.out]at e;exact ZWu
       |true=>
        have Ze3:=(ZZ h.ok ([97,108,108],T.Xl) ZPl ZPl (p+1)).1 hall;have Zlx:Hid (Zcn (ws.map tok) p=p+2):=by
         show _=_;unfold Zcn;rw[ZWR Ze3]
        clear hall;go_wp2_with fail;refine(hI query i p _ hC2 U U U ZPr).mono ?_;rintro e w3 ⟨v3,rfl,ZA,hK3,ZH⟩;rw[Int.toNat_natCast]at ZH;go_wp2_with fail;refine(hI core (p+2) j _ ZA U U U ZPr).mono ?_;rintro e w4 ⟨v4,rfl,ZB,hK4,Yx⟩;rw[Int.toNat_natCast]at Yx;have Zdr:Zb M wr w4:=hK3.trans hK4;have hKW:=hK2.trans Zdr;have JH:=hA2.keep Zdr;have Q7:Hid (Zbh (ws.map tok) i j p->Em M N w4 u7 (∀k',k'<k+1->∀(hk:k'<setW.length),ZJ ws (p:Int) setW[k']=true->Zbh (ws.map tok) i j p) (D query (sw ws i j))):=by
         intro hnc;rcases JH with⟨e,_⟩|JH
         ·exact .inl ⟨e,fun _ _ _ _=>hnc⟩
         ·exact .inr JH
        clear JH;rcases ZH with⟨rfl,ZK⟩|⟨b3,t3,rfl,hb3,hp3,hd3⟩
        ·have UT:Hid (Zbh (ws.map tok) i j p):=fun u _ _ h _=>ZK h;clear ZK;go_wp2;go_roundg (3-(k+1)+1);case measure=>omega
         case rel=>exact ZTY
        ·rcases Yx with⟨rfl,YH⟩|⟨b4,t4,rfl,hb4,XR,hd4⟩
         ·have JJ:Hid (Zbh (ws.map tok) i j p):=fun u _ _ _=>by rw[Zlx.out];exact YH
          clear YH;go_wp2;go_roundg (3-(k+1)+1);case measure=>omega
          case rel=>exact ZTX
         ·have q5:=(YL.out.keep hKW).2 k hkl';go_wp2;go_roundg (3-(k+1)+1);case measure=>omega
          case rel=>
           have hM:=ZB.ZN;have hN:=ZB.Zw;have Ka:=hp3.keep hK4;refine⟨k+1,U,rfl,ZPp,(ZB.alloc _).alloc _,(hKW.trans (Zb.alloc M _ _)).trans (Zb.alloc M _ _),.inr ⟨_,_,rfl,?_,EK hM hN {kind:=setW[k],all:=true} Ka XR,?_⟩⟩
           ·simp;omega
           ·obtain⟨hl1,ht1⟩:=ZQ Ze3;have hne:=EB hd4.g;have VU:p+2<j:=by
             by_cases hh:p+2<j
             ·exact hh
             ·exact ZWp
            have e:=D.Kv (u:=ws[p]) Zqh.out ht1 hd3 hd4;rw[HT.out]at e;rw[Zan ws (i:=i) (p:=p) U hlt hj,Z0 ws (i:=p+1) U hj];exact e
     ·go_wp2_with fail;go_roundg (j-(p+1)+1);case measure=>omega
      case rel=>
       refine⟨p+1,U,U,rfl,ZPp,hC2,hK2,?_⟩;rcases hA2 with⟨e,hn⟩|hA
       ·refine .inl ⟨e,Y4.out.1,fun q h1 h2=>?_⟩;by_cases hqp:q=p
        ·subst hqp;intro u hu hju;obtain⟨k',hk',e3⟩:=ZK2 h.ok hu hju;exact hn k' (by have:k'<3:=hk';omega) hk' e3 _ hu hju
        ·exact Y4.out.2 q h1 U
       ·exact .inr hA
   ·go_wp2;go_ret;exact⟨_,rfl,hC,hK1'.trans hK,.inl ⟨rfl,ZH4 HL.out ZQi⟩⟩
  ·by_cases hlt:p<j<;>
    (go_wp2;go_ret;exact⟨_,rfl,hC,hK1'.trans hK,.inr ⟨b,t,rfl,hb,hp,hd⟩⟩)
end
end Go.Proofs.YthmlacabmlghbaaGreatDoor
