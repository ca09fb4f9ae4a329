import Derived.Laws.MakeOwn
import Derived.Test.YthmlacabmlghbaaGreatDoorBgJa45
set_option maxRecDepth 100000
set_option maxHeartbeats 8000000
set_option linter.unusedSimpArgs false
set_option linter.unusedVariables false
namespace Go.Proofs.YthmlacabmlghbaaGreatDoor
open Go.Proofs.Tryz
theorem ZV8{p:Prop}(h:p:=by rintro e w1 ⟨v1,rfl,Zf,hK1,hF1⟩;go_wp2_with fail;go_ret;exact⟨_,rfl,Zf,hK1,hF1⟩):p:=h
theorem ZV7{p:Prop}(h:p:=by rintro e w1 ⟨v1,rfl,Zf,hK1,hF1⟩;go_wp2_with fail;go_ret;exact⟨_,rfl,Zf,(Zb.alloc M _ _).trans hK1,hF1⟩):p:=h
theorem ZRe{p:Prop}(h:p:=by simp[results,Tryz.results6,go_sem]):p:=h
open Go.RowKit
section
open NT
theorem ZuP{w:RW}(hw:Yi w){y:Za×T}(hy:y∈YE)(ha:y.2≠T.agg):tok w=y.2↔w.sort=YC/\w.text=y.1:=by
 have h:=Zoj hw hy ha;constructor
 ·intro e;rw[e]at h;simp only[decide_true]at h;unfold Vn at h;simpa using h
 ·intro e;have:Vn w y.1=true:=by unfold Vn;simp[e.1,e.2]
  rw[this]at h;exact ZXL h.symm
theorem ZiD{w:RW}(hw:Yi w){y:Za×T}(hy:y∈Y0)(ha:y.2≠T.cmp):tok w=y.2↔w.sort=ZT/\w.text=y.1:=by
 have h:=Zww hw hy ha;constructor
 ·intro e;rw[e]at h;simp only[decide_true]at h;unfold JY at h;simpa using h
 ·intro e;have:JY w y.1=true:=by unfold JY;simp[e.1,e.2]
  rw[this]at h;exact ZXL h.symm
theorem ZyU(u:T):isAdd u=true↔u=T.plus\/u=T.minus:=by cases u<;>simp[isAdd]
theorem ZHT(u:T):isMul u=true↔u=T.star\/u=T.slash\/u=T.pct:=by cases u<;>simp[isMul]
theorem ZIl(w:RW)(hw:Yi w):(fun u=>u=T.Qr) (tok w)↔w.sort=YC/\w.text∈ [[111,114]]:=by
 rw[ZXh];exact ZuP hw (y:=([111,114],T.Qr)) ZPl ZPl
theorem Zzf(w:RW)(hw:Yi w):(fun u=>u=T.Qa) (tok w)↔w.sort=YC/\w.text∈ [[97,110,100]]:=by
 rw[ZXh];exact ZuP hw (y:=([97,110,100],T.Qa)) ZPl ZPl
theorem ZyV(w:RW)(hw:Yi w):(fun u=>isAdd u=true) (tok w)↔w.sort=ZT/\w.text∈ [[43], [45]]:=by
 have h1:=ZiD hw (y:=([43],T.plus)) ZPl ZPl;have h2:=ZiD hw (y:=([45],T.minus)) ZPl ZPl;show isAdd (tok w)=true↔_;rw[ZyU,h1,h2];simp only[ZW3,ZXV,ZXK];exact and_or_left.symm
theorem ZHU(w:RW)(hw:Yi w):(fun u=>isMul u=true) (tok w)↔w.sort=ZT/\w.text∈ [[42], [47], [37]]:=by
 have h1:=ZiD hw (y:=([42],T.star)) ZPl ZPl;have h2:=ZiD hw (y:=([47],T.slash)) ZPl ZPl;have h3:=ZiD hw (y:=([37],T.pct)) ZPl ZPl;show isMul (tok w)=true↔_;rw[ZHT,h1,h2,h3];simp only[ZW3,ZXV,ZXK];rw[and_or_left,and_or_left]
theorem ZwY(M:Nat)(W:World)(hM:M<W.heap.size)(a:Za):KO M W.heap.size (W.alloc (.cells #[.string ⟨a.toArray⟩] 9)) [a]:=by
 refine⟨U,fun k hk=>?_⟩;have h3:=ZWV W (.cells #[.string ⟨a.toArray⟩] 9);rcases k with _|k
 ·exact(Zbs h3 0).trans rfl
 ·exact ZWJ
theorem ZMl(M:Nat)(W:World)(hM:M<W.heap.size)(a b:Za):KO M W.heap.size (W.alloc (.cells #[.string ⟨a.toArray⟩,.string ⟨b.toArray⟩] 9)) [a,b]:=by
 refine⟨U,fun k hk=>?_⟩;have h3:=ZWV W (.cells #[.string ⟨a.toArray⟩,.string ⟨b.toArray⟩] 9);rcases k with _|_|k
 ·exact(Zbs h3 0).trans rfl
 ·exact(Zbs h3 1).trans rfl
 ·exact ZWJ
theorem ZMm(M:Nat)(W:World)(hM:M<W.heap.size)(a b c:Za):KO M W.heap.size (W.alloc (.cells #[.string ⟨a.toArray⟩,.string ⟨b.toArray⟩,.string ⟨c.toArray⟩] 9)) [a,b,c]:=by
 refine⟨U,fun k hk=>?_⟩;have h3:=ZWV W (.cells #[.string ⟨a.toArray⟩,.string ⟨b.toArray⟩,.string ⟨c.toArray⟩] 9);rcases k with _|_|_|k
 ·exact(Zbs h3 0).trans rfl
 ·exact(Zbs h3 1).trans rfl
 ·exact(Zbs h3 2).trans rfl
 ·exact ZWJ
theorem ZHx(C M N:Nat)(ws:List RW)(m:Nat)(hI:Is C M N ws m)(i j:Nat)(W:World)(h:Cut C M N ws W)(hi:i<j)(hj:j<=ws.length)(hm:(j-i)*20+1=m):
  Calls prog 74 #[.pointer (some ⟨C,0,none⟩),.int .i64 0,.int .i64 i,.int .i64 j] W (Post C M N ws W (¬G query (st (ws.map tok) i j)) (D query (sw ws i j))):=by
 have hlen:=h.len;have HL:Hid (j<=(ws.map tok).length):=by show j<=_;simpa using hj
 go_enter func74,ntmps74;go_wp2_with fail;refine(ZAF C M N ws m hI i j _ h hi hj U).mono ?_;exact ZV8
theorem ZHn(C M N:Nat)(ws:List RW)(m:Nat)(hI:Is C M N ws m)(i j:Nat)(W:World)(h:Cut C M N ws W)(hi:i<j)(hj:j<=ws.length)(hm:(j-i)*20+0=m):
  Calls prog 74 #[.pointer (some ⟨C,0,none⟩),.int .i64 1,.int .i64 i,.int .i64 j] W (Post C M N ws W (¬G core (st (ws.map tok) i j)) (D core (sw ws i j))):=by
 have hlen:=h.len;have HL:Hid (j<=(ws.map tok).length):=by show j<=_;simpa using hj
 go_enter func74,ntmps74;go_wp2_with fail;refine(ZAx C M N ws m hI i j _ h hi hj U).mono ?_;exact ZV8
theorem ZHA(C M N:Nat)(ws:List RW)(m:Nat)(hI:Is C M N ws m)(i j:Nat)(W:World)(h:Cut C M N ws W)(hi:i<j)(hj:j<=ws.length)(hm:(j-i)*20+2=m):
  Calls prog 74 #[.pointer (some ⟨C,0,none⟩),.int .i64 2,.int .i64 i,.int .i64 j] W (Post C M N ws W (¬G tail (st (ws.map tok) i j)) (D tail (sw ws i j))):=by
 have hlen:=h.len;have HL:Hid (j<=(ws.map tok).length):=by show j<=_;simpa using hj
 go_enter func74,ntmps74;go_wp2_with fail;refine(ZAK C M N ws m hI i j _ h hi hj U).mono ?_;exact ZV8
theorem ZHh(C M N:Nat)(ws:List RW)(m:Nat)(hI:Is C M N ws m)(i j:Nat)(W:World)(h:Cut C M N ws W)(hi:i<j)(hj:j<=ws.length)(hm:(j-i)*20+4=m):
  Calls prog 74 #[.pointer (some ⟨C,0,none⟩),.int .i64 3,.int .i64 i,.int .i64 j] W (Post C M N ws W (¬G after (st (ws.map tok) i j)) (D after (sw ws i j))):=by
 have hlen:=h.len;have HL:Hid (j<=(ws.map tok).length):=by show j<=_;simpa using hj
 go_enter func74,ntmps74;go_wp2_with fail;refine(ZAI C M N ws m hI i j _ h hi hj U).mono ?_;exact ZV8
theorem ZHq(C M N:Nat)(ws:List RW)(m:Nat)(hI:Is C M N ws m)(i j:Nat)(W:World)(h:Cut C M N ws W)(hi:i<j)(hj:j<=ws.length)(hm:(j-i)*20+2=m):
  Calls prog 74 #[.pointer (some ⟨C,0,none⟩),.int .i64 4,.int .i64 i,.int .i64 j] W (Post C M N ws W (¬G Z6 (st (ws.map tok) i j)) (D Z6 (sw ws i j))):=by
 have hlen:=h.len;have HL:Hid (j<=(ws.map tok).length):=by show j<=_;simpa using hj
 go_enter func74,ntmps74;go_wp2_with fail;refine(ZAJ C M N ws m hI i j _ h hi hj U).mono ?_;exact ZV8
theorem ZHs(C M N:Nat)(ws:List RW)(m:Nat)(hI:Is C M N ws m)(i j:Nat)(W:World)(h:Cut C M N ws W)(hi:i<j)(hj:j<=ws.length)(hm:(j-i)*20+5=m):
  Calls prog 74 #[.pointer (some ⟨C,0,none⟩),.int .i64 5,.int .i64 i,.int .i64 j] W (Post C M N ws W (¬G items (st (ws.map tok) i j)) (D items (sw ws i j))):=by
 have hlen:=h.len;have HL:Hid (j<=(ws.map tok).length):=by show j<=_;simpa using hj
 go_enter func74,ntmps74;go_wp2_with fail;refine(Zmy C M N ws m hI NT.item items ZKH i j _ h hi hj ZPr).mono ?_;exact ZV8
theorem ZHr(C M N:Nat)(ws:List RW)(m:Nat)(hI:Is C M N ws m)(i j:Nat)(W:World)(h:Cut C M N ws W)(hi:i<j)(hj:j<=ws.length)(hm:(j-i)*20+4=m):
  Calls prog 74 #[.pointer (some ⟨C,0,none⟩),.int .i64 6,.int .i64 i,.int .i64 j] W (Post C M N ws W (¬G NT.item (st (ws.map tok) i j)) (D NT.item (sw ws i j))):=by
 have hlen:=h.len;have HL:Hid (j<=(ws.map tok).length):=by show j<=_;simpa using hj
 go_enter func74,ntmps74;go_wp2_with fail;refine(ZAE C M N ws m hI i j _ h hi hj U).mono ?_;exact ZV8
theorem ZHz(C M N:Nat)(ws:List RW)(m:Nat)(hI:Is C M N ws m)(i j:Nat)(W:World)(h:Cut C M N ws W)(hi:i<j)(hj:j<=ws.length)(hm:(j-i)*20+1=m):
  Calls prog 74 #[.pointer (some ⟨C,0,none⟩),.int .i64 7,.int .i64 i,.int .i64 j] W (Post C M N ws W (¬G sources (st (ws.map tok) i j)) (D sources (sw ws i j))):=by
 have hlen:=h.len;have HL:Hid (j<=(ws.map tok).length):=by show j<=_;simpa using hj
 go_enter func74,ntmps74;go_wp2_with fail;refine(Zmy C M N ws m hI source sources ZKI i j _ h hi hj ZPr).mono ?_;exact ZV8
theorem ZHy(C M N:Nat)(ws:List RW)(m:Nat)(hI:Is C M N ws m)(i j:Nat)(W:World)(h:Cut C M N ws W)(hi:i<j)(hj:j<=ws.length)(hm:(j-i)*20+0=m):
  Calls prog 74 #[.pointer (some ⟨C,0,none⟩),.int .i64 8,.int .i64 i,.int .i64 j] W (Post C M N ws W (¬G source (st (ws.map tok) i j)) (D source (sw ws i j))):=by
 have hlen:=h.len;have HL:Hid (j<=(ws.map tok).length):=by show j<=_;simpa using hj
 go_enter func74,ntmps74;go_wp2_with fail;refine(ZAH C M N ws i j _ h hi hj).mono ?_;exact ZV8
theorem ZHl(C M N:Nat)(ws:List RW)(m:Nat)(hI:Is C M N ws m)(i j:Nat)(W:World)(h:Cut C M N ws W)(hi:i<j)(hj:j<=ws.length)(hm:(j-i)*20+1=m):
  Calls prog 74 #[.pointer (some ⟨C,0,none⟩),.int .i64 9,.int .i64 i,.int .i64 j] W (Post C M N ws W (¬G Zu (st (ws.map tok) i j)) (D Zu (sw ws i j))):=by
 have hlen:=h.len;have HL:Hid (j<=(ws.map tok).length):=by show j<=_;simpa using hj
 go_enter func74,ntmps74;go_wp2_with fail;refine(Zmy C M N ws m hI column Zu ZKG i j _ h hi hj ZPr).mono ?_;exact ZV8
theorem ZHk(C M N:Nat)(ws:List RW)(m:Nat)(hI:Is C M N ws m)(i j:Nat)(W:World)(h:Cut C M N ws W)(hi:i<j)(hj:j<=ws.length)(hm:(j-i)*20+0=m):
  Calls prog 74 #[.pointer (some ⟨C,0,none⟩),.int .i64 10,.int .i64 i,.int .i64 j] W (Post C M N ws W (¬G column (st (ws.map tok) i j)) (D column (sw ws i j))):=by
 have hlen:=h.len;have HL:Hid (j<=(ws.map tok).length):=by show j<=_;simpa using hj
 go_enter func74,ntmps74;go_wp2_with fail;refine(ZAw C M N ws i j _ h hi hj).mono ?_;exact ZV8
theorem ZHj(C M N:Nat)(ws:List RW)(m:Nat)(hI:Is C M N ws m)(i j:Nat)(W:World)(h:Cut C M N ws W)(hi:i<j)(hj:j<=ws.length)(hm:(j-i)*20+3=m):
  Calls prog 74 #[.pointer (some ⟨C,0,none⟩),.int .i64 11,.int .i64 i,.int .i64 j] W (Post C M N ws W (¬G cnd (st (ws.map tok) i j)) (D cnd (sw ws i j))):=by
 have hlen:=h.len;have HL:Hid (j<=(ws.map tok).length):=by show j<=_;simpa using hj
 go_enter func74,ntmps74;go_wp2_with fail;refine(Zjt C M N ws m hI cnd ZF (fun u=>u=T.Qr) YC [[111,114]] W.heap.size 1 i j _ (h.alloc _) (ZwY M W h.ZN [111,114]) ZPl hi hj ZPr ZE4 ZIl (fun a t h=>.Uy h) (fun a u b x y h1 h2 h3=>.Uz h1 h2 h3)).mono ?_;exact ZV7
theorem ZHm(C M N:Nat)(ws:List RW)(m:Nat)(hI:Is C M N ws m)(i j:Nat)(W:World)(h:Cut C M N ws W)(hi:i<j)(hj:j<=ws.length)(hm:(j-i)*20+2=m):
  Calls prog 74 #[.pointer (some ⟨C,0,none⟩),.int .i64 12,.int .i64 i,.int .i64 j] W (Post C M N ws W (¬G ZF (st (ws.map tok) i j)) (D ZF (sw ws i j))):=by
 have hlen:=h.len;have HL:Hid (j<=(ws.map tok).length):=by show j<=_;simpa using hj
 go_enter func74,ntmps74;go_wp2_with fail;refine(Zjt C M N ws m hI ZF neg (fun u=>u=T.Qa) YC [[97,110,100]] W.heap.size 1 i j _ (h.alloc _) (ZwY M W h.ZN [97,110,100]) ZPl hi hj ZPr ZE6 Zzf (fun a t h=>.Ux h) (fun a u b x y h1 h2 h3=>.Uw h1 h2 h3)).mono ?_;exact ZV7
theorem ZHv(C M N:Nat)(ws:List RW)(m:Nat)(hI:Is C M N ws m)(i j:Nat)(W:World)(h:Cut C M N ws W)(hi:i<j)(hj:j<=ws.length)(hm:(j-i)*20+1=m):
  Calls prog 74 #[.pointer (some ⟨C,0,none⟩),.int .i64 13,.int .i64 i,.int .i64 j] W (Post C M N ws W (¬G neg (st (ws.map tok) i j)) (D neg (sw ws i j))):=by
 have hlen:=h.len;have HL:Hid (j<=(ws.map tok).length):=by show j<=_;simpa using hj
 go_enter func74,ntmps74;go_wp2_with fail;refine(Y8 C M N ws (i:Int) _ _ h U U).mono ?_;rintro e w' ⟨rfl,rfl⟩;cases hn:ZJ ws (i:Int) [110,111,116]with
 |true=>
  have HY:=(ZZ h.ok ([110,111,116],T.not_) ZPl ZPl i).1 hn;clear hn;go_wp2_with fail;refine(hI neg (i+1) j _ h U U U ZPr).mono ?_;rintro e w3 ⟨v3,rfl,ZA,hK3,ZH⟩;rw[Int.toNat_natCast]at ZH;rcases ZH with⟨rfl,ZK⟩|⟨b3,t3,rfl,hb3,hp3,hd3⟩
  ·have HN:Hid (¬G neg (st (ws.map tok) i j)):=fun hg=>by
    rcases(inv_neg _).1 hg with⟨a,e,ha⟩|⟨hx,_⟩
    ·obtain⟨_,_,e2⟩:=V3 HL.out e;exact ZK (by rw[e2];exact ha)
    ·rw[ZW1 (by have:=HL.out;omega)]at HY;exact hx (st (ws.map tok) (i+1) j) (by rw[Q4 _ hi HL.out,ZXc HY])
   exact ZSy
  ·go_wp2_with fail;go_ret;refine⟨_,rfl,(ZA.alloc _).alloc _,(hK3.trans (Zb.alloc M _ _)).trans (Zb.alloc M _ _),.inr ⟨_,_,rfl,?_,Vo ZA.ZN ZA.Zw {kind:= [110,111,116]} hp3,?_⟩⟩
   ·exact ZVb
   ·obtain⟨_,t0⟩:=ZQ HY;rw[Z0 ws hi hj];exact .UD t0 hd3
 |false=>
  have HN0:Hid ((ws.map tok)[i]?≠some T.not_):=Ea h.ok ([110,111,116],T.not_) ZPl ZPl hn;clear hn;go_wp2_with fail;refine(hI basic i j _ h U U U ZPr).mono ?_;rintro e w3 ⟨v3,rfl,ZA,hK3,ZH⟩;rw[Int.toNat_natCast]at ZH;go_wp2_with fail;go_ret;refine⟨_,rfl,ZA,hK3,?_⟩;rcases ZH with⟨e,ZK⟩|⟨b3,t3,e,hb3,hp3,hd3⟩
  ·refine .inl ⟨e,fun hg=>?_⟩;rcases(inv_neg _).1 hg with⟨a,e,ha⟩|⟨_,hb⟩
   ·exact HN0.out (V3 HL.out e).2.1
   ·exact ZK hb
  ·exact .inr ⟨b3,t3,e,hb3,hp3,.UC hd3⟩
theorem ZHi(C M N:Nat)(ws:List RW)(m:Nat)(hI:Is C M N ws m)(i j:Nat)(W:World)(h:Cut C M N ws W)(hi:i<j)(hj:j<=ws.length)(hm:(j-i)*20+0=m):
  Calls prog 74 #[.pointer (some ⟨C,0,none⟩),.int .i64 14,.int .i64 i,.int .i64 j] W (Post C M N ws W (¬G basic (st (ws.map tok) i j)) (D basic (sw ws i j))):=by
 have hlen:=h.len;have HL:Hid (j<=(ws.map tok).length):=by show j<=_;simpa using hj
 go_enter func74,ntmps74;go_wp2_with fail;refine(ZAv C M N ws m hI i j _ h hi hj U).mono ?_;exact ZV8
theorem ZHo(C M N:Nat)(ws:List RW)(m:Nat)(hI:Is C M N ws m)(i j:Nat)(W:World)(h:Cut C M N ws W)(hi:i<j)(hj:j<=ws.length)(hm:(j-i)*20+3=m):
  Calls prog 74 #[.pointer (some ⟨C,0,none⟩),.int .i64 15,.int .i64 i,.int .i64 j] W (Post C M N ws W (¬G expr (st (ws.map tok) i j)) (D expr (sw ws i j))):=by
 have hlen:=h.len;have HL:Hid (j<=(ws.map tok).length):=by show j<=_;simpa using hj
 go_enter func74,ntmps74;go_wp2_with fail;refine(Zjt C M N ws m hI expr term (fun u=>isAdd u=true) ZT [[43], [45]] W.heap.size 2 i j _ (h.alloc _) (ZMl M W h.ZN [43] [45]) ZPl hi hj ZPr ZE7 ZyV (fun a t h=>.Uj h) (fun a u b x y h1 h2 h3=>.Ui h1 h2 h3)).mono ?_;exact ZV7
theorem ZHC(C M N:Nat)(ws:List RW)(m:Nat)(hI:Is C M N ws m)(i j:Nat)(W:World)(h:Cut C M N ws W)(hi:i<j)(hj:j<=ws.length)(hm:(j-i)*20+2=m):
  Calls prog 74 #[.pointer (some ⟨C,0,none⟩),.int .i64 16,.int .i64 i,.int .i64 j] W (Post C M N ws W (¬G term (st (ws.map tok) i j)) (D term (sw ws i j))):=by
 have hlen:=h.len;have HL:Hid (j<=(ws.map tok).length):=by show j<=_;simpa using hj
 go_enter func74,ntmps74;go_wp2_with fail;refine(Zjt C M N ws m hI term factor (fun u=>isMul u=true) ZT [[42], [47], [37]] W.heap.size 3 i j _ (h.alloc _) (ZMm M W h.ZN [42] [47] [37]) ZPl hi hj ZPr ZFf ZHU (fun a t h=>.UA h) (fun a u b x y h1 h2 h3=>.UB h1 h2 h3)).mono ?_;exact ZV7
theorem ZHp(C M N:Nat)(ws:List RW)(m:Nat)(hI:Is C M N ws m)(i j:Nat)(W:World)(h:Cut C M N ws W)(hi:i<j)(hj:j<=ws.length)(hm:(j-i)*20+1=m):
  Calls prog 74 #[.pointer (some ⟨C,0,none⟩),.int .i64 17,.int .i64 i,.int .i64 j] W (Post C M N ws W (¬G factor (st (ws.map tok) i j)) (D factor (sw ws i j))):=by
 have hlen:=h.len;have HL:Hid (j<=(ws.map tok).length):=by show j<=_;simpa using hj
 go_enter func74,ntmps74;go_wp2_with fail;refine(ZAy C M N ws m hI i j _ h hi hj U).mono ?_;exact ZV8
theorem ZAD(C M N:Nat)(ws:List RW)(m:Nat)(hI:Is C M N ws m)(k:NT)(i j:Nat)(W:World)(h:Cut C M N ws W)(hi:i<j)(hj:j<=ws.length)(hm:(j-i)*20+rk k=m):
  Calls prog 74 #[.pointer (some ⟨C,0,none⟩),.int .i64 (num k),.int .i64 i,.int .i64 j] W (Post C M N ws W (¬G k (st (ws.map tok) i j)) (D k (sw ws i j))):=by
 cases k
 ·exact ZHx C M N ws m hI i j W h hi hj hm
 ·exact ZHn C M N ws m hI i j W h hi hj hm
 ·exact ZHA C M N ws m hI i j W h hi hj hm
 ·exact ZHh C M N ws m hI i j W h hi hj hm
 ·exact ZHq C M N ws m hI i j W h hi hj hm
 ·exact ZHs C M N ws m hI i j W h hi hj hm
 ·exact ZHr C M N ws m hI i j W h hi hj hm
 ·exact ZHz C M N ws m hI i j W h hi hj hm
 ·exact ZHy C M N ws m hI i j W h hi hj hm
 ·exact ZHl C M N ws m hI i j W h hi hj hm
 ·exact ZHk C M N ws m hI i j W h hi hj hm
 ·exact ZHj C M N ws m hI i j W h hi hj hm
 ·exact ZHm C M N ws m hI i j W h hi hj hm
 ·exact ZHv C M N ws m hI i j W h hi hj hm
 ·exact ZHi C M N ws m hI i j W h hi hj hm
 ·exact ZHo C M N ws m hI i j W h hi hj hm
 ·exact ZHC C M N ws m hI i j W h hi hj hm
 ·exact ZHp C M N ws m hI i j W h hi hj hm
theorem ZFj(C M N:Nat)(ws:List RW):∀m,Is C M N ws m:=by
 intro m;induction m with
 |zero=>intro k i j W h _ _ _ hm;omega
 |succ m ih=>
  intro k i j W h hi hj0 hj hm;by_cases hlt:(j.toNat-i)*20+rk k<m
  ·exact ih k i j W h hi hj0 hj hlt
  ·refine ZAC C M N ws k i j W h hi hj0 hj (fun hij W' h'=>?_);obtain⟨j',rfl⟩:∃j':Nat,j=j':=⟨j.toNat,U⟩;rw[Int.toNat_natCast]at hm hlt ⊢;exact ZAD C M N ws m ih k i j' W' h' U U U
end
section
open NT
theorem ZHD(n k:Nat)(h:k<n):(madeCells #[.pointer none] n)[k]? =some (.pointer none):=by
 unfold madeCells;simp[h,Nat.mod_one]
theorem ZDB(W:World)(o0 o1 o2:Obj):(((W.alloc o0).alloc o1).alloc o2).heap[W.heap.size]? =some o0/\(((W.alloc o0).alloc o1).alloc o2).heap[W.heap.size+1]? =some o1/\(((W.alloc o0).alloc o1).alloc o2).heap[W.heap.size+2]? =some o2:=by
 have e1:(W.alloc o0).heap.size=W.heap.size+1:=ZPm
 have e2:((W.alloc o0).alloc o1).heap.size=W.heap.size+2:=ZPm
 have h0:=ZWV W o0;have h1:=ZWV (W.alloc o0) o1;have h2:=ZWV ((W.alloc o0).alloc o1) o2;rw[e1]at h1;rw[e2]at h2;have k1:=Zb.alloc (W.heap.size+5) (W.alloc o0) o1;have k2:=Zb.alloc (W.heap.size+5) ((W.alloc o0).alloc o1) o2;exact⟨k2.obj U (k1.obj U h0),k2.obj U h1,h2⟩
theorem Zrh(W:World)(o0 o1 o2:Obj):Below W.heap.size W (((W.alloc o0).alloc o1).alloc o2):=
 (((ZWT _ W).alloc (ZWS _) o0).alloc ZPm o1).alloc ZPo o2
theorem ZLm(w:List T):st w 0 w.length=w:=by unfold st;simp
theorem ZLw(w:List RW):sw w 0 w.length=w:=by unfold sw;simp
theorem ZBJ(ws:List RW)(wa:Option Addr)(cap L:Nat)(W:World)(hw:Zde W wa ws)(hok:∀w∈ws,Yi w)(hlen:ws.length<=400)(hL:18*(ws.length+1)*(ws.length+1)=L)(cs:Array Value):
  Cut (W.heap.size+2) (W.heap.size+1) W.heap.size ws (((W.alloc (.cells cs XY)).alloc (.cells (madeCells #[.pointer none] L) 28)).alloc (.cells #[.slice wa ws.length cap,.int .i64 ws.length,.slice (some ⟨W.heap.size+1,0,none⟩) L L,.pointer (some ⟨W.heap.size,0,none⟩)] 118)):=by
 obtain⟨g0,g1,g2⟩:=ZDB W (.cells cs XY) (.cells (madeCells #[.pointer none] L) 28) (.cells #[.slice wa ws.length cap,.int .i64 ws.length,.slice (some ⟨W.heap.size+1,0,none⟩) L L,.pointer (some ⟨W.heap.size,0,none⟩)] 118);have hB:=Zrh W (.cells cs XY) (.cells (madeCells #[.pointer none] L) 28) (.cells #[.slice wa ws.length cap,.int .i64 ws.length,.slice (some ⟨W.heap.size+1,0,none⟩) L L,.pointer (some ⟨W.heap.size,0,none⟩)] 118);generalize ((W.alloc (.cells cs XY)).alloc (.cells (madeCells #[.pointer none] L) 28)).alloc (.cells #[.slice wa ws.length cap,.int .i64 ws.length,.slice (some ⟨W.heap.size+1,0,none⟩) L L,.pointer (some ⟨W.heap.size,0,none⟩)] 118)=W3 at g0 g1 g2 hB ⊢;refine⟨hlen,hok,U,U,⟨_,g0⟩,⟨wa,cap,L,by rw[hL];exact g2,fun i hi=>?_⟩,fun k i j hi hj=>⟨.pointer none,?_,.inl rfl⟩,fun o=>by simp[World.frozen?,g1]⟩
 ·obtain⟨g,e,c1,c2,c3⟩:=hw i hi;have hg:g<W.heap.size:=ZWW _ _ c1;exact⟨g,e,U,(hB.cell (p:=⟨g,_,none⟩) hg).trans c1,(hB.cell (p:=⟨g,_,none⟩) hg).trans c2,(hB.cell (p:=⟨g,_,none⟩) hg).trans c3⟩
 ·have hsp:=ZwB (n:=ws.length) (i:=i) (j:=j) k hi hj;rw[hL]at hsp;simp only[World.cell?,g1];exact ZHD L _ hsp
theorem ZJ6(ws:List RW)(wa:Option Addr)(cap:Nat)(W:World)(hw:Zde W wa ws)(hok:∀w∈ws,Yi w)(hlen:ws.length<=400):
  Calls prog 19 #[.slice wa ws.length cap] W fun e w'=>∃v M N,e= .returned v/\Below W.heap.size W w'/\Em M N w' v (¬G query (ws.map tok)) (D query ws):=by
 obtain⟨i0,hi0,hz0,hz1,hz2⟩:=ZXd Tryz.Zuj;have hL1:18*(ws.length+1)*(ws.length+1)<=18*401*401:=Nat.mul_le_mul U U;have hwr:wrap64 (18*((ws.length:Int)+1)*((ws.length:Int)+1))=((18*(ws.length+1)*(ws.length+1):Nat):Int):=by
  have e:18*((ws.length:Int)+1)*((ws.length:Int)+1)=((18*(ws.length+1)*(ws.length+1):Nat):Int):=ZPm
  rw[e];unfold wrap64;omega
 generalize hLe:18*(ws.length+1)*(ws.length+1)=L at hL1 hwr;have HLE:Hid (18*(ws.length+1)*(ws.length+1)=L):=hLe;clear hLe;have ZOn:∀w:World,(Instr.makeSlice 114 (.int .i64 (L:Int)) (.int .i64 (L:Int))).run prog w= .ok (.slice (some ⟨w.heap.size,0,none⟩) L L) (w.alloc (.cells (madeCells #[.pointer none] L) 28)):=fun w=>by
  have:=run_make (P:=prog) w 114 28 i0 (.pointer none) underlying114 hi0 hz0 .i64 .i64 (L:Int) (L:Int) U (Int.le_refl _) (by rw[hz2];omega) U;rw[hz1]at this;rw[show(Value.pointer none).cells= #[.pointer none] from rfl]at this;exact ZWN
 have HW:Hid (Zde W wa ws):=hw;clear hw;go_enter func19,ntmps19;go_wp2_with fail;have hC:=ZBJ ws wa cap L W HW.out hok hlen HLE.out (YF {} (.slice none 0 0) (.slice none 0 0) (.slice none 0 0) (.slice none 0 0) (.pointer none) (.pointer none));have hB:=Zrh W (.cells (YF {} (.slice none 0 0) (.slice none 0 0) (.slice none 0 0) (.slice none 0 0) (.pointer none) (.pointer none)) XY) (.cells (madeCells #[.pointer none] L) 28) (.cells #[.slice wa ws.length cap,.int .i64 ws.length,.slice (some ⟨W.heap.size+1,0,none⟩) L L,.pointer (some ⟨W.heap.size,0,none⟩)] 118);refine(ZFj (W.heap.size+2) (W.heap.size+1) W.heap.size ws (ws.length*20+2) query 0 (ws.length:Int) _ hC U U U (by simp[rk])).mono ?_;rintro e w1 ⟨v1,rfl,Zf,hK1,hF1⟩;go_wp2_with fail;go_ret;rw[Int.toNat_natCast,ZLw]at hF1;rw[show st (ws.map tok) 0 ws.length=ws.map tok from by have:=ZLm (ws.map tok);rwa [ZW5]at this]at hF1;refine⟨_,_,_,rfl,⟨hK1.os.trans hB.os,hK1.tape.trans hB.tape,hK1.output.trans hB.output,ZW0 hB.size hK1.size,fun g hg=>?_⟩,hF1⟩;exact(hK1.block g U (ZXi hg hB.size)).trans (hB.block g hg)
end
section
open NT
theorem Zxj:∀(l:List RW) (i:Nat) (h:i<l.length),(UN l)[i*3]? =some (.string ⟨l[i].sort.toArray⟩)/\(UN l)[i*3+1]? =some (.string ⟨l[i].text.toArray⟩)/\(UN l)[i*3+2]? =some (.int .i64 l[i].num)
 |w::l,0,h=>ZQJ
 |w::l,i+1,h=>by
  have ih:=Zxj l i ZPv;have e:∀j,(UN (w::l))[j+3]? =(UN l)[j]? :=fun j=>ZQJ
  exact ZWA
theorem ZIu{W:World}{B:Nat}{v:Value}{l:List RW}(h:W.ownsRow B 110 3 v l.length (UN l)):∃a cap,v= .slice a l.length cap/\Zde W a l:=by
 rcases h.2 with⟨rfl,h0⟩|⟨g,cap,cur,rfl,_⟩
 ·exact ZT2
 ·refine⟨_,cap,rfl,fun i hi=>⟨g,rfl,?_⟩⟩;obtain⟨e1,e2,e3⟩:=Zxj l i hi;exact ZU3
def Zl7(W:World):Except Nat (List RW)->Value->Int->Int->Prop
 | .error n,v,k,a=>v= .pointer none/\k=2/\a=n
 | .ok l,v,k,a=>(¬G query (l.map tok)/\v= .pointer none/\k=3/\a=0)\/(G query (l.map tok)/\deep l=true/\v= .pointer none/\k=4/\a=0)\/(G query (l.map tok)/\deep l=false/\k=0/\a=0/\∃M N b t,v= .pointer (some ⟨b,0,none⟩)/\Zr M N W t v/\D query l t)
theorem Zde.below{W W':World}{a:Option Addr}{l:List RW}(h:Zde W a l)(hB:Below W.heap.size W W'):Zde W' a l:=fun i hi=>by
 obtain⟨g,e,c1,c2,c3⟩:=h i hi;have hg:g<W.heap.size:=ZWW _ _ c1;exact⟨g,e,(hB.cell (p:=⟨g,_,none⟩) hg).trans c1,(hB.cell (p:=⟨g,_,none⟩) hg).trans c2,(hB.cell (p:=⟨g,_,none⟩) hg).trans c3⟩
theorem Zv7(s:Za)(W:World)(hs:s.length<=90000):
  Calls prog 6 #[.string ⟨s.toArray⟩] W fun e w'=>∃v k a,e= .returned (.tuple #[v,.int .i64 k,.int .i64 a])/\Below W.heap.size W w'/\Zl7 w' (XB s) v k a:=by
 have X9:Hid (∀l,XB s= .ok l->(∀w∈l,Yi w)/\l.length<=400):=fun l h=>by
  obtain⟨h1,h2,h3⟩:=ZfZ h;exact⟨h1,U⟩
 have hW:=fun w=>ZJ9 s w hs;generalize XB s=R at X9 hW ⊢;go_enter func6,ntmps6;go_wp2_with fail;refine(hW _).mono ?_;cases R with
 |error n=>
  rintro e w1 ⟨rfl,hB1⟩;go_wp2_with fail;refine ZW4 (v:=.tuple #[.pointer none,.int .i64 2,.int .i64 n]) ZRe rfl ⟨_,_,_,rfl,hB1,rfl,rfl,rfl⟩
 |ok l=>
  rintro e w1 ⟨v,rfl,hown,hB1⟩;obtain⟨hok,hlen⟩:=X9.out l rfl;obtain⟨a,cap,rfl,hWA⟩:=ZIu hown;go_wp2_with fail;refine(ZJ6 l a cap _ hWA hok hlen).mono ?_;rintro e w2 ⟨v2,M,N,rfl,hB2,hA2⟩;have Zm0:=hB1.trans (hB2.mono hB1.size);rcases hA2 with⟨rfl,hno⟩|⟨b,t,rfl,hb,hp,hd⟩
  ·have HN:Hid (¬G query (l.map tok)):=hno;clear hno;go_wp2_with fail;refine ZW4 (v:=.tuple #[.pointer none,.int .i64 3,.int .i64 0]) ZRe rfl ⟨_,_,_,rfl,Zm0,.inl ⟨HN.out,rfl,rfl,rfl⟩⟩
  ·have ZDn:=hWA.below hB2;go_wp2_with fail;refine(ZJ7 l a cap _ ZDn hlen).mono ?_;rintro e w3 ⟨rfl,rfl⟩;cases hdp:deep l with
   |true=>
    go_wp2_with fail;refine ZW4 (v:=.tuple #[.pointer none,.int .i64 4,.int .i64 0]) ZRe rfl ⟨_,_,_,rfl,Zm0,.inr (.inl ⟨hd.g,hdp,rfl,rfl,rfl⟩)⟩
   |false=>
    go_wp2_with fail;refine ZW4 (v:=.tuple #[.pointer (some ⟨b,0,none⟩),.int .i64 0,.int .i64 0]) ZRe rfl ⟨_,_,_,rfl,Zm0,.inr (.inr ⟨hd.g,hdp,rfl,rfl,M,N,b,t,rfl,hp,hd⟩)⟩
end
end Go.Proofs.YthmlacabmlghbaaGreatDoor
