import Derived.Test.YthmlacabmlghbaaGreatDoorBgJa41
set_option maxRecDepth 100000
set_option maxHeartbeats 8000000
set_option linter.unusedSimpArgs false
set_option linter.unusedVariables false
namespace Go.Proofs.YthmlacabmlghbaaGreatDoor
open Go.Proofs.Tryz
theorem ZS2{p:Prop}(h:p:=by clear hno;go_wp2_with fail;go_ret;exact⟨_,rfl,hC2,hK1.trans hK2,.inl ⟨rfl,HF.out⟩⟩):p:=h
theorem ZUK{p:Prop}(h:p:=by go_wp2_with fail;go_ret;exact⟨_,rfl,hC2,hK1.trans hK2,.inl ⟨rfl,HF.out⟩⟩):p:=h
theorem ZUI{p:Prop}(h:p:=by go_wp2_with fail;go_ret;exact⟨_,rfl,hC,hK,.inl ⟨rfl,Zr0 hi HL.out HS ZSr⟩⟩):p:=h
open Go.RowKit
section
open NT
theorem ZzV(Db M:Nat)(s:Za)(db:List Tb)(w:World)(hs:s.length<=90000)(hm:w.cell? ⟨Db,0,none⟩=some (.map (some M)))(hDb:J4 w M db)(hE:Zbm w)(hSp:UZ w):
  Calls prog 10 #[.pointer (some ⟨Db,0,none⟩),.string ⟨s.toArray⟩,.slice none 0 0] w fun e w'=>Below w.heap.size w w'/\
   ((∃q,e= .returned (.tuple #[.pointer (some q),.nilIface])/\QU s db 0 0)\/(∃b k a,e= .returned (.tuple #[.pointer none,E9 b])/\QU s db k a/\1<=k/\k<=9/\w'.cell? ⟨b,0,none⟩=some (.int .i64 k)/\w'.cell? ⟨b,1,none⟩=some (.int .i64 a))):=by
 have Xi:∀(fn:Fn) (first cap:Array Value) (w:World),(Instr.makeFunc fn first cap).run prog w= .ok (.func fn first cap) w:=fun _ _ _ _=>rfl;go_enter func10,ntmps10;go_wp2_with fail;generalize hw2:(w.alloc (.cells #[.pointer (some ⟨Db,0,none⟩)] 34)).alloc (.cells #[.string ⟨s.toArray⟩] 9)=w2;have hB2:Below w.heap.size w w2:=by rw[<-hw2];exact((ZWT _ w).alloc (ZWS _) _).alloc ZPm _
 have hsz:w2.heap.size=w.heap.size+2:=by rw[<-hw2];simp
 have p0:w2.heap[w.heap.size]? =some (.cells #[.pointer (some ⟨Db,0,none⟩)] 34 (0,0)):=by rw[<-hw2];exact(ZXa _ _ _ ZPm).trans (ZWV w _)
 have p1:w2.heap[w.heap.size+1]? =some (.cells #[.string ⟨s.toArray⟩] 9 (0,0)):=by
  rw[<-hw2];have:=ZWV (w.alloc (.cells #[.pointer (some ⟨Db,0,none⟩)] 34)) (.cells #[.string ⟨s.toArray⟩] 9);exact ZWq
 clear hw2;have Zm3:Below w2.heap.size w2 (Y9 w2 6):=((ZWT _ w2).alloc (ZWS _) _).alloc ZPm _;have U7:Below w.heap.size w (Y9 w2 6):=hB2.trans (Zm3.mono hB2.size);have Zn2:(Y9 w2 6).heap.size=w2.heap.size+2:=ZQk
 have HQ2:Hid ((Y9 w2 6).cell? ⟨w2.heap.size+1,0,none⟩=some .nilIface):=by show _=_;simp[Y9]
 have c0:(Y9 w2 6).cell? ⟨w.heap.size,0,none⟩=some (.pointer (some ⟨Db,0,none⟩)):=cell_of_heap ((Zm3.block w.heap.size U).trans p0);have c1:(Y9 w2 6).cell? ⟨w.heap.size+1,0,none⟩=some (.string ⟨s.toArray⟩):=cell_of_heap ((Zm3.block (w.heap.size+1) U).trans p1);have cm:(Y9 w2 6).cell? ⟨Db,0,none⟩=some (.map (some M)):=(U7.cell (p:=⟨Db,0,none⟩) (ZWW w _ hm)).trans hm;refine(ZAP ⟨w.heap.size,0,none⟩ ⟨w.heap.size+1,0,none⟩ 6 w2 (fun _ _=>QU s db 0 0) (fun b w3=>∃k a,QU s db k a/\1<=k/\k<=9/\w3.cell? ⟨b,0,none⟩=some (.int .i64 k)/\w3.cell? ⟨b,1,none⟩=some (.int .i64 a)) ?_).mono ?_
 ·refine(ZzW ⟨w.heap.size,0,none⟩ ⟨w.heap.size+1,0,none⟩ Db M s db _ hs c0 cm c1 (hDb.below U7) (hE.below U7) (hSp.below U7 hE.big)).mono ?_;rintro e w3 ⟨hB,h⟩;exact⟨hB.mono (by rw[Zn2];exact ZWS _),h⟩
 ·clear hDb hm c0 c1 cm p0 p1;rintro e w' ⟨w3,hB,(⟨q,h1,rfl,rfl⟩|⟨b,⟨k,a,h1,hk1,hk9,hb0,hb1⟩,rfl,rfl⟩)⟩
  ·have H1:Hid (QU s db 0 0):=h1;clear h1;go_wp2;go_ret2;refine⟨?_,.inl ⟨_,rfl,H1.out⟩⟩;exact ZTy
  ·have H1:Hid (QU s db k a):=h1;have hne:b≠w2.heap.size+1:=by
    intro e;have h2:=(hB.cell (p:=⟨w2.heap.size+1,0,none⟩) (by show w2.heap.size+1<_;omega)).trans HQ2.out;rw[<-e,hb0]at h2;cases h2
   clear h1;go_wp2;go_ret2;refine⟨?_,.inr ⟨b,k,a,rfl,H1.out,hk1,hk9,?_,?_⟩⟩
   ·exact ZTy
   ·exact(ZXb (a:=⟨b,0,none⟩) (ZXf w3 ⟨_,0,none⟩ _ b (by show b≠w.heap.size+2+1;omega))).trans hb0
   ·exact(ZXb (a:=⟨b,1,none⟩) (ZXf w3 ⟨_,0,none⟩ _ b (by show b≠w.heap.size+2+1;omega))).trans hb1
end
theorem ZJS(f:Value)(w:World):Calls prog 68 #[f] w fun e w'=>e= .returned (.tuple #[])/\w=w':=by
 go_enter func68,ntmps68;exact ZUB
theorem ZJR(q:Addr)(w:World):Calls prog 31 #[.pointer (some q)] w fun e w'=>e= .returned (.func (.func 68) #[] #[])/\w=w':=by
 have Xi:∀(fn:Fn) (first cap:Array Value) (w:World),(Instr.makeFunc fn first cap).run prog w= .ok (.func fn first cap) w:=fun _ _ _ _=>rfl;go_enter func31,ntmps31;exact ZUO
theorem Zv3(q:Addr)(w:World):Calls prog 11 #[.pointer (some q)] w fun e w'=>e= .returned (.slice none 0 0)/\w=w':=by
 go_enter func11,ntmps11;exact ZUO
theorem ZI8(q:Addr)(w:World):Calls prog 12 #[.pointer (some q),.int .i64 0] w fun e w'=>e= .returned (.tuple #[.slice none 0 0,.int .i64 0])/\Below w.heap.size w w':=by
 have Xi:∀(fn:Fn) (first cap:Array Value) (w:World),(Instr.makeFunc fn first cap).run prog w= .ok (.func fn first cap) w:=fun _ _ _ _=>rfl;go_enter func12,ntmps12;go_wp2_with fail;go_ret2;exact⟨rfl,((((ZWT _ w).alloc (ZWS _) _).alloc ZPm _).alloc ZPo _).alloc ZPo _⟩
theorem ZvF(q:Addr)(w:World):Calls prog 12 #[.pointer (some q),.int .i64 (-1)] w fun e w'=>e= .returned (.tuple #[.slice none 0 0,.int .i64 0])/\Below w.heap.size w w':=by
 have Xi:∀(fn:Fn) (first cap:Array Value) (w:World),(Instr.makeFunc fn first cap).run prog w= .ok (.func fn first cap) w:=fun _ _ _ _=>rfl;go_enter func12,ntmps12;go_wp2_with fail;have hB4:Below w.heap.size w ((((w.alloc (.cells #[.int .i64 (-1)] 3)).alloc (.cells #[.slice none 0 0] 22)).alloc (.cells #[.int .i64 0] 3)).alloc (.cells #[.bool false] 4)):=((((ZWT _ w).alloc (ZWS _) _).alloc ZPm _).alloc ZPo _).alloc ZPo _;refine(ZJR _ _).mono ?_;rintro e w1 ⟨rfl,rfl⟩;go_wp2_with fail;refine(ZJS _ _).mono ?_;rintro e w1 ⟨rfl,rfl⟩;generalize hw4:(((w.alloc (.cells #[.int .i64 (-1)] 3)).alloc (.cells #[.slice none 0 0] 22)).alloc (.cells #[.int .i64 0] 3)).alloc (.cells #[.bool false] 4)=w4 at *;have l0:w4.cell? ⟨w.heap.size+1,0,none⟩=some (.slice none 0 0):=by
  rw[<-hw4];refine cell_of_heap (ty:=22) (fr:=(0,0)) ((ZXa _ _ _ ZRb).trans ((ZXa _ _ _ ZPm).trans ?_));have:=ZWV (w.alloc (.cells #[.int .i64 (-1)] 3)) (.cells #[.slice none 0 0] 22);exact ZWq
 have l1:w4.cell? ⟨w.heap.size+1+1,0,none⟩=some (.int .i64 0):=by
  rw[<-hw4];refine cell_of_heap (ty:=3) (fr:=(0,0)) ((ZXa _ _ _ ZPm).trans ?_);have:=ZWV ((w.alloc (.cells #[.int .i64 (-1)] 3)).alloc (.cells #[.slice none 0 0] 22)) (.cells #[.int .i64 0] 3);rw[World.size_alloc,World.size_alloc]at this;exact this
 clear hw4;go_wp2_with fail;go_quiet (fail);go_wp2_with fail;go_ret2;exact⟨rfl,ZW hB4 _⟩
section
open NT
theorem ZoZ{fn:Func}{t u v x:Tmp}(h:fn.results= #[.tmp t,.tmp u,.tmp v,.tmp x])(tmps:Array Value)(P:Program)(w:World):
  (results fn tmps).run P w= .ok (.tuple #[tmps.getD t undef,tmps.getD u undef,tmps.getD v undef,tmps.getD x undef]) w:=by
 simp[results,h]
theorem EX.ok{n0:Nat}{s:Za}{Db:Nat}{W:World}(h:EX n0 s Db W):Zc2 ((Qt [] (ZX s)).map El):=by
 obtain⟨h0,M,h1,h2,st,B,h3,h4,h5⟩:=h;obtain⟨e,hk⟩:=Zmb _ _ _ h3 Zw0;have e':Qt [] (ZX s)=Zce st.tabs:=e;rw[e',Zr4];exact ZBQ hk
def ZgO(d s:Za)(k a:Int):Prop:=
 (0<=YZ d/\k=1/\a=YZ d)\/(YZ d= -1/\QU s ((Qt [] (ZX d)).map El) k a/\0<=k/\k<=9/\Zc2 ((Qt [] (ZX d)).map El))
theorem ZI4(d s:Za)(w:World)(hd:d.length<=90000)(hs:s.length<=90000)(hE:Zbm w)(hS:UZ w)(Uv:Vx w)(hT:w.cell? ⟨0,0,none⟩=some (.iface 185 (.agg #[.pointer (some ⟨13,36,none⟩)]))):
  Calls prog 4 #[.string ⟨d.toArray⟩,.string ⟨s.toArray⟩,.slice none 0 0] w fun e w'=>Below w.heap.size w w'/\∃c l k a,e= .returned (.tuple #[c,l,.int .i64 k,.int .i64 a])/\ZgO d s k a:=by
 have hG:13<=w.heap.size:=hE.big;have hgl:0<w.heap.size:=ZXi ZPl hG;go_enter func4,ntmps4;go_wp2_with fail;refine(ZzT d w hd hS Uv hG).mono ?_;rintro e w1 ⟨hB1,(⟨Db,rfl,h1,hDb⟩|⟨b,rfl,h1,hb0,hb1⟩)⟩
 ·have H1:Hid (YZ d= -1):=h1;obtain⟨M,hm,hIs⟩:=hDb.is;have HIS:Hid (J4 w1 M ((Qt [] (ZX d)).map El)):=hIs;have HM:Hid (w1.cell? ⟨Db,0,none⟩=some (.map (some M))):=hm;have X9:Hid (Zc2 ((Qt [] (ZX d)).map El)):=hDb.ok;clear h1 hDb hIs hm;go_wp2_with fail;refine(ZzV Db M s _ w1 hs HM.out HIS.out (hE.below hB1) (hS.below hB1 hG)).mono ?_;rintro e w2 ⟨hB2,(⟨q,rfl,hJ⟩|⟨b,k,a,rfl,hJ,hk1,hk9,hb0,hb1⟩)⟩
  ·have HR:Hid (ZgO d s 0 0):=.inr ⟨H1.out,hJ,ZPl,ZPl,X9.out⟩;have hBW:=hB1.trans (hB2.mono hB1.size);clear hJ;go_wp2_with fail;refine(Zv3 q _).mono ?_;rintro e w3 ⟨rfl,rfl⟩;go_wp2_with fail;refine(ZvF q _).mono ?_;rintro e w3 ⟨rfl,hB3⟩;have VP:=hBW.trans (hB3.mono hBW.size);go_wp2_with fail;go_loopg [72] 1 (fun gk iv wr=>gk=1/\iv= .int .i64 0/\w3=wr);case atStart=>exact⟨rfl,rfl,rfl⟩
   case round=>
    obtain⟨rfl,rfl,rfl⟩:=hrel;go_wp2_with fail;refine(ZI8 q _).mono ?_;rintro e w4 ⟨rfl,hB4⟩;have Zco:=VP.trans (hB4.mono VP.size);go_wp2_with fail;refine(ZvF q _).mono ?_;rintro e w5 ⟨rfl,X4⟩;have ZCZ:=Zco.trans (X4.mono Zco.size);go_wp2_with fail;refine(Zv3 q _).mono ?_;rintro e w6 ⟨rfl,rfl⟩;go_wp2_with fail;go_loopg [116] 1 (fun gk iv wr=>gk=1/\iv= .int .i64 0/\w5=wr);case atStart=>exact⟨rfl,rfl,rfl⟩
    case round=>
     obtain⟨rfl,rfl,rfl⟩:=hrel;go_wp2_with fail
     (try simp only[Exit.inBlock,Exit.then]);refine ZW4 (ZoZ rfl _ _ _) rfl ?_
     exact⟨ZCZ,_,_,0,0,rfl,HR.out⟩
  ·have HR:Hid (ZgO d s k a):=.inr ⟨H1.out,hJ,U,hk9,X9.out⟩;have hBW:=hB1.trans (hB2.mono hB1.size);have hE2:=(hBW.cell (p:=⟨0,0,none⟩) hgl).trans hT;clear hJ;go_wp2_with fail;refine(ZvO b k a _ hk1 hk9 hb0 hb1 hE2).mono ?_;rintro e w3 ⟨rfl,hB3⟩;clear hb0 hb1 hE2;go_wp2_with fail
   (try simp only[Exit.inBlock,Exit.then]);refine ZW4 (ZoZ rfl _ _ _) rfl ?_
   exact⟨hBW.trans (hB3.mono hBW.size),_,_,k,a,rfl,HR.out⟩
 ·have HR:Hid (ZgO d s 1 (YZ d)):=.inl ⟨h1,rfl,rfl⟩;have hE1:=(hB1.cell (p:=⟨0,0,none⟩) hgl).trans hT;generalize YZ d=at_ at *;clear h1;go_wp2_with fail;refine(ZvO b 1 at_ _ ZPl ZPl hb0 hb1 hE1).mono ?_;rintro e w3 ⟨rfl,hB3⟩;clear hb0 hb1 hE1;go_wp2_with fail
  (try simp only[Exit.inBlock,Exit.then]);refine ZW4 (ZoZ rfl _ _ _) rfl ?_
  exact⟨hB1.trans (hB3.mono hB1.size),_,_,1,at_,rfl,HR.out⟩
end
section
open NT
theorem ZAC(C M N:Nat)(ws:List RW)(k:NT)(i:Nat)(j:Int)(W:World)(h:Cut C M N ws W)(hi:i<=900)(hj0: -10<=j)(hj:j<=ws.length)
  (hL:(i:Int)<j->∀W,Cut C M N ws W->Calls prog 74 #[.pointer (some ⟨C,0,none⟩),.int .i64 (num k),.int .i64 i,.int .i64 j] W (Post C M N ws W (¬G k (st (ws.map tok) i j.toNat)) (D k (sw ws i j.toNat)))):
  Calls prog 40 #[.pointer (some ⟨C,0,none⟩),.int .i64 (num k),.int .i64 i,.int .i64 j] W (Post C M N ws W (¬G k (st (ws.map tok) i j.toNat)) (D k (sw ws i j.toNat))):=by
 have hlen:=h.len;obtain⟨wa,cap,QA,c0,c1,c2,c3,cw⟩:=h.cells;clear cw;by_cases hlt:(i:Int)<j
 ·obtain⟨j,rfl⟩:∃j':Nat,j=j':=⟨j.toNat,U⟩;have hL':=hL hlt;clear hL;have hnk:=Zow k;generalize hn:ws.length=n at *;have h1:num k*(n+1)<=17*401:=Nat.mul_le_mul U U;have h2:(num k*(n+1)+i)*(n+1)<=(17*401+400)*401:=Nat.mul_le_mul U U;have E1:Hid (((num k:Nat):Int)*((n:Int)+1)=((num k*(n+1):Nat):Int)):=by show _=_;simp
  have E2:Hid ((((num k:Nat):Int)*((n:Int)+1)+(i:Int))*((n:Int)+1)=(((num k*(n+1)+i)*(n+1):Nat):Int)):=by show _=_;simp
  have b1:0<=((num k:Nat):Int)*((n:Int)+1):=by rw[E1.out];omega
  have b2:((num k:Nat):Int)*((n:Int)+1)<=6817:=by rw[E1.out];omega
  have b3:0<=(((num k:Nat):Int)*((n:Int)+1)+(i:Int))*((n:Int)+1):=by rw[E2.out];omega
  have b4:(((num k:Nat):Int)*((n:Int)+1)+(i:Int))*((n:Int)+1)<=2894017:=by rw[E2.out];omega
  go_enter func40,ntmps40;go_wp2_with fail;go_quiet (fail);have EQ:(((num k:Nat):Int)*((n:Int)+1)+(i:Int))*((n:Int)+1)+(j:Int)=((spot n k i j:Nat):Int):=by rw[E2.out];unfold spot;omega
  rw[EQ];have hsp:=ZwB (n:=n) (i:=i) (j:=j) k U U;obtain⟨v0,cm,hm0⟩:=h.memo k i j U U;rw[hn]at cm;have hL1:18*(n+1)*(n+1)<=18*401*401:=Nat.mul_le_mul U U;have hfr:=h.frozen;have HSP:Hid (spot ws.length k i j=spot n k i j):=by show _=_;rw[hn]
  clear EQ b1 b2 b3 b4 E1 E2 h1 h2;generalize spot n k i j=sp at hsp cm HSP ⊢;generalize hLe:18*(n+1)*(n+1)=L at hsp hL1 c2 ⊢;have HLE:Hid (18*(n+1)*(n+1)=L):=hLe;clear hLe;have hset:∀(w:World) (q:Nat) (u:Value) (o:Nat),(w.setCell ⟨M,q,none⟩ u).cell? ⟨C,o,none⟩=w.cell? ⟨C,o,none⟩:=fun w q u o=>World.cell?_setCell_far w ⟨M,q,none⟩ ⟨C,o,none⟩ u (fun e=>h.cm e.symm);have heq:=ZB4 N;have ZN7:=ZB5 N;rcases hm0 with rfl|⟨rfl,hno⟩|⟨b,t,rfl,hb,hp,hd⟩
  ·go_wp2_with fail;refine(hL' _ (h.drew _)).mono ?_;rintro e w1 ⟨v1,rfl,Zf,hK1,hF1⟩;rw[Int.toNat_natCast]at hF1;clear c0 c1 c2 c3 cm hfr;obtain⟨wa,cap,QA,c0,c1,c2,c3,cw⟩:=Zf.cells;clear cw;rw[hn]at c0 c1 c2;rw[HLE.out]at c2;obtain⟨v0,cm,hm0⟩:=Zf.memo k i j U U;rw[HSP.out]at cm;clear hm0;have hfr:=Zf.frozen;have HL:Hid (Cut C M N ws w1):=Zf;rcases hF1 with⟨rfl,hno⟩|⟨b,t,rfl,hb,hp,hd⟩
   ·have Y4:Hid (¬G k (st (ws.map tok) i j)):=hno;clear hno;go_wp2_with fail;go_region;go_wp2_with fail;go_ret;have s1:Cut C M N ws (w1.setCell ⟨M,sp,none⟩ (.pointer none)):=by
     have:=HL.out.set (k:=k) (i:=i) (j:=j) U U (v:=.pointer none) (.inl rfl);rwa [HSP.out]at this
    have s2:Cut C M N ws ((w1.setCell ⟨M,sp,none⟩ (.pointer none)).setCell ⟨M,sp,none⟩ (.pointer (some ⟨N,0,none⟩))):=by
     have:=s1.set (k:=k) (i:=i) (j:=j) U U (v:=.pointer (some ⟨N,0,none⟩)) (.inr (.inl ⟨rfl,Y4.out⟩));rwa [HSP.out]at this
    exact⟨_,rfl,s2.drew 1,((((Zb.drew M W nq).trans hK1).trans (Zb.set M _ _ _)).trans (Zb.set M _ _ _)).trans (Zb.drew M _ 1),.inl ⟨rfl,Y4.out⟩⟩
   ·have hne:(binOp .eql 28 (.pointer (some ⟨b,0,none⟩)) (.pointer (some ⟨N,0,none⟩))).run prog (w1.setCell ⟨M,sp,none⟩ (.pointer (some ⟨b,0,none⟩)))= .ok (.bool false) (w1.setCell ⟨M,sp,none⟩ (.pointer (some ⟨b,0,none⟩))):=
     Zsc hb ((hp.keep (Zb.set M _ _ _)).obj) (HL.out.Zil.imp fun cs hc=>(Zb.set M w1 _ _).obj h.nm hc)
    go_wp2_with fail;go_ret;have s1:Cut C M N ws (w1.setCell ⟨M,sp,none⟩ (.pointer (some ⟨b,0,none⟩))):=by
     have:=HL.out.set (k:=k) (i:=i) (j:=j) U U (v:=.pointer (some ⟨b,0,none⟩)) (.inr (.inr ⟨b,t,rfl,hb,hp,hd⟩));rwa [HSP.out]at this
    exact⟨_,rfl,s1,((Zb.drew M W nq).trans hK1).trans (Zb.set M _ _ _),.inr ⟨b,t,rfl,hb,hp.keep (Zb.set M _ _ _),hd⟩⟩
  ·have Y4:Hid (¬G k (st (ws.map tok) i j)):=hno;clear hno;go_wp2_with fail;go_ret;exact⟨_,rfl,h.drew _,Zb.drew M _ _,.inl ⟨rfl,Y4.out⟩⟩
  ·have hne:∀q,(binOp .eql 28 (.pointer (some ⟨b,0,none⟩)) (.pointer (some ⟨N,0,none⟩))).run prog (W.drewN q)= .ok (.bool false) (W.drewN q):=fun q=>Zsc hb (hp.obj) h.Zil;go_wp2_with fail;go_ret;exact⟨_,rfl,h.drew _,Zb.drew M _ _,.inr ⟨b,t,rfl,hb,hp.keep (Zb.drew M _ _),hd⟩⟩
 ·go_enter func40,ntmps40;go_wp2_with fail;go_ret;refine⟨_,rfl,h,Zb.refl _ _,.inl ⟨rfl,fun hg=>?_⟩⟩;exact EB hg (Ky _ U)
end
section
open NT
theorem ZzQ{w:List T}{i j:Nat}{a:List T}{t u:T}(hj:j<=w.length)(h:st w i j=a++ [t,u]):i+2<=j/\a=st w i (j-2)/\w[j-2]? =some t/\w[j-1]? =some u:=by
 have hl:=congrArg List.length h;rw[Za2 w hj]at hl;simp at hl;obtain⟨p,p1,p2,p3,p4,p5⟩:=ZdQ (a:=a) (u:=t) (b:= [u]) hj h;have hl2:=congrArg List.length p5;rw[Za2 w hj]at hl2;simp at hl2;obtain rfl:p=j-2:=U
 refine⟨U,p3,p4,?_⟩;rw[Q4 w U hj]at p5;have e:j-2+1=j-1:=U
 rw[<-e,ZW1 U,<-(ZXk p5).1]
theorem ZLx{ws:List RW}{i j:Nat}(hi:i+2<=j)(hj:j<=ws.length):sw ws i j=sw ws i (j-2)++ [ws[j-2]' U,ws[j-1]' U]:=by
 rw[Zpo ws (i:=i) (p:=j-2) U U,Z0 ws (i:=j-2) U hj];have e:j-2+1=j-1:=U
 rw[Z0 ws (i:=j-2+1) U hj,V4 ws (i:=j-2+1+1) U];simp only[e]
theorem ZkM{w:List T}{i j:Nat}(hj:j<=w.length)(h1:¬G expr (st w i j))(h2:i+2<=j->w[j-2]? =some T.Zx->w[j-1]? =some T.name->¬G expr (st w i (j-2))):¬G NT.item (st w i j):=by
 intro hg;rcases(ZFa _).1 hg with hg|⟨a,e,ha⟩
 ·exact h1 hg
 ·obtain⟨q1,rfl,q2,q3⟩:=ZzQ hj e;exact h2 q1 q2 q3 ha
theorem ZAE(C M N:Nat)(ws:List RW)(m:Nat)(hI:Is C M N ws m)(i j:Nat)(W:World)(h:Cut C M N ws W)(hi:i<j)(hj:j<=ws.length)(hm:(j-i)*20+3<m):
  Calls prog 102 #[.pointer (some ⟨C,0,none⟩),.int .i64 15,.int .i64 i,.int .i64 j] W (Post C M N ws W (¬G NT.item (st (ws.map tok) i j)) (D NT.item (sw ws i j))):=by
 have hlen:=h.len;have HL:Hid (j<=(ws.map tok).length):=by show j<=_;simpa using hj
 go_enter func102,ntmps102;go_wp2_with fail;refine(hI expr i j _ h U U U (by simpa[rk]using hm)).mono ?_;rintro e w1 ⟨v1,rfl,Zf,hK1,hF1⟩;rw[Int.toNat_natCast]at hF1;rcases hF1 with⟨rfl,hno⟩|⟨b,t,rfl,hb,hp,hd⟩
 ·have Y4:Hid (¬G expr (st (ws.map tok) i j)):=hno;clear hno;by_cases hj2:2<=j
  ·have e2:(j:Int)-2=((j-2:Nat):Int):=by omega
   have e1:(j:Int)-1=((j-1:Nat):Int):=U
   go_wp2_with fail;refine(Y8 C M N ws ((j-2:Nat):Int) _ _ Zf U U).mono ?_;rintro e w' ⟨rfl,rfl⟩;cases hk:ZJ ws ((j-2:Nat):Int) [97,115]with
   |false=>
    have HNK:Hid ((ws.map tok)[j-2]?≠some T.Zx):=fun e=>by rw[(ZZ h.ok ([97,115],T.Zx) ZPl ZPl (j-2)).2 e]at hk;cases hk
    clear hk;go_wp2_with fail;refine(hI expr i ((j-2:Nat):Int) _ Zf U U U ZPr).mono ?_;rintro e w2 ⟨v2,rfl,hC2,hK2,hF2⟩;have HF:Hid (¬G NT.item (st (ws.map tok) i j)):=ZkM HL.out Y4.out (fun _ e=>absurd e HNK.out);rcases hF2 with⟨rfl,hno⟩|⟨b,t,rfl,hb,hp,hd⟩
    ·exact ZS2
    ·exact ZUK
   |true=>
    have HYK:Hid ((ws.map tok)[j-2]? =some T.Zx):=(ZZ h.ok ([97,115],T.Zx) ZPl ZPl (j-2)).1 hk;clear hk;go_wp2_with fail;refine(Zg7 C M N ws ((j-1:Nat):Int) _ Zf U U).mono ?_;rintro e w' ⟨rfl,rfl⟩;cases hk:nameAt ws ((j-1:Nat):Int)with
    |false=>
     have HNK:Hid ((ws.map tok)[j-1]?≠some T.name):=fun e=>by rw[(ZbO h.ok (j-1)).2 e]at hk;cases hk
     clear hk;go_wp2_with fail;refine(hI expr i ((j-2:Nat):Int) _ Zf U U U ZPr).mono ?_;rintro e w2 ⟨v2,rfl,hC2,hK2,hF2⟩;have HF:Hid (¬G NT.item (st (ws.map tok) i j)):=ZkM HL.out Y4.out (fun _ _ e=>absurd e HNK.out);rcases hF2 with⟨rfl,hno⟩|⟨b,t,rfl,hb,hp,hd⟩
     ·exact ZS2
     ·exact ZUK
    |true=>
     have HYN:Hid ((ws.map tok)[j-1]? =some T.name):=(ZbO h.ok (j-1)).1 hk;clear hk;go_wp2_with fail;refine(hI expr i ((j-2:Nat):Int) _ Zf U U U ZPr).mono ?_;rintro e w2 ⟨v2,rfl,hC2,hK2,hF2⟩;rw[Int.toNat_natCast]at hF2;rcases hF2 with⟨rfl,hno⟩|⟨b,t,rfl,hb,hp,hd⟩
     ·have HF:Hid (¬G NT.item (st (ws.map tok) i j)):=ZkM HL.out Y4.out (fun _ _ _=>hno);exact ZS2
     ·obtain⟨wa,cap,QA,c0,c1,c2,c3,cw⟩:=hC2.cells;obtain⟨g,rfl,hg,q1,q2,q3⟩:=cw (j-1) U;clear cw;have hne:=EB hd.g;have hij:i+2<j:=by
       by_cases hh:i+2<j
       ·exact hh
       ·exact ZWp
      go_wp2_with fail;go_ret;refine⟨_,rfl,(hC2.alloc _).alloc _,((hK1.trans hK2).trans (Zb.alloc M _ _)).trans (Zb.alloc M _ _),.inr ⟨_,_,rfl,?_,Vo hC2.ZN hC2.Zw {kind:= [105,116,101,109],Zx:=ws[j-1].text} hp,?_⟩⟩
      ·have:=hC2.Zw;simp;omega
      ·rw[ZLx U hj];obtain⟨_,t1⟩:=ZQ HYK.out;obtain⟨_,t2⟩:=ZQ HYN.out;exact .Kh t1 t2 hd
  ·obtain rfl:j=1:=by omega
   have hk:ZJ ws (-1) [97,115]=false:=by unfold ZJ;rw[Zln U]
   have HF:Hid (¬G NT.item (st (ws.map tok) i 1)):=ZkM HL.out Y4.out (fun e=>U);go_wp2_with fail;refine(Y8 C M N ws (-1) _ _ Zf U U).mono ?_;rintro e w' ⟨rfl,rfl⟩;go_wp2_with fail;refine(hI expr i (-1) _ Zf U U U ZPr).mono ?_;rintro e w2 ⟨v2,rfl,hC2,hK2,hF2⟩;rcases hF2 with⟨rfl,hno⟩|⟨b,t,rfl,hb,hp,hd⟩
   ·exact ZS2
   ·exact ZUK
 ·go_wp2_with fail;go_ret;refine⟨_,rfl,(Zf.alloc _).alloc _,(hK1.trans (Zb.alloc M _ _)).trans (Zb.alloc M _ _),.inr ⟨_,_,rfl,?_,Vo Zf.ZN Zf.Zw {kind:= [105,116,101,109]} hp,.item hd⟩⟩;exact ZVc
end
section
open NT
theorem ZLo{w:List T}{i:Nat}(h:i<w.length):st w i (i+1)= [w[i]]:=by rw[Q4 w U U,Ky w U]
theorem ZLp{w:List T}{i:Nat}(h:i+2<w.length):st w i (i+3)= [w[i],w[i+1],w[i+2]]:=by rw[Q4 w U U,Q4 w U U,Q4 w U U,Ky w U]
theorem Zla{w:List RW}{i:Nat}(h:i<w.length):sw w i (i+1)= [w[i]]:=by rw[Z0 w U U,V4 w U]
theorem Zpp{w:List RW}{i:Nat}(h:i+2<w.length):sw w i (i+3)= [w[i],w[i+1],w[i+2]]:=by rw[Z0 w U U,Z0 w U U,Z0 w U U,V4 w U]
theorem at_one{w:List T}{i j:Nat}{t:T}(hj:j<=w.length)(h:st w i j= [t]):j=i+1/\w[i]? =some t:=by
 have hl:=congrArg List.length h;rw[Za2 w hj]at hl;simp at hl;obtain rfl:j=i+1:=U
 rw[ZLo U]at h;exact⟨rfl,by rw[ZW1 U];rw[(ZXk h).1]⟩
theorem Zaz{w:List T}{i j:Nat}{t u v:T}(hj:j<=w.length)(h:st w i j= [t,u,v]):j=i+3/\w[i]? =some t/\w[i+1]? =some u/\w[i+2]? =some v:=by
 have hl:=congrArg List.length h;rw[Za2 w hj]at hl;simp at hl;obtain rfl:j=i+3:=U
 rw[ZLp U]at h;simp only[List.cons.injEq]at h;refine⟨rfl,?_,?_,?_⟩
 ·rw[ZW1 U,h.1]
 ·rw[ZW1 U,h.2.1]
 ·rw[ZW1 U,h.2.2.1]
theorem ZAH(C M N:Nat)(ws:List RW)(i j:Nat)(W:World)(h:Cut C M N ws W)(hi:i<j)(hj:j<=ws.length):
  Calls prog 103 #[.pointer (some ⟨C,0,none⟩),.int .i64 i,.int .i64 j] W (Post C M N ws W (¬G source (st (ws.map tok) i j)) (D source (sw ws i j))):=by
 have hlen:=h.len;have HL:Hid (j<=(ws.map tok).length):=by show j<=_;simpa using hj
 obtain⟨wa,cap,QA,c0,c1,c2,c3,cw⟩:=h.cells;obtain⟨g,rfl,hg,q1,q2,q3⟩:=cw i U;go_enter func103,ntmps103;go_wp2_with fail;refine(Zg7 C M N ws _ _ h U U).mono ?_;rintro e w' ⟨rfl,rfl⟩;cases hn:nameAt ws i with
 |false=>
  go_wp2_with fail;go_ret;refine⟨_,rfl,h,Zb.refl _ _,.inl ⟨rfl,fun hg=>?_⟩⟩;have hx:nameAt ws i=true:=(ZbO h.ok i).2 (by rcases(Zkv _).1 hg with e|e;exact(at_one HL.out e).2;exact(Zaz HL.out e).2.1);rw[hn]at hx;cases hx
 |true=>
  have HN:=(ZbO h.ok i).1 hn;by_cases hj1:j=i+1
  ·subst hj1;go_wp2_with fail;go_ret;obtain⟨hl,ht⟩:=ZQ HN;refine⟨_,rfl,h.alloc _,Zb.alloc M _ _,.inr ⟨_,_,rfl,?_,ZdE h.ZN h.Zw {kind:= [115,111,117,114,99,101],text:=ws[i].text},?_⟩⟩
   ·have:=h.Zw;omega
   ·rw[Zla U];exact .src ht
  ·by_cases XH:j=i+3
   ·subst XH;go_wp2_with fail;refine(Y8 C M N ws ((i+1:Nat):Int) [97,115] _ h U U).mono ?_;rintro e w' ⟨rfl,rfl⟩;cases hk:ZJ ws ((i+1:Nat):Int) [97,115]with
    |false=>
     go_wp2_with fail;go_ret;refine⟨_,rfl,h,Zb.refl _ _,.inl ⟨rfl,fun hg=>?_⟩⟩;rcases(Zkv _).1 hg with e|e
     ·exact ZVa
     ·have hx:=(ZZ h.ok ([97,115],T.Zx) ZPl ZPl (i+1)).2 (Zaz HL.out e).2.2.1;rw[hk]at hx;cases hx
    |true=>
     go_wp2_with fail;refine(Zg7 C M N ws ((i+2:Nat):Int) _ h U U).mono ?_;rintro e w' ⟨rfl,rfl⟩;cases hn2:nameAt ws ((i+2:Nat):Int)with
     |false=>
      go_wp2_with fail;go_ret;refine⟨_,rfl,h,Zb.refl _ _,.inl ⟨rfl,fun hg=>?_⟩⟩;rcases(Zkv _).1 hg with e|e
      ·exact ZVa
      ·have hx:=(ZbO h.ok (i+2)).2 (Zaz HL.out e).2.2.2;rw[hn2]at hx;cases hx
     |true=>
      obtain⟨g',eg,hg',q1',q2',q3'⟩:=cw (i+2) U;cases eg;clear cw;go_wp2_with fail;go_region;go_wp2_with fail;go_ret;obtain⟨hl,ht⟩:=ZQ HN;obtain⟨hl1,ht1⟩:=ZQ ((ZZ h.ok ([97,115],T.Zx) ZPl ZPl (i+1)).1 hk);obtain⟨hl2,ht2⟩:=ZQ ((ZbO h.ok (i+2)).1 hn2);refine⟨_,rfl,(h.alloc _).drew 1,(Zb.alloc M _ _).trans (Zb.drew M _ 1),.inr ⟨_,_,rfl,?_,(ZdE h.ZN h.Zw {kind:= [115,111,117,114,99,101],text:=ws[i].text,Zx:=ws[i+2].text}).keep (Zb.drew M _ 1),?_⟩⟩
      ·have:=h.Zw;omega
      ·rw[Zpp U];exact .Ej ht ht1 ht2
   ·go_wp2_with fail;go_ret;refine⟨_,rfl,h,Zb.refl _ _,.inl ⟨rfl,fun hg=>?_⟩⟩;rcases(Zkv _).1 hg with e|e
    ·exact ZVa
    ·have:=(Zaz HL.out e).1;omega
theorem ZAw(C M N:Nat)(ws:List RW)(i j:Nat)(W:World)(h:Cut C M N ws W)(hi:i<j)(hj:j<=ws.length):
  Calls prog 104 #[.pointer (some ⟨C,0,none⟩),.int .i64 i,.int .i64 j] W (Post C M N ws W (¬G column (st (ws.map tok) i j)) (D column (sw ws i j))):=by
 have hlen:=h.len;have HL:Hid (j<=(ws.map tok).length):=by show j<=_;simpa using hj
 obtain⟨wa,cap,QA,c0,c1,c2,c3,cw⟩:=h.cells;obtain⟨g,rfl,hg,q1,q2,q3⟩:=cw i U;go_enter func104,ntmps104;go_wp2_with fail;refine(Zg7 C M N ws _ _ h U U).mono ?_;rintro e w' ⟨rfl,rfl⟩;cases hn:nameAt ws i with
 |false=>
  go_wp2_with fail;go_ret;refine⟨_,rfl,h,Zb.refl _ _,.inl ⟨rfl,fun hg=>?_⟩⟩;have hx:nameAt ws i=true:=(ZbO h.ok i).2 (by rcases(Zia _).1 hg with e|e;exact(at_one HL.out e).2;exact(Zaz HL.out e).2.1);rw[hn]at hx;cases hx
 |true=>
  have HN:=(ZbO h.ok i).1 hn;by_cases hj1:j=i+1
  ·subst hj1;go_wp2_with fail;go_ret;obtain⟨hl,ht⟩:=ZQ HN;refine⟨_,rfl,h.alloc _,Zb.alloc M _ _,.inr ⟨_,_,rfl,?_,ZdE h.ZN h.Zw {kind:= [99,111,108,117,109,110],text:=ws[i].text},?_⟩⟩
   ·have:=h.Zw;omega
   ·rw[Zla U];exact .JF ht
  ·by_cases XH:j=i+3
   ·subst XH;go_wp2_with fail;refine(KV C M N ws ((i+1:Nat):Int) [46] _ h U U).mono ?_;rintro e w' ⟨rfl,rfl⟩;cases hk:Xt ws ((i+1:Nat):Int) [46]with
    |false=>
     go_wp2_with fail;go_ret;refine⟨_,rfl,h,Zb.refl _ _,.inl ⟨rfl,fun hg=>?_⟩⟩;rcases(Zia _).1 hg with e|e
     ·exact ZVa
     ·have hx:=(JZ h.ok ([46],T.dot) ZPl ZPl (i+1)).2 (Zaz HL.out e).2.2.1;rw[hk]at hx;cases hx
    |true=>
     go_wp2_with fail;refine(Zg7 C M N ws ((i+2:Nat):Int) _ h U U).mono ?_;rintro e w' ⟨rfl,rfl⟩;cases hn2:nameAt ws ((i+2:Nat):Int)with
     |false=>
      go_wp2_with fail;go_ret;refine⟨_,rfl,h,Zb.refl _ _,.inl ⟨rfl,fun hg=>?_⟩⟩;rcases(Zia _).1 hg with e|e
      ·exact ZVa
      ·have hx:=(ZbO h.ok (i+2)).2 (Zaz HL.out e).2.2.2;rw[hn2]at hx;cases hx
     |true=>
      obtain⟨g',eg,hg',q1',q2',q3'⟩:=cw (i+2) U;cases eg;clear cw;go_wp2_with fail;go_region;go_wp2_with fail;go_ret;obtain⟨hl,ht⟩:=ZQ HN;obtain⟨hl1,ht1⟩:=ZQ ((JZ h.ok ([46],T.dot) ZPl ZPl (i+1)).1 hk);obtain⟨hl2,ht2⟩:=ZQ ((ZbO h.ok (i+2)).1 hn2);refine⟨_,rfl,(h.alloc _).drew 1,(Zb.alloc M _ _).trans (Zb.drew M _ 1),.inr ⟨_,_,rfl,?_,(ZdE h.ZN h.Zw {kind:= [99,111,108,117,109,110],Zd:=ws[i].text,text:=ws[i+2].text}).keep (Zb.drew M _ 1),?_⟩⟩
      ·have:=h.Zw;omega
      ·rw[Zpp U];exact .Uh ht ht1 ht2
   ·go_wp2_with fail;go_ret;refine⟨_,rfl,h,Zb.refl _ _,.inl ⟨rfl,fun hg=>?_⟩⟩;rcases(Zia _).1 hg with e|e
    ·exact ZVa
    ·have:=(Zaz HL.out e).1;omega
end
section
open NT
def KY(w:List T)(i:Nat):Nat:=if w[i+1]? =some T.ZU then i+2 else i+1
def Zi6(w:List T)(fr p:Nat):Prop:=¬(p=fr+1/\w[fr]? =some T.star)
def Jm(w:List T)(fr j p:Nat):Prop:=w[p]? =some T.YA->G tail (st w (p+1) j)->¬(p=fr+1/\w[fr]? =some T.star)/\¬G items (st w fr p)
theorem Zr0{w:List T}{i j:Nat}(hi:i<j)(hj:j<=w.length)(hs:w[i]? =some T.Yk)(h:∀p,KY w i<p->p<j->Jm w (KY w i) j p):¬G core (st w i j):=by
 intro hg;have hc:=Q4 w hi hj;rw[ZW1 U]at hs;rcases(Zum _).1 hg with⟨a,e,_⟩|⟨a,b,e,ht,ha⟩
 ·rw[hc,ZXc hs]at e;cases e
 ·rw[hc]at e;obtain⟨_,e2⟩:=ZXk e;obtain⟨p,p1,p2,rfl,p3,rfl⟩:=ZdQ hj e2;rcases ha with ha|ha|ha|⟨a',ha,hit⟩
  ·have hl:=congrArg List.length ha;rw[Za2 w U]at hl;simp at hl;obtain rfl:p=i+2:=by omega
   rw[Q4 w U U]at ha;have e3:=(ZXk ha).1;have hf:KY w i=i+1:=by
    unfold KY;rw[ZWQ];rw[ZW1 U,e3];simp
   have hh:=h (i+2) U p2;rw[hf]at hh;exact(hh p3 ht).1 ⟨rfl,by rw[ZW1 U,e3]⟩
  ·have hl:=congrArg List.length ha;rw[Za2 w U]at hl;simp at hl;obtain rfl:p=i+3:=by omega
   rw[Q4 w U U,Q4 w U U]at ha;have e3:=(ZXk ha).1;have e4:=(ZXk (ZXk ha).2).1;have hf:KY w i=i+2:=by
    unfold KY;rw[ZWR];rw[ZW1 U,e3]
   have hh:=h (i+3) U p2;rw[hf]at hh;exact(hh p3 ht).1 ⟨rfl,by rw[ZW1 U];exact congrArg some e4⟩
  ·have hne:=EB ha;have hip:i+1<p:=by
    by_cases hh:i+1<p
    ·exact hh
    ·exact ZWk
   have hf:KY w i=i+1:=by
    unfold KY;rw[ZWQ];intro e4;obtain⟨t,r,e3,hf⟩:=VM ha;rw[Q4 w hip U]at e3;rw[ZW1 U]at e4;rw[<-(ZXk e3).1,ZXc e4]at hf;exact absurd hf ZPl
   have hh:=h p U p2;rw[hf]at hh;exact(hh p3 ht).2 ha
  ·have hip:i+1<p:=by
    by_cases hh:i+1<p
    ·exact hh
    ·rw[Ky w U]at ha;cases ha
   rw[Q4 w hip U]at ha;obtain⟨e3,rfl⟩:=ZXk ha;have hf:KY w i=i+2:=by
    unfold KY;rw[ZWR];rw[ZW1 U,e3]
   have hne:=EB hit;have ZOb:i+2<p:=by
    by_cases hh:i+2<p
    ·exact hh
    ·rw[show i+1+1=i+2 from rfl,Ky w U]at hne;exact ZTr
   have hh:=h p U p2;rw[hf]at hh;exact(hh p3 ht).2 hit
theorem ZBB{w:List T}{i j:Nat}(hi:i<j)(hj:j<=w.length)(hs:w[i]?≠some T.Yk)(h:¬V9 query (st w i j)):¬G core (st w i j):=by
 intro hg;rcases(Zum _).1 hg with hr|⟨a,b,e,_⟩
 ·exact h hr
 ·rw[Q4 w hi hj]at e;exact hs (by rw[ZW1 U,(ZXk e).1])
theorem ZvW{M N:Nat}{W:World}{t:Tr}{v:Value}(h:Zr M N W t v):∃o,v= .pointer o:=by
 cases t with
 |nil=>simp only[Zr]at h;exact⟨_,h⟩
 |cons x t=>simp[Zr]at h
 |node f k i fr g w hh=>exact ZWr
theorem Zgd{a:List RW}{x:Tr}(h:D tail a x):∃f g w v,x=ZV f g w v:=by cases h<;>exact⟨_,_,_,_,rfl⟩
theorem Zkw{a:List RW}{x:Tr}(h:D items a x):∃k,x=nd {kind:= [114,111,119]} k:=by cases h<;>exact⟨_,rfl⟩
theorem ZeU{M N:Nat}{W:World}{f g w v:Tr}{b:Nat}(h:Zr M N W (ZV f g w v) (.pointer (some ⟨b,0,none⟩))):∃af cf ag cg ow ov,W.cell? ⟨b,12,none⟩=some (.slice af f.len cf)/\W.cell? ⟨b,13,none⟩=some (.slice ag g.len cg)/\W.cell? ⟨b,14,none⟩=some (.pointer ow)/\W.cell? ⟨b,15,none⟩=some (.pointer ov)/\
  Z8 M N W f (.slice af f.len cf)/\Z8 M N W g (.slice ag g.len cg)/\Zr M N W w (.pointer ow)/\Zr M N W v (.pointer ov):=by
 unfold ZV at h;rw[X7]at h;obtain⟨b',vk,vi,vf,vg,vw,vh,e,h1,h2,h3,_,_,h4,h5,h6,h7⟩:=h;cases e;have h4':=h4;have h5':=h5;obtain⟨af,cf,rfl,_⟩:=h4';obtain⟨ag,cg,rfl,_⟩:=h5';obtain⟨ow,rfl⟩:=ZvW h6;obtain⟨ov,rfl⟩:=ZvW h7;exact⟨af,cf,ag,cg,ow,ov,ZQz,ZQz,ZQz,ZQz,h4,h5,h6,h7⟩
theorem ZfM{M N:Nat}{W:World}{f:Fl}{k:Tr}{b:Nat}(h:Zr M N W (nd f k) (.pointer (some ⟨b,0,none⟩))):∃a c,W.cell? ⟨b,10,none⟩=some (.slice a k.len c)/\Z8 M N W k (.slice a k.len c):=by
 unfold nd at h;rw[X7]at h;obtain⟨b',vk,vi,vf,vg,vw,vh,e,h1,h2,h3,h4,_⟩:=h;cases e;have h4':=h4;obtain⟨af,cf,rfl,_⟩:=h4';exact⟨af,cf,ZQz,h4⟩
theorem ZAx(C M N:Nat)(ws:List RW)(m:Nat)(hI:Is C M N ws m)(i j:Nat)(W:World)(h:Cut C M N ws W)(hi:i<j)(hj:j<=ws.length)(hm:(j-i)*20<=m):
  Calls prog 99 #[.pointer (some ⟨C,0,none⟩),.int .i64 i,.int .i64 j] W (Post C M N ws W (¬G core (st (ws.map tok) i j)) (D core (sw ws i j))):=by
 have hlen:=h.len;have HL:Hid (j<=(ws.map tok).length):=by show j<=_;simpa using hj
 go_enter func99,ntmps99;go_wp2_with fail;refine(Y8 C M N ws (i:Int) _ _ h U U).mono ?_;rintro e w' ⟨rfl,rfl⟩;cases hs:ZJ ws (i:Int) [115,101,108,101,99,116]with
 |false=>
  have HN:Hid ((ws.map tok)[i]?≠some T.Yk):=fun e=>by rw[(ZZ h.ok ([115,101,108,101,99,116],T.Yk) ZPl ZPl i).2 e]at hs;cases hs
  clear hs;go_wp2_with fail;refine(Q9 C M N ws m hI query i j _ h U U hj hm U).mono ?_;rintro e w1 ⟨v1,rfl,Zf,hK1,hF1⟩;go_wp2_with fail;go_ret;refine⟨_,rfl,Zf,hK1,?_⟩;rcases hF1 with⟨rfl,hno⟩|⟨b,t,e,hb,hp,o,a,c,e2,t1,t2,hd⟩
  ·exact .inl ⟨rfl,ZBB hi HL.out HN.out hno⟩
  ·exact .inr ⟨b,t,e,hb,hp,by rw[e2];exact .U4 t1 t2 hd⟩
 |true=>
  have HS:=(ZZ h.ok ([115,101,108,101,99,116],T.Yk) ZPl ZPl i).1 hs;clear hs;go_wp2_with fail;refine(Y8 C M N ws ((i+1:Nat):Int) _ _ h U U).mono ?_;rintro e w' ⟨rfl,rfl⟩;cases hd:ZJ ws ((i+1:Nat):Int) [100,105,115,116,105,110,99,116]with
  |false=>
   have HFR:Hid (KY (ws.map tok) i=i+1):=by
    show _=_;unfold KY;rw[ZWQ];intro e;rw[(ZZ h.ok ([100,105,115,116,105,110,99,116],T.ZU) ZPl ZPl (i+1)).2 e]at hd;cases hd
   clear hd;go_wp2_with fail;go_loopg [10] (j+3-(i+1+1)) (fun gk pv wr=>∃p:Nat,i+1+1<=p/\p<=j+3/\gk=j+3-p/\pv= .int .i64 p/\Cut C M N ws wr/\Zb M W wr/\∀q,i+1<q->q<p->Jm (ws.map tok) (i+1) j q);case atStart=>exact⟨i+1+1,U,U,U,rfl,h,Zb.refl _ _,fun q h1 h2=>U⟩
   case round=>
    obtain⟨p,hp1,hp2,rfl,rfl,hC,hK,hno⟩:=hrel;have HNT:Hid (∀q,i+1<q->q<p->Jm (ws.map tok) (i+1) j q):=hno;clear hno;by_cases hlt:p<j
    ·have Yq:Hid (Jm (ws.map tok) (i+1) j p->∀q,i+1<q->q<p+1->Jm (ws.map tok) (i+1) j q):=fun hn q h1 h2=>by
      by_cases e:q=p
      ·subst e;exact hn
      ·exact HNT.out q h1 U
     go_wp2_with fail;refine(Y8 C M N ws (p:Int) _ _ hC U U).mono ?_;rintro e w' ⟨rfl,rfl⟩;cases hc:ZJ ws (p:Int) [102,114,111,109]with
     |false=>
      have HN:Hid (Jm (ws.map tok) (i+1) j p):=fun hu=>by
       rw[(ZZ h.ok ([102,114,111,109],T.YA) ZPl ZPl p).2 hu]at hc;cases hc
      clear hc;go_wp2_with fail;go_roundg (j+3-(p+1));case measure=>omega
      case rel=>exact ZT9
     |true=>
      have HY:=(ZZ h.ok ([102,114,111,109],T.YA) ZPl ZPl p).1 hc;clear hc;by_cases hp1':p=i+1+1
      ·subst hp1';go_wp2_with fail;refine(KV C M N ws ((i+1:Nat):Int) _ _ hC U U).mono ?_;rintro e w' ⟨rfl,rfl⟩;cases hst:Xt ws ((i+1:Nat):Int) [42]with
       |false=>
        have HST:Hid (Zi6 (ws.map tok) (i+1) (i+1+1)):=fun e=>by
         rw[(JZ h.ok ([42],T.star) ZPl ZPl (i+1)).2 e.2]at hst;cases hst
        clear hst;go_wp2_with fail;refine(hI items (i+1) ((i+1+1:Nat):Int) _ hC U U U ZPr).mono ?_;rintro e w3 ⟨v3,rfl,ZA,hK3,ZH⟩;rw[Int.toNat_natCast]at ZH;go_wp2_with fail;refine(hI tail (i+1+1+1) j _ ZA U U U ZPr).mono ?_;rintro e w4 ⟨v4,rfl,ZB,hK4,Yx⟩;rw[Int.toNat_natCast]at Yx;have hKW:=(hK.trans hK3).trans hK4;rcases Yx with⟨rfl,YH⟩|⟨b4,t4,rfl,hb4,XR,hd4⟩
        ·have JJ:Hid (Jm (ws.map tok) (i+1) j (i+1+1)):=fun _ h=>absurd h YH;clear YH;have hv3:∃o,v3= .pointer o:=by
          rcases ZH with⟨rfl,_⟩|⟨b,t,rfl,_⟩<;>exact⟨_,rfl⟩
         obtain⟨o3,rfl⟩:=hv3;clear ZH;go_wp2_with fail;go_roundg (j+3-(i+1+1+1));case measure=>omega
         case rel=>exact⟨i+1+1+1,U,U,rfl,ZPp,ZB,hKW,Yq.out JJ.out⟩
        ·rcases ZH with⟨rfl,ZK⟩|⟨b3,t3,rfl,hb3,hp3,hd3⟩
         ·have UT:Hid (Jm (ws.map tok) (i+1) j (i+1+1)):=fun _ _=>⟨HST.out,ZK⟩;clear ZK;go_wp2_with fail;go_roundg (j+3-(i+1+1+1));case measure=>omega
          case rel=>exact⟨i+1+1+1,U,U,rfl,ZPp,ZB,hKW,Yq.out UT.out⟩
         ·obtain⟨tf,tg,tw,tv,et⟩:=Zgd hd4;subst et;obtain⟨tk,ek⟩:=Zkw hd3;subst ek;obtain⟨af,cf,ag,cg,ow,ov,c12,c13,c14,c15,s1,s2,s3,s4⟩:=ZeU XR;have Ka:=hp3.keep hK4;obtain⟨ak,ck,c10,s0⟩:=ZfM Ka;generalize hLf:tf.len=Lf at c12 s1;generalize hLg:tg.len=Lg at c13 s2;generalize hLk:tk.len=Lk at c10 s0;have HX:Hid (Zr M N _ _ _):=ZbM (f:={kind:= [115,101,108,101,99,116],star:=false,ZU:=false}) ZB.ZN ZB.Zw (Z8.nil M N w4) s0 s1 s2 s3 s4;have ZhN:b3<w4.heap.size:=ZWW _ _ c10;go_wp2_with fail;go_region;go_wp2_with fail;go_ret;refine⟨_,rfl,(ZB.alloc _).drew 1,(hKW.trans (Zb.alloc M _ _)).trans (Zb.drew M _ 1),.inr ⟨_,_,rfl,?_,HX.out.keep (Zb.drew M _ 1),?_⟩⟩
          ·have:=ZB.Zw;omega
          ·obtain⟨hl0,k0⟩:=ZQ HS;obtain⟨hl2,k2⟩:=ZQ HY;rw[Z0 ws hi hj,Zan ws (i:=i+1) (p:=i+1+1) U U hj];exact .VI k0 k2 hd3 hd4
       |true=>
        have HST:=(JZ h.ok ([42],T.star) ZPl ZPl (i+1)).1 hst;clear hst;go_wp2_with fail;refine(hI items (i+1) ((i+1+1:Nat):Int) _ hC U U U ZPr).mono ?_;rintro e w3 ⟨v3,rfl,ZA,hK3,ZH⟩;go_wp2_with fail;refine(hI tail (i+1+1+1) j _ ZA U U U ZPr).mono ?_;rintro e w4 ⟨v4,rfl,ZB,hK4,Yx⟩;rw[Int.toNat_natCast]at Yx;have hKW:=(hK.trans hK3).trans hK4;have hv3:∃o,v3= .pointer o:=by
         rcases ZH with⟨rfl,_⟩|⟨b,t,rfl,_⟩<;>exact⟨_,rfl⟩
        obtain⟨o3,rfl⟩:=hv3;rcases Yx with⟨rfl,YH⟩|⟨b4,t4,rfl,hb4,XR,hd4⟩
        ·have JJ:Hid (Jm (ws.map tok) (i+1) j (i+1+1)):=fun _ h=>absurd h YH;clear YH;go_wp2_with fail;go_roundg (j+3-(i+1+1+1));case measure=>omega
         case rel=>exact⟨i+1+1+1,U,U,rfl,ZPp,ZB,hKW,Yq.out JJ.out⟩
        ·obtain⟨tf,tg,tw,tv,et⟩:=Zgd hd4;subst et;obtain⟨af,cf,ag,cg,ow,ov,c12,c13,c14,c15,s1,s2,s3,s4⟩:=ZeU XR;generalize hLf:tf.len=Lf at c12 s1;generalize hLg:tg.len=Lg at c13 s2;have HX:Hid (Zr M N _ _ _):=ZbM (f:={kind:= [115,101,108,101,99,116],star:=true,ZU:=false}) ZB.ZN ZB.Zw (Z8.nil M N w4) (Z8.nil M N w4) s1 s2 s3 s4;go_wp2_with fail;go_region;go_wp2_with fail;go_ret;refine⟨_,rfl,(ZB.alloc _).drew 1,(hKW.trans (Zb.alloc M _ _)).trans (Zb.drew M _ 1),.inr ⟨_,_,rfl,?_,HX.out.keep (Zb.drew M _ 1),?_⟩⟩
         ·have:=ZB.Zw;omega
         ·obtain⟨hl0,k0⟩:=ZQ HS;obtain⟨hl1,k1⟩:=ZQ HST;obtain⟨hl2,k2⟩:=ZQ HY;rw[Z0 ws hi hj,Z0 ws (i:=i+1) U hj,Z0 ws (i:=i+1+1) U hj];exact .Ue k0 k1 k2 hd4
      ·have HST:Hid (Zi6 (ws.map tok) (i+1) p):=fun e=>hp1' e.1;have hpe:((p:Int)==(i:Int)+1+1)=false:=by simp;omega
       have ZEd:¬((p:Int)=(i:Int)+1+1):=U
       go_wp2_with fail;refine(hI items (i+1) ((p:Nat):Int) _ hC U U U ZPr).mono ?_;rintro e w3 ⟨v3,rfl,ZA,hK3,ZH⟩;rw[Int.toNat_natCast]at ZH;go_wp2_with fail;refine(hI tail (p+1) j _ ZA U U U ZPr).mono ?_;rintro e w4 ⟨v4,rfl,ZB,hK4,Yx⟩;rw[Int.toNat_natCast]at Yx;have hKW:=(hK.trans hK3).trans hK4;rcases Yx with⟨rfl,YH⟩|⟨b4,t4,rfl,hb4,XR,hd4⟩
       ·have JJ:Hid (Jm (ws.map tok) (i+1) j (p)):=fun _ h=>absurd h YH;clear YH;have hv3:∃o,v3= .pointer o:=by
         rcases ZH with⟨rfl,_⟩|⟨b,t,rfl,_⟩<;>exact⟨_,rfl⟩
        obtain⟨o3,rfl⟩:=hv3;clear ZH;go_wp2_with fail;go_roundg (j+3-(p+1));case measure=>omega
        case rel=>exact ZT6
       ·rcases ZH with⟨rfl,ZK⟩|⟨b3,t3,rfl,hb3,hp3,hd3⟩
        ·have UT:Hid (Jm (ws.map tok) (i+1) j (p)):=fun _ _=>⟨HST.out,ZK⟩;clear ZK;go_wp2_with fail;go_roundg (j+3-(p+1));case measure=>omega
         case rel=>exact ZT7
        ·obtain⟨tf,tg,tw,tv,et⟩:=Zgd hd4;subst et;obtain⟨tk,ek⟩:=Zkw hd3;subst ek;obtain⟨af,cf,ag,cg,ow,ov,c12,c13,c14,c15,s1,s2,s3,s4⟩:=ZeU XR;have Ka:=hp3.keep hK4;obtain⟨ak,ck,c10,s0⟩:=ZfM Ka;generalize hLf:tf.len=Lf at c12 s1;generalize hLg:tg.len=Lg at c13 s2;generalize hLk:tk.len=Lk at c10 s0;have HX:Hid (Zr M N _ _ _):=ZbM (f:={kind:= [115,101,108,101,99,116],star:=false,ZU:=false}) ZB.ZN ZB.Zw (Z8.nil M N w4) s0 s1 s2 s3 s4;have ZhN:b3<w4.heap.size:=ZWW _ _ c10;go_wp2_with fail;go_region;go_wp2_with fail;go_ret;refine⟨_,rfl,(ZB.alloc _).drew 1,(hKW.trans (Zb.alloc M _ _)).trans (Zb.drew M _ 1),.inr ⟨_,_,rfl,?_,HX.out.keep (Zb.drew M _ 1),?_⟩⟩
         ·have:=ZB.Zw;omega
         ·obtain⟨hl0,k0⟩:=ZQ HS;obtain⟨hl2,k2⟩:=ZQ HY;rw[Z0 ws hi hj,Zan ws (i:=i+1) (p:=p) U U hj];exact .VI k0 k2 hd3 hd4
    ·exact ZUI
  |true=>
   have HDD:=(ZZ h.ok ([100,105,115,116,105,110,99,116],T.ZU) ZPl ZPl (i+1)).1 hd;have HFR:Hid (KY (ws.map tok) i=i+2):=by
    show _=_;unfold KY;rw[ZWR HDD]
   clear hd;go_wp2_with fail;go_loopg [10] (j+3-(i+2+1)) (fun gk pv wr=>∃p:Nat,i+2+1<=p/\p<=j+3/\gk=j+3-p/\pv= .int .i64 p/\Cut C M N ws wr/\Zb M W wr/\∀q,i+2<q->q<p->Jm (ws.map tok) (i+2) j q);case atStart=>exact⟨i+2+1,U,U,U,rfl,h,Zb.refl _ _,fun q h1 h2=>U⟩
   case round=>
    obtain⟨p,hp1,hp2,rfl,rfl,hC,hK,hno⟩:=hrel;have HNT:Hid (∀q,i+2<q->q<p->Jm (ws.map tok) (i+2) j q):=hno;clear hno;by_cases hlt:p<j
    ·have Yq:Hid (Jm (ws.map tok) (i+2) j p->∀q,i+2<q->q<p+1->Jm (ws.map tok) (i+2) j q):=fun hn q h1 h2=>by
      by_cases e:q=p
      ·subst e;exact hn
      ·exact HNT.out q h1 U
     go_wp2_with fail;refine(Y8 C M N ws (p:Int) _ _ hC U U).mono ?_;rintro e w' ⟨rfl,rfl⟩;cases hc:ZJ ws (p:Int) [102,114,111,109]with
     |false=>
      have HN:Hid (Jm (ws.map tok) (i+2) j p):=fun hu=>by
       rw[(ZZ h.ok ([102,114,111,109],T.YA) ZPl ZPl p).2 hu]at hc;cases hc
      clear hc;go_wp2_with fail;go_roundg (j+3-(p+1));case measure=>omega
      case rel=>exact ZT9
     |true=>
      have HY:=(ZZ h.ok ([102,114,111,109],T.YA) ZPl ZPl p).1 hc;clear hc;by_cases hp1':p=i+2+1
      ·subst hp1';go_wp2_with fail;refine(KV C M N ws ((i+2:Nat):Int) _ _ hC U U).mono ?_;rintro e w' ⟨rfl,rfl⟩;cases hst:Xt ws ((i+2:Nat):Int) [42]with
       |false=>
        have HST:Hid (Zi6 (ws.map tok) (i+2) (i+2+1)):=fun e=>by
         rw[(JZ h.ok ([42],T.star) ZPl ZPl (i+2)).2 e.2]at hst;cases hst
        clear hst;go_wp2_with fail;refine(hI items (i+2) ((i+2+1:Nat):Int) _ hC U U U ZPr).mono ?_;rintro e w3 ⟨v3,rfl,ZA,hK3,ZH⟩;rw[Int.toNat_natCast]at ZH;go_wp2_with fail;refine(hI tail (i+2+1+1) j _ ZA U U U ZPr).mono ?_;rintro e w4 ⟨v4,rfl,ZB,hK4,Yx⟩;rw[Int.toNat_natCast]at Yx;have hKW:=(hK.trans hK3).trans hK4;rcases Yx with⟨rfl,YH⟩|⟨b4,t4,rfl,hb4,XR,hd4⟩
        ·have JJ:Hid (Jm (ws.map tok) (i+2) j (i+2+1)):=fun _ h=>absurd h YH;clear YH;have hv3:∃o,v3= .pointer o:=by
          rcases ZH with⟨rfl,_⟩|⟨b,t,rfl,_⟩<;>exact⟨_,rfl⟩
         obtain⟨o3,rfl⟩:=hv3;clear ZH;go_wp2_with fail;go_roundg (j+3-(i+2+1+1));case measure=>omega
         case rel=>exact⟨i+2+1+1,U,U,rfl,ZPp,ZB,hKW,Yq.out JJ.out⟩
        ·rcases ZH with⟨rfl,ZK⟩|⟨b3,t3,rfl,hb3,hp3,hd3⟩
         ·have UT:Hid (Jm (ws.map tok) (i+2) j (i+2+1)):=fun _ _=>⟨HST.out,ZK⟩;clear ZK;go_wp2_with fail;go_roundg (j+3-(i+2+1+1));case measure=>omega
          case rel=>exact⟨i+2+1+1,U,U,rfl,ZPp,ZB,hKW,Yq.out UT.out⟩
         ·obtain⟨tf,tg,tw,tv,et⟩:=Zgd hd4;subst et;obtain⟨tk,ek⟩:=Zkw hd3;subst ek;obtain⟨af,cf,ag,cg,ow,ov,c12,c13,c14,c15,s1,s2,s3,s4⟩:=ZeU XR;have Ka:=hp3.keep hK4;obtain⟨ak,ck,c10,s0⟩:=ZfM Ka;generalize hLf:tf.len=Lf at c12 s1;generalize hLg:tg.len=Lg at c13 s2;generalize hLk:tk.len=Lk at c10 s0;have HX:Hid (Zr M N _ _ _):=ZbM (f:={kind:= [115,101,108,101,99,116],star:=false,ZU:=true}) ZB.ZN ZB.Zw (Z8.nil M N w4) s0 s1 s2 s3 s4;have ZhN:b3<w4.heap.size:=ZWW _ _ c10;go_wp2_with fail;go_region;go_wp2_with fail;go_ret;refine⟨_,rfl,(ZB.alloc _).drew 1,(hKW.trans (Zb.alloc M _ _)).trans (Zb.drew M _ 1),.inr ⟨_,_,rfl,?_,HX.out.keep (Zb.drew M _ 1),?_⟩⟩
          ·have:=ZB.Zw;omega
          ·obtain⟨hl0,k0⟩:=ZQ HS;obtain⟨hl2,k2⟩:=ZQ HY;obtain⟨hl3,k3⟩:=ZQ HDD;rw[Z0 ws hi hj,Z0 ws (i:=i+1) U hj,Zan ws (i:=i+1+1) (p:=i+2+1) U U hj];exact .VJ k0 k3 k2 hd3 hd4
       |true=>
        have HST:=(JZ h.ok ([42],T.star) ZPl ZPl (i+2)).1 hst;clear hst;go_wp2_with fail;refine(hI items (i+2) ((i+2+1:Nat):Int) _ hC U U U ZPr).mono ?_;rintro e w3 ⟨v3,rfl,ZA,hK3,ZH⟩;go_wp2_with fail;refine(hI tail (i+2+1+1) j _ ZA U U U ZPr).mono ?_;rintro e w4 ⟨v4,rfl,ZB,hK4,Yx⟩;rw[Int.toNat_natCast]at Yx;have hKW:=(hK.trans hK3).trans hK4;have hv3:∃o,v3= .pointer o:=by
         rcases ZH with⟨rfl,_⟩|⟨b,t,rfl,_⟩<;>exact⟨_,rfl⟩
        obtain⟨o3,rfl⟩:=hv3;rcases Yx with⟨rfl,YH⟩|⟨b4,t4,rfl,hb4,XR,hd4⟩
        ·have JJ:Hid (Jm (ws.map tok) (i+2) j (i+2+1)):=fun _ h=>absurd h YH;clear YH;go_wp2_with fail;go_roundg (j+3-(i+2+1+1));case measure=>omega
         case rel=>exact⟨i+2+1+1,U,U,rfl,ZPp,ZB,hKW,Yq.out JJ.out⟩
        ·obtain⟨tf,tg,tw,tv,et⟩:=Zgd hd4;subst et;obtain⟨af,cf,ag,cg,ow,ov,c12,c13,c14,c15,s1,s2,s3,s4⟩:=ZeU XR;generalize hLf:tf.len=Lf at c12 s1;generalize hLg:tg.len=Lg at c13 s2;have HX:Hid (Zr M N _ _ _):=ZbM (f:={kind:= [115,101,108,101,99,116],star:=true,ZU:=true}) ZB.ZN ZB.Zw (Z8.nil M N w4) (Z8.nil M N w4) s1 s2 s3 s4;go_wp2_with fail;go_region;go_wp2_with fail;go_ret;refine⟨_,rfl,(ZB.alloc _).drew 1,(hKW.trans (Zb.alloc M _ _)).trans (Zb.drew M _ 1),.inr ⟨_,_,rfl,?_,HX.out.keep (Zb.drew M _ 1),?_⟩⟩
         ·have:=ZB.Zw;omega
         ·obtain⟨hl0,k0⟩:=ZQ HS;obtain⟨hl1,k1⟩:=ZQ HST;obtain⟨hl2,k2⟩:=ZQ HY;obtain⟨hl3,k3⟩:=ZQ HDD;rw[Z0 ws hi hj,Z0 ws (i:=i+1) U hj,Z0 ws (i:=i+1+1) U hj,Z0 ws (i:=i+1+1+1) U hj];exact .Uf k0 k3 k1 k2 hd4
      ·have HST:Hid (Zi6 (ws.map tok) (i+2) p):=fun e=>hp1' e.1;have hpe:((p:Int)==(i:Int)+2+1)=false:=by simp;omega
       have ZEd:¬((p:Int)=(i:Int)+2+1):=U
       go_wp2_with fail;refine(hI items (i+2) ((p:Nat):Int) _ hC U U U ZPr).mono ?_;rintro e w3 ⟨v3,rfl,ZA,hK3,ZH⟩;rw[Int.toNat_natCast]at ZH;go_wp2_with fail;refine(hI tail (p+1) j _ ZA U U U ZPr).mono ?_;rintro e w4 ⟨v4,rfl,ZB,hK4,Yx⟩;rw[Int.toNat_natCast]at Yx;have hKW:=(hK.trans hK3).trans hK4;rcases Yx with⟨rfl,YH⟩|⟨b4,t4,rfl,hb4,XR,hd4⟩
       ·have JJ:Hid (Jm (ws.map tok) (i+2) j (p)):=fun _ h=>absurd h YH;clear YH;have hv3:∃o,v3= .pointer o:=by
         rcases ZH with⟨rfl,_⟩|⟨b,t,rfl,_⟩<;>exact⟨_,rfl⟩
        obtain⟨o3,rfl⟩:=hv3;clear ZH;go_wp2_with fail;go_roundg (j+3-(p+1));case measure=>omega
        case rel=>exact ZT6
       ·rcases ZH with⟨rfl,ZK⟩|⟨b3,t3,rfl,hb3,hp3,hd3⟩
        ·have UT:Hid (Jm (ws.map tok) (i+2) j (p)):=fun _ _=>⟨HST.out,ZK⟩;clear ZK;go_wp2_with fail;go_roundg (j+3-(p+1));case measure=>omega
         case rel=>exact ZT7
        ·obtain⟨tf,tg,tw,tv,et⟩:=Zgd hd4;subst et;obtain⟨tk,ek⟩:=Zkw hd3;subst ek;obtain⟨af,cf,ag,cg,ow,ov,c12,c13,c14,c15,s1,s2,s3,s4⟩:=ZeU XR;have Ka:=hp3.keep hK4;obtain⟨ak,ck,c10,s0⟩:=ZfM Ka;generalize hLf:tf.len=Lf at c12 s1;generalize hLg:tg.len=Lg at c13 s2;generalize hLk:tk.len=Lk at c10 s0;have HX:Hid (Zr M N _ _ _):=ZbM (f:={kind:= [115,101,108,101,99,116],star:=false,ZU:=true}) ZB.ZN ZB.Zw (Z8.nil M N w4) s0 s1 s2 s3 s4;have ZhN:b3<w4.heap.size:=ZWW _ _ c10;go_wp2_with fail;go_region;go_wp2_with fail;go_ret;refine⟨_,rfl,(ZB.alloc _).drew 1,(hKW.trans (Zb.alloc M _ _)).trans (Zb.drew M _ 1),.inr ⟨_,_,rfl,?_,HX.out.keep (Zb.drew M _ 1),?_⟩⟩
         ·have:=ZB.Zw;omega
         ·obtain⟨hl0,k0⟩:=ZQ HS;obtain⟨hl2,k2⟩:=ZQ HY;obtain⟨hl3,k3⟩:=ZQ HDD;rw[Z0 ws hi hj,Z0 ws (i:=i+1) U hj,Zan ws (i:=i+1+1) (p:=p) U U hj];exact .VJ k0 k3 k2 hd3 hd4
    ·exact ZUI
end
end Go.Proofs.YthmlacabmlghbaaGreatDoor
