import Derived.Test.YthmlacabmlghbaaGreatDoorBgJa20
set_option maxRecDepth 100000
set_option maxHeartbeats 8000000
set_option linter.unusedSimpArgs false
set_option linter.unusedVariables false
namespace Go.Proofs.YthmlacabmlghbaaGreatDoor
open Go.Proofs.Tryz
theorem ZUE{p:Prop}(h:p:=by go_wp2_with fail;go_ret;exact⟨ZPt,hBz⟩):p:=h
theorem ZUU{p:Prop}(h:p:=by go_wp2_with fail;refine(hcall _).mono ?_;rintro e w1 ⟨rfl,hB1⟩;have hBa:=hB.trans (((ZO _).trans (hB1.mono ZPm)).mono hB.size);go_wp2_with fail;go_ret;exact⟨ZPt,hBa⟩):p:=h
open Go.RowKit
theorem Zw6(W:World)(o:Obj)(s:Za):VA ((W.alloc o).alloc (.cells #[.string ⟨s.toArray⟩] 9)) (W.heap.size+1) [s]:=by
 have h:=Zlk (W.alloc o) s;have e:(W.alloc o).heap.size=W.heap.size+1:=ZPm
 rw[e]at h;exact h
def XU(kd:Int)(sp:Za):Int:=if QD kd sp [[40]]then 1 else if QD kd sp [[41]]then -1 else 0
theorem ZvC(kd:Int)(sp:Za)(x:Value)(hx:x= .nilIface\/∃t y,x= .iface t y)(W:World):
  Calls prog 96 #[.agg #[.int .i64 kd,.string ⟨sp.toArray⟩,x]] W fun e w'=>e= .returned (.int .i64 (XU kd sp))/\Below W.heap.size W w':=by
 rcases hx with rfl|⟨t,y,rfl⟩
 ·go_enter func96,ntmps96;go_wp2_with fail;refine(ZfT kd sp .nilIface (.inl rfl) (W.heap.size+1) 1 [[40]] _ (Zw6 W _ _) ZPm).mono ?_;rintro e w1 ⟨rfl,hB1⟩;have hBa:Below (W.alloc (.cells #[.int .i64 kd,.string ⟨sp.toArray⟩,.nilIface] 173)).heap.size (W.alloc (.cells #[.int .i64 kd,.string ⟨sp.toArray⟩,.nilIface] 173)) w1:=(ZO _).trans (hB1.mono ZPm);have hBw:Below W.heap.size W w1:=(ZO _).trans (hBa.mono ZPm);obtain⟨r0,r1,r2,rf⟩:=YW ((hBa.block W.heap.size ZPm).trans (ZWV W _));have hRl:W.heap.size<w1.heap.size:=ZXi ZPm hBa.size;cases h1:QD kd sp [[40]]with
  |true=>
   have HX:Hid (XU kd sp=1):=by show _=_;unfold XU;rw[h1];rfl
   go_wp2_with fail;go_ret;exact⟨ZPt,hBw⟩
  |false=>
   go_wp2_with fail;refine(ZfT kd sp .nilIface (.inl rfl) w1.heap.size 1 [[41]] _ (Zlk w1 _) ZPm).mono ?_;rintro e w2 ⟨rfl,hB2⟩;have hBz:Below W.heap.size W w2:=hBw.trans (((ZO _).trans (hB2.mono ZPm)).mono hBw.size);cases h2:QD kd sp [[41]]with
   |true=>
    have HX:Hid (XU kd sp= -1):=by show _=_;unfold XU;rw[h1,h2];rfl
    exact ZUE
   |false=>
    have HX:Hid (XU kd sp=0):=by show _=_;unfold XU;rw[h1,h2];rfl
    exact ZUE
 ·go_enter func96,ntmps96;go_wp2_with fail;refine(ZfT kd sp (.iface t y) (.inr ⟨t,y,rfl⟩) (W.heap.size+1) 1 [[40]] _ (Zw6 W _ _) ZPm).mono ?_;rintro e w1 ⟨rfl,hB1⟩;have hBa:Below (W.alloc (.cells #[.int .i64 kd,.string ⟨sp.toArray⟩,.iface t y] 173)).heap.size (W.alloc (.cells #[.int .i64 kd,.string ⟨sp.toArray⟩,.iface t y] 173)) w1:=(ZO _).trans (hB1.mono ZPm);have hBw:Below W.heap.size W w1:=(ZO _).trans (hBa.mono ZPm);obtain⟨r0,r1,r2,rf⟩:=YW ((hBa.block W.heap.size ZPm).trans (ZWV W _));have hRl:W.heap.size<w1.heap.size:=ZXi ZPm hBa.size;cases h1:QD kd sp [[40]]with
  |true=>
   have HX:Hid (XU kd sp=1):=by show _=_;unfold XU;rw[h1];rfl
   go_wp2_with fail;go_ret;exact⟨ZPt,hBw⟩
  |false=>
   go_wp2_with fail;refine(ZfT kd sp (.iface t y) (.inr ⟨t,y,rfl⟩) w1.heap.size 1 [[41]] _ (Zlk w1 _) ZPm).mono ?_;rintro e w2 ⟨rfl,hB2⟩;have hBz:Below W.heap.size W w2:=hBw.trans (((ZO _).trans (hB2.mono ZPm)).mono hBw.size);cases h2:QD kd sp [[41]]with
   |true=>
    have HX:Hid (XU kd sp= -1):=by show _=_;unfold XU;rw[h1,h2];rfl
    exact ZUE
   |false=>
    have HX:Hid (XU kd sp=0):=by show _=_;unfold XU;rw[h1,h2];rfl
    exact ZUE
theorem ZBy(s x:Za): [s].contains x=(x==s):=by
 by_cases h:x=s<;>simp[h]
theorem Zsj{w:RW}(hw:Yi w){s:Za}(hs:s∈Y0.map Prod.fst):QD (YQ w) (Y1 w) [s]=JY w s:=by
 have hk:s∉YE.map Prod.fst:=fun h=>by
  have:∀x∈Y0.map Prod.fst,x∉YE.map Prod.fst:=ZPl
  exact this s hs h
 unfold QD YQ Y1 JY;rcases hw with⟨h,ht⟩|⟨h,ht⟩|h|h|h
 ·have hne:w.text≠s:=fun e=>hk (by rw[<-e];exact ht);rw[h];simp[YC,Yz,Yh,Yd,ZT,hne]
 ·rw[h,ZWQ ZPl,ZWQ ZPl,ZWQ ZPl,ZBy];rfl
 ·rw[h];simp[YC,Yz,Yh,Yd,ZT]
 ·rw[h];simp[YC,Yz,Yh,Yd,ZT]
 ·rw[h];simp[YC,Yz,Yh,Yd,ZT]
theorem Zvv{w:RW}(hw:Yi w):XU (YQ w) (Y1 w)=opens w:=by
 unfold XU opens;rw[Zsj hw ZPl,Zsj hw ZPl]
theorem ZIJ(ws:List RW)(Pb:Nat)(wa:Option Addr)(cap:Nat)(W:World)(hw:Zdc Pb W wa ws)(ok:∀w∈ws,Yi w)(hlen:ws.length<=400):
  Calls prog 67 #[.slice wa ws.length cap] W fun e w'=>(deep ws=false/\e= .returned (.tuple #[])/\Below W.heap.size W w')\/(deep ws=true/\XD W.heap.size 4 0 W e w'):=by
 have HW:Hid (Zdc Pb W wa ws):=hw;clear hw;go_enter func67,ntmps67;go_wp2_with fail;go_loopg [2,7] (ws.length+1) (fun gk nv iv wr=>∃(k:Nat) (n:Int),k<=ws.length/\gk=ws.length-k+1/\iv= .int .i64 k/\nv= .int .i64 n/\ -(k:Int)<=n/\n<=16/\Below W.heap.size W wr/\Hid (Ew n (ws.drop k)=deep ws));case atStart=>exact⟨0,0,U,U,rfl,rfl,U,U,ZWT _ _,rfl⟩
 case round=>
  obtain⟨k,n,hk,rfl,rfl,rfl,hn1,hn2,hB,hq⟩:=hrel;by_cases hlt:k<ws.length
  ·obtain⟨g,rfl,hg,q1,q2,q3⟩:=HW.out k hlt;have hgl:g<W.heap.size:=ZWW _ _ q1;have p1:=(hB.cell (p:=⟨g,k*3,none⟩) hgl).trans q1;have p2:=(hB.cell (p:=⟨g,k*3+1,none⟩) hgl).trans q2;have p3:=(hB.cell (p:=⟨g,k*3+2,none⟩) hgl).trans q3;have HO:=Zvv (ok _ (ZWX hlt));have ho1: -1<=XU (YQ ws[k]) (Y1 ws[k])/\XU (YQ ws[k]) (Y1 ws[k])<=1:=by
    unfold XU;split
    · omega
    · split<;>omega
   have HD:Hid ((16<n+XU (YQ ws[k]) (Y1 ws[k])->deep ws=true)/\(¬16<n+XU (YQ ws[k]) (Y1 ws[k])->Ew (n+XU (YQ ws[k]) (Y1 ws[k])) (ws.drop (k+1))=deep ws)):=by
    have e:=hq.out;rw[ZXl hlt,Zr8,<-HO]at e;exact ZTO
   have hx:=Ziu ws[k];have hcall:=fun w=>ZvC (YQ ws[k]) (Y1 ws[k]) (QI ws[k]) hx w;clear HO q1 q2 q3 hq;generalize XU (YQ ws[k]) (Y1 ws[k])=o at *;generalize QI ws[k]=x at *;generalize YQ ws[k]=kd at *;generalize Y1 ws[k]=sp at *;obtain⟨ho2,ho3⟩:=ho1;by_cases hgt:16<n+o
   ·rcases hx with rfl|⟨t,y,rfl⟩<;>
     (go_wp2_with fail
      refine(hcall _).mono ?_;rintro e w1 ⟨rfl,hB1⟩;have hBa:=hB.trans (((ZO _).trans (hB1.mono ZPm)).mono hB.size);go_wp2_with fail;refine(ZdS 4 0 _).mono ?_;rintro e w' ⟨rfl,rfl⟩;go_wp2;exact⟨rfl,.inr ⟨HD.out.1 hgt,_,rfl,ZPm,ZPm,hBa.alloc hBa.size _⟩⟩)
   ·rcases hx with rfl|⟨t,y,rfl⟩<;>
     (go_wp2_with fail
      refine(hcall _).mono ?_;rintro e w1 ⟨rfl,hB1⟩;have hBa:=hB.trans (((ZO _).trans (hB1.mono ZPm)).mono hB.size);go_wp2_with fail;go_roundg (ws.length-(k+1)+1);case measure=>omega
      case rel=>exact⟨k+1,n+o,U,rfl,ZPp,rfl,U,U,hBa,HD.out.2 hgt⟩)
  ·have hR:deep ws=false:=by rw[<-hq.out,ZXH U];rfl
   go_wp2_with fail;go_end0;exact .inl ⟨hR,rfl,hB⟩
def ZdD:List Za:= [[61], [60,62], [60], [60,61], [62], [62,61], [105,115], [105,110], [101,120,105,115,116,115]]
theorem ZHE:∀x∈YE.map Prod.fst,ZdD.contains x=marks (Je x):=by decide
theorem ZHF:∀x∈Y0.map Prod.fst,ZdD.contains x=marks (Vt x):=by decide
theorem ZIh:∀x∈YE.map Prod.fst,opened (Je x)=0:=by decide
theorem ZIi:∀x∈Y0.map Prod.fst,(if x== [40]then 1 else if x== [41]then -1 else 0:Int)=opened (Vt x):=by decide
theorem ZCA{w:RW}(hw:Yi w):QD (YQ w) (Y1 w) ZdD=marks (tok w):=by
 unfold QD YQ Y1 tok;rcases hw with⟨h,ht⟩|⟨h,ht⟩|h|h|h
 ·rw[h,ZWQ ZPl,ZWQ ZPl,ZWQ ZPl,ZWR rfl,ZHE _ ht];rfl
 ·rw[h,ZWQ ZPl,ZWQ ZPl,ZWQ ZPl,ZWQ ZPl,ZWR rfl,ZHF _ ht];rfl
 ·rw[h];rfl
 ·rw[h];rfl
 ·rw[h];rfl
theorem ZIj{w:RW}(hw:Yi w):opens w=opened (tok w):=by
 unfold opens JY tok;rcases hw with⟨h,ht⟩|⟨h,ht⟩|h|h|h
 ·rw[h,ZWR rfl,ZIh _ ht];rfl
 ·rw[h,ZWQ (show ¬ZT=YC by decide),ZWR rfl,<-ZIi _ ht];rfl
 ·rw[h];rfl
 ·rw[h];rfl
 ·rw[h];rfl
theorem Zw7(W:World):VA (W.alloc (.cells #[.string ⟨#[61]⟩,.string ⟨#[60,62]⟩,.string ⟨#[60]⟩,.string ⟨#[60,61]⟩,.string ⟨#[62]⟩,.string ⟨#[62,61]⟩,.string ⟨#[105,115]⟩,.string ⟨#[105,110]⟩,.string ⟨#[101,120,105,115,116,115]⟩] 9)) W.heap.size ZdD:=fun k hk=>by
 have h3:=ZWV W (.cells #[.string ⟨#[61]⟩,.string ⟨#[60,62]⟩,.string ⟨#[60]⟩,.string ⟨#[60,61]⟩,.string ⟨#[62]⟩,.string ⟨#[62,61]⟩,.string ⟨#[105,115]⟩,.string ⟨#[105,110]⟩,.string ⟨#[101,120,105,115,116,115]⟩] 9);have h9:k<9:=hk;simp only[World.cell?,h3];rcases k with _|_|_|_|_|_|_|_|_|k;all_goals first|rfl|omega
theorem ZIX(Pb:Nat)(ws:List RW)(k:Nat)(W:World)(hP:PS Pb ws k W):
  Calls prog 301 #[.pointer (some ⟨Pb,0,none⟩)] W fun e w'=>e= .returned (.bool (YX 0 ((ws.drop k).map tok)))/\Below W.heap.size W w':=by
 have hlen:=hP.len;have hle:=hP.le;have hok:=hP.ok;obtain⟨wa,cap,h1,h2⟩:=hP.obj;have hcap:=hP.Zdj wa cap h1;have c0:W.cell? ⟨Pb,0,none⟩=some (.slice wa ws.length cap):=ZQ1
 have c1:W.cell? ⟨Pb,1,none⟩=some (.int .i64 k):=ZQ1
 have HW:Hid (Zdc Pb W wa ws):=h2;clear h1 h2;generalize hR:YX 0 ((ws.drop k).map tok)=R;have HR:Hid (R=YX 0 ((ws.drop k).map tok)):=hR.symm;clear hR;by_cases hk:k<ws.length
 ·obtain⟨g,rfl,hg,q1,q2,q3⟩:=HW.out k hk;have hgl:g<W.heap.size:=ZWW _ _ q1;clear q1 q2 q3;go_enter func301,ntmps301;go_wp2_with fail;go_quiet (fail);go_wp2_with fail;have hB0:Below W.heap.size W (W.drewN nq):=ZW (ZWT _ _) nq;generalize hm:ws.length-k=m;go_loopg [3,16] (m+1) (fun gk nv iv wr=>∃(j:Nat) (n:Int),j<=m/\gk=m-j+1/\iv= .int .i64 j/\nv= .int .i64 n/\0<=n/\n<=j/\Below W.heap.size W wr/\Hid (R=YX n ((ws.drop (k+j)).map tok)));case atStart=>exact⟨0,0,U,U,rfl,rfl,U,U,hB0,HR⟩
  case round=>
   obtain⟨j,n,hj,rfl,rfl,rfl,hn1,hn2,hB,hq⟩:=hrel;by_cases hlt:j<m
   ·have hkj:k+j<ws.length:=by omega
    obtain⟨g',eg,hg',q1,q2,q3⟩:=HW.out (k+j) hkj;cases eg;have p1:=(hB.cell (p:=⟨g,(k+j)*3,none⟩) hgl).trans q1;have p2:=(hB.cell (p:=⟨g,(k+j)*3+1,none⟩) hgl).trans q2;have p3:=(hB.cell (p:=⟨g,(k+j)*3+2,none⟩) hgl).trans q3;rw[show(k+j)*3=k*3+j*3 from U]at p1 p2 p3;have hw:=hok _ (ZWX hkj);have HO:XU (YQ ws[k+j]) (Y1 ws[k+j])=opened (tok ws[k+j]):=(Zvv hw).trans (ZIj hw);have HM:=ZCA hw;have ho1: -1<=XU (YQ ws[k+j]) (Y1 ws[k+j])/\XU (YQ ws[k+j]) (Y1 ws[k+j])<=1:=by
     unfold XU;split
     ·omega
     ·split<;>omega
    have HD:Hid (R=if n+XU (YQ ws[k+j]) (Y1 ws[k+j])<=0 then false else if QD (YQ ws[k+j]) (Y1 ws[k+j]) ZdD then true else YX (n+XU (YQ ws[k+j]) (Y1 ws[k+j])) ((ws.drop (k+(j+1))).map tok)):=by
     have e:=hq.out;rw[ZXl hkj,ZWZ,YX,<-HO,<-HM]at e;exact e
    have hx:=Ziu ws[k+j];have hcall:=fun w=>ZvC (YQ ws[k+j]) (Y1 ws[k+j]) (QI ws[k+j]) hx w;have hfix:=fun S w (hT:VA w S ZdD)=>ZfT (YQ ws[k+j]) (Y1 ws[k+j]) (QI ws[k+j]) hx S 9 ZdD w hT ZPl;clear HO HM q1 q2 q3 hq hw;generalize XU (YQ ws[k+j]) (Y1 ws[k+j])=o at *;generalize QD (YQ ws[k+j]) (Y1 ws[k+j]) ZdD=fx at *;generalize QI ws[k+j]=x at *;generalize YQ ws[k+j]=kd at *;generalize Y1 ws[k+j]=sp at *;obtain⟨ho2,ho3⟩:=ho1;rcases hx with rfl|⟨t,y,rfl⟩
    ·by_cases hle0:n+o<=0
     ·have HX:Hid (R=false):=by show _=_;rw[HD.out,ZWR hle0]
      exact ZUU
     ·have HLE:Hid (¬n+o<=0):=hle0;go_wp2_with fail;refine(hcall _).mono ?_;rintro e w1 ⟨rfl,hB1⟩;have hBr:Below wr.heap.size wr w1:=(ZO _).trans (hB1.mono ZPm);have hBa:=hB.trans (hBr.mono hB.size);obtain⟨r0,r1,r2,rf⟩:=YW ((hB1.block wr.heap.size ZPm).trans (ZWV wr _));go_wp2_with fail;refine(hfix w1.heap.size _ (Zw7 w1)).mono ?_;rintro e w2 ⟨rfl,hB2⟩;have hBb:=hBa.trans (((ZO _).trans (hB2.mono ZPm)).mono hBa.size);cases fx with
      |true=>
       have HX:Hid (R=true):=by show _=_;rw[HD.out,ZWQ ZQ2];rfl
       go_wp2_with fail;go_ret;exact⟨ZPt,hBb⟩
      |false=>
       have HX:Hid (R=YX (n+o) ((ws.drop (k+(j+1))).map tok)):=by show _=_;rw[HD.out,ZWQ ZQ2];rfl
       go_wp2_with fail;go_roundg (m-(j+1)+1);case measure=>omega
       case rel=>exact⟨j+1,n+o,U,rfl,ZPp,rfl,U,U,hBb,HX⟩
    ·by_cases hle0:n+o<=0
     ·have HX:Hid (R=false):=by show _=_;rw[HD.out,ZWR hle0]
      exact ZUU
     ·have HLE:Hid (¬n+o<=0):=hle0;go_wp2_with fail;refine(hcall _).mono ?_;rintro e w1 ⟨rfl,hB1⟩;have hBr:Below wr.heap.size wr w1:=(ZO _).trans (hB1.mono ZPm);have hBa:=hB.trans (hBr.mono hB.size);obtain⟨r0,r1,r2,rf⟩:=YW ((hB1.block wr.heap.size ZPm).trans (ZWV wr _));go_wp2_with fail;refine(hfix w1.heap.size _ (Zw7 w1)).mono ?_;rintro e w2 ⟨rfl,hB2⟩;have hBb:=hBa.trans (((ZO _).trans (hB2.mono ZPm)).mono hBa.size);cases fx with
      |true=>
       have HX:Hid (R=true):=by show _=_;rw[HD.out,ZWQ ZQ2];rfl
       go_wp2_with fail;go_ret;exact⟨ZPt,hBb⟩
      |false=>
       have HX:Hid (R=YX (n+o) ((ws.drop (k+(j+1))).map tok)):=by show _=_;rw[HD.out,ZWQ ZQ2];rfl
       go_wp2_with fail;go_roundg (m-(j+1)+1);case measure=>omega
       case rel=>exact⟨j+1,n+o,U,rfl,ZPp,rfl,U,U,hBb,HX⟩
   ·have HX:Hid (R=false):=by show _=_;rw[hq.out,ZXH U];rfl
    go_wp2_with fail;go_ret;exact⟨ZPt,hB⟩
 ·have HX:Hid (R=false):=by show _=_;rw[HR.out,ZXH U];rfl
  have hk':¬((k:Int)<(ws.length:Int)):=U
  have hm0:ws.length-k=0:=U
  go_enter func301,ntmps301;go_wp2_with fail;go_quiet (fail);go_wp2_with fail;all_goals
   go_loopg [16] 1 (fun gk iv wr=>gk=1/\iv= .int .i64 0/\W.drewN nq=wr);case atStart=>exact⟨rfl,rfl,rfl⟩
   case round=>
    obtain⟨rfl,rfl,rfl⟩:=hrel;go_wp2_with fail;go_ret;exact⟨ZPt,ZW (ZWT _ _) nq⟩
structure Zcd (Pb b1 b2 S cap:Nat) (ss:List Za) (W:World):Prop where
 n1:b1≠Pb
 n2:b2≠Pb
 n3:S≠Pb
 c1:W.cell? ⟨b1,0,none⟩=some (.pointer (some ⟨Pb,0,none⟩))
 c2:W.cell? ⟨b2,0,none⟩=some (.slice (some ⟨S,0,none⟩) ss.length cap)
 tx:VA W S ss
theorem Zcd.keep{Pb b1 b2 S cap:Nat}{ss:List Za}{W W':World}(h:Zcd Pb b1 b2 S cap ss W)(hK:Zb Pb W W'):Zcd Pb b1 b2 S cap ss W':=
 ⟨h.n1,h.n2,h.n3,hK.cell h.n1 h.c1,hK.cell h.n2 h.c2,fun k hk=>hK.cell h.n3 (h.tx k hk)⟩
theorem ZdK(Pb:Nat)(ws:List RW)(k b1 b2 S cap:Nat)(ss:List Za)(W:World)(hP:PS Pb ws k W)(h:Zcd Pb b1 b2 S cap ss W)(hl:ss.length<=400):
  Calls prog 267 #[.pointer (some ⟨b1,0,none⟩),.pointer (some ⟨b2,0,none⟩)] W (Zje Pb ws k W (Uq ws k ss) (.string ⟨(Qq ws k).toArray⟩) (.string ⟨#[]⟩)):=by
 have c1:=h.c1;have c2:=h.c2;go_enter func267,ntmps267;go_wp2_with fail;refine(ZkS Pb ws k S cap ss _ hP h.tx hl).mono ?_;rintro e w1 ⟨hK1,⟨hf,hk,rfl,hP1⟩|⟨hf,rfl,hP1⟩⟩
 ·go_wp2_with fail;go_ret;exact⟨hK1,.inl ⟨hf,hk,rfl,hP1⟩⟩
 ·go_wp2_with fail;go_ret;exact⟨hK1,.inr ⟨hf,rfl,hP1⟩⟩
theorem ZkQ(Pb S cap:Nat)(ss:List Za)(W:World)(hS:VA W S ss)(ZC:Pb<W.heap.size)(hSP:S≠Pb):
  Calls prog 234 #[.pointer (some ⟨Pb,0,none⟩),.slice (some ⟨S,0,none⟩) ss.length cap] W fun e w'=>∃b1 b2,e= .returned (.func (.func 267) #[] #[.pointer (some ⟨b1,0,none⟩),.pointer (some ⟨b2,0,none⟩)])/\Zcd Pb b1 b2 S cap ss w'/\Below W.heap.size W w':=by
 have Xi:∀(fn:Fn) (first cap:Array Value) (w:World),(Instr.makeFunc fn first cap).run prog w= .ok (.func fn first cap) w:=fun _ _ _ _=>rfl;go_enter func234,ntmps234;go_wp2_with fail;go_ret;have hB:Below W.heap.size W ((W.alloc (.cells #[.pointer (some ⟨Pb,0,none⟩)] 165)).alloc (.cells #[.slice (some ⟨S,0,none⟩) ss.length cap] 22)):=(ZO _).trans ((ZO _).mono ZPm);have e1:(W.alloc (.cells #[.pointer (some ⟨Pb,0,none⟩)] 165)).heap.size=W.heap.size+1:=ZPm
 have h1:=(Zb.alloc (W.heap.size+5) (W.alloc (.cells #[.pointer (some ⟨Pb,0,none⟩)] 165)) (.cells #[.slice (some ⟨S,0,none⟩) ss.length cap] 22)).obj U (ZWV W (.cells #[.pointer (some ⟨Pb,0,none⟩)] 165));have h2:=ZWV (W.alloc (.cells #[.pointer (some ⟨Pb,0,none⟩)] 165)) (.cells #[.slice (some ⟨S,0,none⟩) ss.length cap] 22);rw[e1]at h2;refine⟨W.heap.size,W.heap.size+1,rfl,⟨U,U,hSP,?_,?_,hS.below hB⟩,hB⟩
 ·simp only[World.cell?,h1];rfl
 ·simp only[World.cell?,h2];rfl
section
open T NT PK
def Zc(ws:List RW)(k:Nat):List T:=(ws.drop k).map tok
def hd(ws:List RW)(k:Nat):Option T:=(ws[k]?).map tok
def sl(ws:List RW)(i j:Nat):List RW:=(ws.drop i).take (j-i)
theorem Za4{ws:List RW}{k:Nat}(h:k<ws.length):Zc ws k=tok ws[k]::Zc ws (k+1):=by
 unfold Zc;rw[ZXl h];rfl
theorem ZpA{ws:List RW}{k:Nat}(h:¬k<ws.length):Zc ws k= []:=by
 unfold Zc;rw[ZXH U];rfl
theorem Zcy{ws:List RW}{k:Nat}(h:k<ws.length):hd ws k=some (tok ws[k]):=by
 unfold hd;rw[ZW1 h];rfl
theorem Zkh{ws:List RW}{k:Nat}(h:¬k<ws.length):hd ws k=none:=by
 unfold hd;rw[ZYz U];rfl
theorem Yu{ws:List RW}{k:Nat}{t:T}(h:hd ws k=some t):k<ws.length:=by
 by_cases hk:k<ws.length
 ·exact hk
 ·rw[Zkh hk]at h;cases h
theorem Yc{ws:List RW}{k:Nat}{t:T}(h:hd ws k=some t)(hk:k<ws.length):tok ws[k]=t:=by
 rw[Zcy hk]at h;exact ZXc h
theorem XW{ws:List RW}{k:Nat}{t:T}(h:hd ws k=some t):Zc ws k=t::Zc ws (k+1):=by
 have hk:=Yu h;rw[Za4 hk,Yc h hk]
theorem Zlh{ws:List RW}{k:Nat}{t:T}(h:hd ws k≠some t)(r:List T):Zc ws k≠t::r:=by
 intro e;by_cases hk:k<ws.length
 ·rw[Za4 hk]at e;rw[Zcy hk]at h;exact h (by rw[(ZXk e).1])
 ·rw[ZpA hk]at e;cases e
theorem Ji{ws:List RW}{k:Nat}{t:T}{r:List T}(h:Zc ws k=t::r):hd ws k=some t:=by
 by_cases hk:k<ws.length
 ·rw[Za4 hk]at h;rw[Zcy hk,(ZXk h).1]
 ·rw[ZpA hk]at h;cases h
theorem Um{ws:List RW}{k:Nat}{t:T}(h:hd ws k=some t):Zz t (Zc ws k)=some (Zc ws (k+1)):=by
 rw[XW h,Zz,ZWR rfl]
theorem KW{ws:List RW}{k:Nat}{t:T}(h:hd ws k≠some t):Zz t (Zc ws k)=none:=by
 cases e:Zc ws k with
 |nil=>rfl
 |cons u r=>rw[Zz,ZWQ (fun hu=>h ZPR)]
theorem QR(ws:List RW){i j l:Nat}(h1:i<=j)(h2:j<=l):sl ws i l=sl ws i j++sl ws j l:=by
 unfold sl;rw[show l-i=(j-i)+(l-j) from U,List.take_add,ZXF,show i+(j-i)=j from U]
theorem Zak{ws:List RW}{k:Nat}(h:k<ws.length):sl ws k (k+1)= [ws[k]]:=by
 unfold sl;rw[ZXl h,show k+1-k=1 from U];rfl
theorem Yj{ws:List RW}{k l:Nat}(h:k<ws.length)(hl:k+1<=l):sl ws k l=ws[k]::sl ws (k+1) l:=by
 rw[QR ws (show k<=k+1 by omega) hl,Zak h];rfl
theorem Zpj{ws:List RW}{i k:Nat}(h:k<ws.length)(hi:i<=k):sl ws i (k+1)=sl ws i k++ [ws[k]]:=by
 rw[QR ws hi (show k<=k+1 by omega),Zak h]
theorem ZLc(ws:List RW):sl ws 0 ws.length=ws:=by unfold sl;simp
theorem ZCy{ss:List Za}{p:T->Bool}(hK:∀x∈YE.map Prod.fst,ss.contains x=p (Je x))(hS:∀x∈Y0.map Prod.fst,ss.contains x=p (Vt x))(hn:p name=false)(hl:p lit=false){w:RW}(hw:Yi w):QD (YQ w) (Y1 w) ss=p (tok w):=by
 unfold QD YQ Y1 tok;rcases hw with⟨h,ht⟩|⟨h,ht⟩|h|h|h
 ·rw[h,ZWQ ZPl,ZWQ ZPl,ZWQ ZPl,ZWR rfl,hK _ ht];rfl
 ·rw[h,ZWQ ZPl,ZWQ ZPl,ZWQ ZPl,ZWQ ZPl,ZWR rfl,hS _ ht];rfl
 ·rw[h,ZWQ (show ¬Yz=YC by decide),ZWQ (show ¬Yz=ZT by decide),ZWR (show Yz=Yz from rfl),ZWR (show Yz=Yz from rfl),hn];rfl
 ·rw[h,ZWQ (show ¬Yh=YC by decide),ZWQ (show ¬Yh=ZT by decide),ZWQ (show ¬Yh=Yz by decide),ZWQ (show ¬Yh=Yz by decide),ZWR (.inl (show Yh=Yh from rfl)),hl];rfl
 ·rw[h,ZWQ (show ¬Yd=YC by decide),ZWQ (show ¬Yd=ZT by decide),ZWQ (show ¬Yd=Yz by decide),ZWQ (show ¬Yd=Yz by decide),ZWR (.inr (show Yd=Yd from rfl)),hl];rfl
theorem fx{ss:List Za}(p:T->Bool)(hK:∀x∈YE.map Prod.fst,ss.contains x=p (Je x))(hS:∀x∈Y0.map Prod.fst,ss.contains x=p (Vt x))(hn:p name=false)(hl:p lit=false){ws:List RW}(hok:∀w∈ws,Yi w)(k:Nat):Uq ws k ss=(hd ws k).any p:=by
 unfold Uq;by_cases hk:k<ws.length
 ·obtain⟨e1,e2,_⟩:=ZeK hk;rw[e1,e2,Zcy hk,ZCy hK hS hn hl (hok _ (ZWX hk))];rfl
 ·obtain⟨e1,e2,_⟩:=ZeL hk;rw[e1,e2,Zkh hk];rfl
theorem Zq7{o:Option T}{p:T->Bool}(h:o.any p=true):∃t,o=some t/\p t=true:=by
 cases o with
 |none=>cases h
 |some t=>exact⟨t,rfl,h⟩
theorem Zq6{o:Option T}{p:T->Bool}(h:o.any p=false){t:T}(ht:o=some t):p t=false:=by
 subst ht;exact h
theorem ZzC{o:Option T}{u:T}:o.any (·==u)=decide (o=some u):=by
 cases o with
 |none=>simp
 |some t=>simp[Bool.beq_eq_decide_eq]
def spells(s:Za)(t:T):Bool:=decide (∀x∈YE.map Prod.fst, [s].contains x=(Je x==t))&&decide (∀x∈Y0.map Prod.fst, [s].contains x=(Vt x==t))&& !(t==name)&& !(t==lit)&& !(s== [])
theorem JG{s:Za}{t:T}(h:spells s t=true){ws:List RW}(hok:∀w∈ws,Yi w)(k:Nat):Uq ws k [s]=decide (hd ws k=some t):=by
 unfold spells at h;simp only[ZXN,ZXw,ZYf,ZX8]at h;obtain⟨⟨⟨⟨h1,h2⟩,h3⟩,h4⟩,h5⟩:=h;rw[fx (·==t) h1 h2 (by simpa using h3.symm) (by simpa using h4.symm) hok k,ZzC]
theorem ZwA{s:Za}{t:T}(h:spells s t=true):s≠ []:=by
 unfold spells at h;simp only[ZXN,ZYf,ZX8]at h;exact h.2
theorem ZuU{ws:List RW}(hok:∀w∈ws,Yi w)(k:Nat):XA ws k=2↔hd ws k=some name:=by
 by_cases hk:k<ws.length
 ·rw[(ZeK hk).1,Zcy hk];constructor
  ·intro h;rw[(ZpB (hok _ (ZWX hk))).2];unfold YQ at h;split at h
   ·assumption
   ·split at h<;>cases h
  ·intro h;have:=(ZpB (hok _ (ZWX hk))).1 (ZXc h);unfold YQ;rw[ZWR this]
 ·rw[(ZeL hk).1,Zkh hk];constructor<;>intro h<;>cases h
theorem ZuT{ws:List RW}(hok:∀w∈ws,Yi w)(k:Nat):XA ws k=3↔hd ws k=some lit:=by
 by_cases hk:k<ws.length
 ·rw[(ZeK hk).1,Zcy hk];constructor
  ·intro h;rw[(ZeV (hok _ (ZWX hk))).2];unfold YQ at h;split at h
   ·cases h
   ·split at h
    ·assumption
    ·cases h
  ·intro h;have h2:=(ZeV (hok _ (ZWX hk))).1 (ZXc h);unfold YQ;rw[ZWQ (by rcases h2 with h2|h2<;>rw[h2]<;>decide),ZWR h2]
 ·rw[(ZeL hk).1,Zkh hk];constructor<;>intro h<;>cases h
theorem Zpz{ws:List RW}{k:Nat}(hk:k<ws.length)(hok:∀w∈ws,Yi w)(h:hd ws k≠some lit):Qq ws k=(ws[k]).text:=by
 rw[(ZeK hk).2.1];unfold Y1;rw[ZWQ (fun h2=>h ?_)];rw[Zcy hk,(ZeV (hok _ (ZWX hk))).2 h2]
inductive RK
 |v (x:Value)
 |its (l:List (Value×Value))
 |srs (l:List (Value×Value))
 |cls (l:List (Value×Value))
def Lay(Pb n0:Nat)(W:World)(x:Value)(l:List (Value×Value)):Prop:=
 ∃g cap,x= .slice (some ⟨g,0,none⟩) l.length cap/\l.length<=cap/\g≠Pb/\n0<=g/\∀i (h:i<l.length),W.cell? ⟨g,i*2,none⟩=some l[i].1/\W.cell? ⟨g,i*2+1,none⟩=some l[i].2
def Zv(s:Za):Value:=.string ⟨s.toArray⟩
def Zme(b:Bool):Za:=if b then[32,97,108,108]else[]
def ZfQ:List Za:= [[97,110,100], [111,114]]
def Ec:List Za:= [[43], [45], [42], [47], [37]]
def ZcE:List Za:= [[97,110,121], [97,108,108]]
inductive Zl (Pb n0:Nat) (W:World):RK->Tr->Prop
 |joined {l r x y s b}:s∈UK->Zl Pb n0 W (.v l) x->Zl Pb n0 W (.v r) y->Zl Pb n0 W (.v (.iface 205 (.agg #[l,Zv (s++Zme b),r]))) (nd {kind:=s,all:=b} (l2 x y))
 |ZaT {l r x y s}:s∈ZfQ->Zl Pb n0 W (.v l) x->Zl Pb n0 W (.v r) y->Zl Pb n0 W (.v (.iface 312 (.agg #[l,Zv s,r]))) (nd {kind:=s} (l2 x y))
 |arith {l r x y s}:s∈Ec->Zl Pb n0 W (.v l) x->Zl Pb n0 W (.v r) y->Zl Pb n0 W (.v (.iface 407 (.agg #[l,Zv s,r]))) (nd {kind:=s} (l2 x y))
 |compare {l r x y s}:Zl Pb n0 W (.v l) x->Zl Pb n0 W (.v r) y->Zl Pb n0 W (.v (.iface 322 (.agg #[l,Zv s,r]))) (nd {kind:= [99,111,109,112,97,114,101],sign:=s} (l2 x y))
 |not_ {l x}:Zl Pb n0 W (.v l) x->Zl Pb n0 W (.v (.iface 315 (.agg #[l]))) (nd {kind:= [110,111,116]} (l1 x))
 |neg {l x}:Zl Pb n0 W (.v l) x->Zl Pb n0 W (.v (.iface 403 (.agg #[l]))) (nd {kind:= [110,101,103]} (l1 x))
 |Zgk {l q x y s h}:h∈ZcE->Zl Pb n0 W (.v l) x->Zl Pb n0 W (.v q) y->Zl Pb n0 W (.v (.iface 341 (.agg #[q,l,Zv s,Zv h]))) (nd {kind:=h,sign:=s} (l2 x y))
 |Yt {l q x y b}:Zl Pb n0 W (.v l) x->Zl Pb n0 W (.v q) y->Zl Pb n0 W (.v (.iface 338 (.agg #[q,l,.bool b]))) (nd {kind:= [105,110],not_:=b} (l2 x y))
 |Xu {q y}:Zl Pb n0 W (.v q) y->Zl Pb n0 W (.v (.iface 335 (.agg #[q]))) (nd {kind:= [101,120,105,115,116,115]} (l1 y))
 |isNull {l x b}:Zl Pb n0 W (.v l) x->Zl Pb n0 W (.v (.iface 325 (.agg #[l,.bool b]))) (nd {kind:= [105,115,110,117,108,108],not_:=b} (l1 x))
 |num {n}:Zl Pb n0 W (.v (.iface 398 (.agg #[.iface 178 (.int .i64 n)]))) (nd {kind:=Yh,num:=n} .nil)
 |text {s}:Zl Pb n0 W (.v (.iface 398 (.agg #[.iface 100 (Zv s)]))) (nd {kind:=Yd,text:=s} .nil)
 |null:Zl Pb n0 W (.v (.iface 398 (.agg #[.iface 176 (.agg #[])]))) (nd {kind:= [110,117,108,108]} .nil)
 |column {o s}:Zl Pb n0 W (.v (.iface 344 (.agg #[Zv o,Zv s]))) (nd {kind:= [99,111,108,117,109,110],Zd:=o,text:=s} .nil)
 |star:Zl Pb n0 W (.v (.iface 410 (.agg #[Zv [99,111,117,110,116],.nilIface]))) (nd {kind:= [99,111,117,110,116],star:=true} .nil)
 |agg {l x s}:s∈Yf->Zl Pb n0 W (.v l) x->Zl Pb n0 W (.v (.iface 410 (.agg #[Zv s,l]))) (nd {kind:=s} (l1 x))
 |select {i f w g h is fs gs ti tf tw tg th b c}:(c=true/\i= .slice none 0 0/\is= []\/c=false/\is≠ []/\Lay Pb n0 W i is)->(fs≠ []/\Lay Pb n0 W f fs)->(g= .slice none 0 0/\gs= []\/gs≠ []/\Lay Pb n0 W g gs)->
  Zl Pb n0 W (.its is) ti->Zl Pb n0 W (.srs fs) tf->Zl Pb n0 W (.cls gs) tg->
  (w= .nilIface/\tw= .nil\/w≠.nilIface/\tw.isNode=true)->(h= .nilIface/\th= .nil\/h≠.nilIface/\th.isNode=true)->(w≠.nilIface->Zl Pb n0 W (.v w) tw)->(h≠.nilIface->Zl Pb n0 W (.v h) th)->
  Zl Pb n0 W (.v (.iface 217 (.agg #[.bool b,i,f,w,g,h]))) (.node {kind:= [115,101,108,101,99,116],star:=c,ZU:=b} .nil ti tf tg tw th)
 |EI:Zl Pb n0 W (.its []) .nil
 |Kg {x s r t ts}:Zl Pb n0 W (.v x) t->Zl Pb n0 W (.its r) ts->Zl Pb n0 W (.its ((x,Zv s)::r)) (.cons (nd {kind:= [105,116,101,109],Zx:=s} (l1 t)) ts)
 |ZeR:Zl Pb n0 W (.srs []) .nil
 |ZbT {n s r ts}:Zl Pb n0 W (.srs r) ts->Zl Pb n0 W (.srs ((Zv n,Zv s)::r)) (.cons (nd {kind:= [115,111,117,114,99,101],text:=n,Zx:=s} .nil) ts)
 |Zdl:Zl Pb n0 W (.cls []) .nil
 |Zbr {o s r ts}:Zl Pb n0 W (.cls r) ts->Zl Pb n0 W (.cls ((Zv o,Zv s)::r)) (.cons (nd {kind:= [99,111,108,117,109,110],Zd:=o,text:=s} .nil) ts)
theorem Lay.same{Pb n0:Nat}{W W':World}{x:Value}{l:List (Value×Value)}(h:Lay Pb n0 W x l)(hK:∀g o v,n0<=g->g≠Pb->W.cell? ⟨g,o,none⟩=some v->W'.cell? ⟨g,o,none⟩=some v):Lay Pb n0 W' x l:=by
 obtain⟨g,cap,h1,h2,h3,h4,h5⟩:=h;exact⟨g,cap,h1,h2,h3,h4,fun i hi=>⟨hK _ _ _ h4 h3 (h5 i hi).1,hK _ _ _ h4 h3 (h5 i hi).2⟩⟩
theorem Lay.low{Pb n0 n1:Nat}{W:World}{x:Value}{l:List (Value×Value)}(h:Lay Pb n0 W x l)(hn:n1<=n0):Lay Pb n1 W x l:=by
 obtain⟨g,cap,h1,h2,h3,h4,h5⟩:=h;exact⟨g,cap,h1,h2,h3,ZW0 hn h4,h5⟩
theorem Zl.same{Pb n0:Nat}{W W':World}{r:RK}{t:Tr}(h:Zl Pb n0 W r t)(hK:∀g o v,n0<=g->g≠Pb->W.cell? ⟨g,o,none⟩=some v->W'.cell? ⟨g,o,none⟩=some v):Zl Pb n0 W' r t:=by
 induction h with
 |joined hs _ _ i1 i2=>exact .joined hs i1 i2
 |ZaT hs _ _ i1 i2=>exact .ZaT hs i1 i2
 |arith hs _ _ i1 i2=>exact .arith hs i1 i2
 |compare _ _ i1 i2=>exact .compare i1 i2
 |not_ _ i1=>exact .not_ i1
 |neg _ i1=>exact .neg i1
 |Zgk hs _ _ i1 i2=>exact .Zgk hs i1 i2
 |Yt _ _ i1 i2=>exact .Yt i1 i2
 |Xu _ i1=>exact .Xu i1
 |isNull _ i1=>exact .isNull i1
 |num=>exact .num
 |text=>exact .text
 |null=>exact .null
 |column=>exact .column
 |star=>exact .star
 |agg hs _ i1=>exact .agg hs i1
 |select h1 h2 h3 _ _ _ h4 h5 _ _ i1 i2 i3 i4 i5=>
  refine .select (h1.imp id (fun⟨a,b,c⟩=>⟨a,b,c.same hK⟩)) ⟨h2.1,h2.2.same hK⟩ (h3.imp id (fun⟨a,b⟩=>⟨a,b.same hK⟩)) i1 i2 i3 h4 h5 i4 i5
 |EI=>exact .EI
 |Kg _ _ i1 i2=>exact .Kg i1 i2
 |ZeR=>exact .ZeR
 |ZbT _ i1=>exact .ZbT i1
 |Zdl=>exact .Zdl
 |Zbr _ i1=>exact .Zbr i1
theorem Zl.low{Pb n0 n1:Nat}{W:World}{r:RK}{t:Tr}(h:Zl Pb n0 W r t)(hK:n1<=n0):Zl Pb n1 W r t:=by
 induction h with
 |joined hs _ _ i1 i2=>exact .joined hs i1 i2
 |ZaT hs _ _ i1 i2=>exact .ZaT hs i1 i2
 |arith hs _ _ i1 i2=>exact .arith hs i1 i2
 |compare _ _ i1 i2=>exact .compare i1 i2
 |not_ _ i1=>exact .not_ i1
 |neg _ i1=>exact .neg i1
 |Zgk hs _ _ i1 i2=>exact .Zgk hs i1 i2
 |Yt _ _ i1 i2=>exact .Yt i1 i2
 |Xu _ i1=>exact .Xu i1
 |isNull _ i1=>exact .isNull i1
 |num=>exact .num
 |text=>exact .text
 |null=>exact .null
 |column=>exact .column
 |star=>exact .star
 |agg hs _ i1=>exact .agg hs i1
 |select h1 h2 h3 _ _ _ h4 h5 _ _ i1 i2 i3 i4 i5=>
  refine .select (h1.imp id (fun⟨a,b,c⟩=>⟨a,b,c.low hK⟩)) ⟨h2.1,h2.2.low hK⟩ (h3.imp id (fun⟨a,b⟩=>⟨a,b.low hK⟩)) i1 i2 i3 h4 h5 i4 i5
 |EI=>exact .EI
 |Kg _ _ i1 i2=>exact .Kg i1 i2
 |ZeR=>exact .ZeR
 |ZbT _ i1=>exact .ZbT i1
 |Zdl=>exact .Zdl
 |Zbr _ i1=>exact .Zbr i1
theorem Zl.keep{Pb n0:Nat}{W W':World}{r:RK}{t:Tr}(h:Zl Pb n0 W r t)(hK:Zb Pb W W'):Zl Pb n0 W' r t:=h.same fun g o v _ hg hc=>hK.cell hg hc
theorem Zl.JX{Pb n0:Nat}{W:World}{r:RK}{t:Tr}(h:Zl Pb n0 W r t){b:Nat}(hb:b<n0)(o:Nat)(v:Value):Zl Pb n0 (W.setCell ⟨b,o,none⟩ v) r t:=
 h.same fun g o' v' hg _ hc=>(World.cell?_setCell_far W ⟨b,o,none⟩ ⟨g,o',none⟩ v (fun e=>by have:b=g:=e;omega)).trans hc
theorem Zl.iface{Pb n0:Nat}{W:World}{x:Value}{t:Tr}(h:Zl Pb n0 W (.v x) t):∃n y,x= .iface n y:=by
 cases h<;>exact⟨_,_,rfl⟩
theorem Zl.node{Pb n0:Nat}{W:World}{x:Value}{t:Tr}(h:Zl Pb n0 W (.v x) t):t.isNode=true:=by
 cases h<;>rfl
theorem Zl.ZFl{Pb n0:Nat}{W:World}{l:List (Value×Value)}{ts:Tr}:Zl Pb n0 W (.its l) ts->∀{x s t},Zl Pb n0 W (.v x) t->Zl Pb n0 W (.its (l++ [(x,Zv s)])) (ts.snoc (nd {kind:= [105,116,101,109],Zx:=s} (l1 t))):=by
 intro h x s t ht;induction l generalizing ts with
 |nil=>cases h;exact .Kg ht .EI
 |cons a l ih=>cases h with|Kg h1 h2=>exact .Kg h1 (ih h2)
theorem Zl.ZLl{Pb n0:Nat}{W:World}{l:List (Value×Value)}{ts:Tr}:Zl Pb n0 W (.srs l) ts->∀{n s},Zl Pb n0 W (.srs (l++ [(Zv n,Zv s)])) (ts.snoc (nd {kind:= [115,111,117,114,99,101],text:=n,Zx:=s} .nil)):=by
 intro h n s;induction l generalizing ts with
 |nil=>cases h;exact .ZbT .ZeR
 |cons a l ih=>cases h with|ZbT h2=>exact .ZbT (ih h2)
theorem Zl.ZBF{Pb n0:Nat}{W:World}{l:List (Value×Value)}{ts:Tr}:Zl Pb n0 W (.cls l) ts->∀{n s},Zl Pb n0 W (.cls (l++ [(Zv n,Zv s)])) (ts.snoc (nd {kind:= [99,111,108,117,109,110],Zd:=n,text:=s} .nil)):=by
 intro h n s;induction l generalizing ts with
 |nil=>cases h;exact .Zbr .Zdl
 |cons a l ih=>cases h with|Zbr h2=>exact .Zbr (ih h2)
theorem PS.other{Pb:Nat}{ws:List RW}{k:Nat}{W:World}(h:PS Pb ws k W){b:Nat}(hb:b≠Pb){v0:Value}(hc:W.cell? ⟨b,0,none⟩=some v0)(hv:∀n,v0≠.int .i64 n)(o:Nat)(v:Value):PS Pb ws k (W.setCell ⟨b,o,none⟩ v):=by
 obtain⟨wa,cap,h1,h2⟩:=h.obj;have hp:(W.setCell ⟨b,o,none⟩ v).heap[Pb]? =W.heap[Pb]? :=ZXf _ _ _ _ (fun e=>hb e.symm);refine⟨h.len,h.ok,h.le,⟨wa,cap,hp.trans h1,fun i hi=>?_⟩,fun wa' cap' e=>h.Zdj wa' cap' (hp.symm.trans e)⟩;obtain⟨g,e,hg,c1,c2,c3⟩:=h2 i hi;obtain⟨g',e',_,d1,_⟩:=h2 0 U;have hgg:g=g':=by rw[e]at e';cases e';rfl
 subst hgg;have hgb:b≠g:=fun e=>by
  subst e;exact ZWL
 have hf:∀o',(W.setCell ⟨b,o,none⟩ v).cell? ⟨g,o',none⟩=W.cell? ⟨g,o',none⟩:=fun o'=>World.cell?_setCell_far W ⟨b,o,none⟩ ⟨g,o',none⟩ _ hgb;exact ZTR
theorem PS.lt{Pb:Nat}{ws:List RW}{k:Nat}{W:World}(h:PS Pb ws k W):Pb<W.heap.size:=by
 obtain⟨_,_,h1,_⟩:=h.obj;exact(ZWU.1 h1).1
def YR(Pb:Nat)(ws:List RW)(k:Nat)(A:Option (List T))(Q:Nat->Value->World->Prop)(W:World)(e:Ending)(w':World):Prop:=
 (∃k' x,k<=k'/\A=some (Zc ws k')/\e= .returned x/\Q k' x w'/\PS Pb ws k' w'/\Zb Pb W w')\/(A=none/\QM Pb W e w')
def Part(Pb:Nat)(ws:List RW)(nt:NT)(i n0 k':Nat)(x:Value)(w':World):Prop:=∃t,D nt (sl ws i k') t/\Zl Pb n0 w' (.v x) t
def Xp(Pb:Nat)(ws:List RW)(f:Nat)(nt:NT)(k0:Nat):Prop:=
 ∀k W,k0<=k->PS Pb ws k W->Calls prog f #[.pointer (some ⟨Pb,0,none⟩)] W (YR Pb ws k (ans (P nt) (Zc ws k)) (Part Pb ws nt k W.heap.size) W)
def Zdd(x:Value)(t:Tr):Prop:=∀Pb n0 W,Zl Pb n0 W (.v x) t
def Vy(ws:List RW)(nt:NT)(i k':Nat)(x:Value)(w':World):Prop:=∃t,D nt (sl ws i k') t/\Zdd x t
def QW(Pb:Nat)(ws:List RW)(f:Nat)(nt:NT)(k0:Nat):Prop:=
 ∀k W,k0<=k->PS Pb ws k W->Calls prog f #[.pointer (some ⟨Pb,0,none⟩)] W (YR Pb ws k (ans (P nt) (Zc ws k)) (Vy ws nt k) W)
theorem QW.rds{Pb:Nat}{ws:List RW}{f:Nat}{nt:NT}{k0:Nat}(h:QW Pb ws f nt k0):Xp Pb ws f nt k0:=fun k W h1 h2=>
 (h k W h1 h2).mono fun e w' h=>by
  rcases h with⟨k',x,a,b,c,⟨t,d1,d2⟩,e1,e2⟩|h
  ·exact .inl ⟨k',x,a,b,c,⟨t,d1,d2 _ _ _⟩,e1,e2⟩
  ·exact .inr h
theorem QW.mono{Pb:Nat}{ws:List RW}{f:Nat}{nt:NT}{k0 k1:Nat}(h:QW Pb ws f nt k0)(hk:k0<=k1):QW Pb ws f nt k1:=
 fun k W h1 h2=>h k W U h2
theorem Xp.mono{Pb:Nat}{ws:List RW}{f:Nat}{nt:NT}{k0 k1:Nat}(h:Xp Pb ws f nt k0)(hk:k0<=k1):Xp Pb ws f nt k1:=
 fun k W h1 h2=>h k W U h2
end
end Go.Proofs.YthmlacabmlghbaaGreatDoor
