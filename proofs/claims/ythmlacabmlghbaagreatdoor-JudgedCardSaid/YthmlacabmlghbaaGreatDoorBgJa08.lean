import Derived.Test.YthmlacabmlghbaaGreatDoorBgJa07
set_option maxRecDepth 100000
set_option maxHeartbeats 8000000
set_option linter.unusedSimpArgs false
set_option linter.unusedVariables false
namespace Go.Proofs.YthmlacabmlghbaaGreatDoor
open Go.RowKit
def Same(X:List Nat)(W W':World):Prop:=∀g,g∉X->g<W.heap.size->W'.heap[g]? =W.heap[g]?
theorem Same.cell{X:List Nat}{W W':World}(h:Same X W W'){g o:Nat}{v:Value}(hg:g∉X)(hc:W.cell? ⟨g,o,none⟩=some v):W'.cell? ⟨g,o,none⟩=some v:=
 (ZXb (w:=W) (h g hg (ZWW _ _ hc))).trans hc
theorem Same.obj{X:List Nat}{W W':World}(h:Same X W W'){g:Nat}{o:Obj}(hg:g∉X)(hc:W.heap[g]? =some o):W'.heap[g]? =some o:=
 (h g hg (ZWU.1 hc).1).trans hc
theorem Same.of_below{X:List Nat}{W W':World}(h:Below W.heap.size W W'):Same X W W':=fun g _ hl=>h.block g hl
theorem Same.X6{J:Nat}{W W':World}(h:Zb J W W'):Same [J] W W':=fun g hg hl=>h.block g (by simpa using hg) hl
theorem Same.mono{X Y:List Nat}{W W':World}(h:Same X W W')(hs:∀g,g∈X->g∈Y):Same Y W W':=fun g hg hl=>h g (fun hx=>hg (hs g hx)) hl
theorem Same.drew{X:List Nat}{W:World}(n:Nat):Same X W (W.drewN n):=fun _ _ _=>rfl
def XF(X:List Nat)(W:World)(v:Value)(l:List Za):Prop:=
 ∃a cap,v= .slice a l.length cap/\∀i (h:i<l.length),∃g,a=some ⟨g,0,none⟩/\g∉X/\W.cell? ⟨g,i,none⟩=some (.string ⟨l[i].toArray⟩)
theorem XF.same{X Y:List Nat}{W W':World}{v:Value}{l:List Za}(h:XF X W v l)(hs:Same Y W W')(hy:∀g,g∈Y->g∈X):XF X W' v l:=by
 obtain⟨a,cap,rfl,hc⟩:=h;refine⟨a,cap,rfl,fun i hi=>?_⟩;obtain⟨g,e,hg,h1⟩:=hc i hi;exact⟨g,e,hg,hs.cell (fun h=>hg (hy g h)) h1⟩
theorem XF.wide{X Y:List Nat}{W:World}{v:Value}{l:List Za}(h:XF X W v l)(hy:∀g,g∈Y->g∈X\/W.heap.size<=g):XF Y W v l:=by
 obtain⟨a,cap,rfl,hc⟩:=h;refine⟨a,cap,rfl,fun i hi=>?_⟩;obtain⟨g,e,hg,h1⟩:=hc i hi;refine⟨g,e,fun hx=>?_,h1⟩;rcases hy g hx with h|h
 ·exact hg h
 ·exact absurd (show g<W.heap.size from ZWW _ _ h1) U
theorem XF.view{X:List Nat}{W:World}{v:Value}{l:List Za}(h:XF X W v l):QS W v l:=by
 obtain⟨a,cap,rfl,hc⟩:=h;refine⟨a,cap,rfl,fun i hi=>?_⟩;obtain⟨g,e,hg,h1⟩:=hc i hi;exact⟨g,0,e,by rw[ZX5];exact h1⟩
structure TabAt (X:List Nat) (W:World) (g o:Nat) (t:Tb) (cv tv:Value):Prop where
 blk:g∉X
 nm:W.cell? ⟨g,o,none⟩=some (.string ⟨t.name.toArray⟩)
 c:W.cell? ⟨g,o+1,none⟩=some cv
 ty:W.cell? ⟨g,o+2,none⟩=some tv
 r:∃a n c,W.cell? ⟨g,o+3,none⟩=some (.slice a n c)
 Ze:XF X W cv t.Ze
 types:XF X W tv t.types
def Vz(X:List Nat)(W:World)(v:Value)(l:List Tb):Prop:=
 ∃a cap,v= .slice a l.length cap/\∀i (h:i<l.length),∃g cv tv,a=some ⟨g,0,none⟩/\TabAt X W g (i*4) l[i] cv tv
theorem TabAt.same{X Y:List Nat}{W W':World}{g o:Nat}{t:Tb}{cv tv:Value}(h:TabAt X W g o t cv tv)(hs:Same Y W W')(hy:∀g,g∈Y->g∈X):TabAt X W' g o t cv tv:=by
 have hg:g∉Y:=fun hh=>h.blk (hy g hh);obtain⟨ra,rn,rc,hr⟩:=h.r;exact⟨h.blk,hs.cell hg h.nm,hs.cell hg h.c,hs.cell hg h.ty,⟨ra,rn,rc,hs.cell hg hr⟩,h.Ze.same hs hy,h.types.same hs hy⟩
theorem TabAt.wide{X Y:List Nat}{W:World}{g o:Nat}{t:Tb}{cv tv:Value}(h:TabAt X W g o t cv tv)(hy:∀g,g∈Y->g∈X\/W.heap.size<=g):TabAt Y W g o t cv tv:=by
 refine⟨fun hx=>?_,h.nm,h.c,h.ty,h.r,h.Ze.wide hy,h.types.wide hy⟩;rcases hy g hx with hh|hh
 ·exact h.blk hh
 ·exact absurd (show g<W.heap.size from ZWW _ _ h.nm) U
theorem Vz.same{X Y:List Nat}{W W':World}{v:Value}{l:List Tb}(h:Vz X W v l)(hs:Same Y W W')(hy:∀g,g∈Y->g∈X):Vz X W' v l:=by
 obtain⟨a,cap,rfl,hc⟩:=h;refine⟨a,cap,rfl,fun i hi=>?_⟩;obtain⟨g,cv,tv,e,h1⟩:=hc i hi;exact⟨g,cv,tv,e,h1.same hs hy⟩
theorem Vz.wide{X Y:List Nat}{W:World}{v:Value}{l:List Tb}(h:Vz X W v l)(hy:∀g,g∈Y->g∈X\/W.heap.size<=g):Vz Y W v l:=by
 obtain⟨a,cap,rfl,hc⟩:=h;refine⟨a,cap,rfl,fun i hi=>?_⟩;obtain⟨g,cv,tv,e,h1⟩:=hc i hi;exact⟨g,cv,tv,e,h1.wide hy⟩
def YJ:List Sc->List Nat->World->Value->Prop
 | [],_,_,v=>v= .pointer none
 |s::up,X,W,v=>∃b nv tv uv gv,v= .pointer (some ⟨b,0,none⟩)/\b∉X/\W.heap[b]? =some (.cells #[nv,tv,uv,.string ⟨s.phase.toArray⟩,gv] 129 (0,0))/\
  XF (b::X) W nv s.names/\Vz (b::X) W tv s.tabs/\XF (b::X) W gv s.groups/\YJ up (b::X) W uv
theorem YJ.same{Y:List Nat}{W W':World}(hs:Same Y W W'):∀(ss:List Sc) (X:List Nat) (v:Value),(∀g,g∈Y->g∈X)->YJ ss X W v->YJ ss X W' v
 | [],_,_,_,h=>h
 |s::up,X,v,hy,h=>by
  obtain⟨b,nv,tv,uv,gv,e,hb,ho,h1,h2,h3,h4⟩:=h;have hy':∀g,g∈Y->g∈b::X:=fun g hg=>ZXe _ (hy g hg);exact⟨b,nv,tv,uv,gv,e,hb,hs.obj (fun h=>hb (hy b h)) ho,h1.same hs hy',h2.same hs hy',h3.same hs hy',YJ.same hs up _ _ hy' h4⟩
theorem YJ.wide{W:World}:∀(ss:List Sc) (X Y:List Nat) (v:Value),(∀g,g∈Y->g∈X\/W.heap.size<=g)->YJ ss X W v->YJ ss Y W v
 | [],_,_,_,_,h=>h
 |s::up,X,Y,v,hy,h=>by
  obtain⟨b,nv,tv,uv,gv,e,hb,ho,h1,h2,h3,h4⟩:=h;have hl:=(ZWU.1 ho).1;have hy':∀g,g∈b::Y->g∈b::X\/W.heap.size<=g:=fun g hg=>by
   rcases ZW3.1 hg with rfl|hg
   ·exact .inl ZXn
   ·exact(hy g hg).imp (ZXe _) id
  refine⟨b,nv,tv,uv,gv,e,fun hx=>?_,ho,h1.wide hy',h2.wide hy',h3.wide hy',YJ.wide up _ _ _ hy' h4⟩;rcases hy b hx with hh|hh
  ·exact hb hh
  ·omega
structure Ep (s:Sc):Prop where
 len:s.names.length=s.tabs.length
 le:s.names.length<=400
 YB:s.groups.length<=400
 tab:∀t∈s.tabs,t.Ze.length<=6/\t.types.length=t.Ze.length
theorem cells5{w:World}{T:Nat}{a b c d e:Value}{ty:TypeId}(h:w.heap[T]? =some (.cells #[a,b,c,d,e] ty (0,0))):
  w.cell? ⟨T,0,none⟩=some a/\w.cell? ⟨T,1,none⟩=some b/\w.cell? ⟨T,2,none⟩=some c/\w.cell? ⟨T,3,none⟩=some d/\w.cell? ⟨T,4,none⟩=some e:=by
 refine⟨?_,?_,?_,?_,?_⟩<;>simp[World.cell?,h]
def KQ:Option (Nat×Nat×Nat)->Value
 |some p=>.tuple #[.int .i64 (p.1:Int),.int .i64 (p.2.1:Int),.int .i64 (p.2.2:Int)]
 |none=>.tuple #[.int .i64 (-1),.int .i64 0,.int .i64 0]
theorem ZrR(text:Za)(x:Za):∀(l:List Za) (c:Nat),Jb text (l++ [x]) c=Jb text l c++(if x=text then[c+l.length]else[])
 | [],c=>by simp[Jb]
 |y::l,c=>by
  rw[List.cons_append,Jb,ZrR text x l (c+1),Jb];have:c+1+l.length=c+(y::l).length:=by simp;omega
  rw[this];split<;>simp
theorem Zjz(text:Za):∀(l:List Za) (c:Nat),(Jb text l c).length<=l.length
 | [],_=>ZWS _
 |y::l,c=>by
  have:=Zjz text l (c+1);rw[Jb];split<;>simp<;>omega
def U9(Zd text n:Za)(Ze:List Za)(i:Nat):List (Nat×Nat):=if Zd≠ []/\Zd≠n then[]else(Jb text Ze 0).map fun c=>(i,c)
theorem Zty(Zd text n:Za)(t:Tb):∀(ns:List Za) (ts:List Tb) (i:Nat),ns.length=ts.length->hits Zd text (ns++ [n]) (ts++ [t]) i=hits Zd text ns ts i++U9 Zd text n t.Ze (i+ns.length)
 | [], [],i,_=>by simp[hits,U9]
 |a::ns,b::ts,i,h=>by
  rw[List.cons_append,List.cons_append,hits,Zty Zd text n t ns ts (i+1) ZPv,hits];rw[show i+1+ns.length=i+(a::ns).length from ZPo,ZW7]
 | [],_::_,_,h=>ZPY
 |_::_, [],_,h=>ZPY
def ZcL(l:List (Nat×Nat)):Nat×Nat:=l.getLast?.getD (0,0)
theorem Zu1(l:List (Nat×Nat))(p:Nat×Nat):ZcL (l++ [p])=p:=by simp[ZcL]
def upTo(Zd text:Za)(s:Sc)(i:Nat):List (Nat×Nat):=hits Zd text (s.names.take i) (s.tabs.take i) 0
def V6(Zd text:Za)(s:Sc)(i:Nat)(Ze:List Za)(c:Nat):List (Nat×Nat):=upTo Zd text s i++(Jb text (Ze.take c) 0).map fun c=>(i,c)
theorem Zgi(Zd text:Za)(s:Sc):upTo Zd text s 0= []:=by simp[upTo,hits]
theorem ZiI(Zd text:Za)(s:Sc)(i:Nat)(h:s.names.length=s.tabs.length)(hi:i<s.names.length):upTo Zd text s (i+1)=upTo Zd text s i++U9 Zd text s.names[i] (s.tabs[i]' U).Ze i:=by
 unfold upTo;rw[ZXA hi,ZXA (by omega:i<s.tabs.length),Zty _ _ _ _ _ _ _ ZPo];congr 2;simp;omega
theorem ZpD(Zd text:Za)(s:Sc)(h:s.names.length=s.tabs.length):upTo Zd text s s.names.length=hits Zd text s.names s.tabs 0:=by
 unfold upTo;rw[ZYv,h,ZYv]
theorem ZpC(Zd text:Za)(s:Sc)(i:Nat)(Ze:List Za):V6 Zd text s i Ze 0=upTo Zd text s i:=by simp[V6,Jb]
theorem ZMO(Zd text:Za)(s:Sc)(i:Nat)(Ze:List Za)(c:Nat)(hc:c<Ze.length):V6 Zd text s i Ze (c+1)=V6 Zd text s i Ze c++(if Ze[c]=text then[(i,c)]else[]):=by
 unfold V6;rw[ZXA hc,ZrR,ZWY,ZW7];congr 2;have:(Ze.take c).length=c:=by simp;omega
 rw[this];split<;>simp
theorem ZMM(Zd text:Za)(s:Sc)(i:Nat)(h:s.names.length=s.tabs.length)(hi:i<s.names.length)(ho:¬(Zd≠ []/\Zd≠s.names[i])):V6 Zd text s i (s.tabs[i]' U).Ze (s.tabs[i]' U).Ze.length=upTo Zd text s (i+1):=by
 rw[ZiI Zd text s i h hi];unfold V6 U9;rw[ZYv,ZWQ ho]
theorem ZMP(Zd text:Za)(s:Sc)(i:Nat)(h:s.names.length=s.tabs.length)(hi:i<s.names.length)(ho:Zd≠ []/\Zd≠s.names[i]):upTo Zd text s (i+1)=upTo Zd text s i:=by
 rw[ZiI Zd text s i h hi];unfold U9;rw[ZWR ho,ZYb]
theorem ZpE(Zd text:Za)(s:Sc)(hk:Ep s):∀i,i<=s.names.length->(upTo Zd text s i).length<=6*i
 |0,_=>by simp[Zgi]
 |i+1,hi=>by
  rw[ZiI Zd text s i hk.len U,ZW9];have:=ZpE Zd text s hk i U;have h6:=(hk.tab (s.tabs[i]'(by have:=hk.len;omega)) (ZWX _)).1;have h7:=Zjz text (s.tabs[i]'(by have:=hk.len;omega)).Ze 0;unfold U9;split
  ·simp;omega
  ·simp;omega
theorem ZMN(Zd text:Za)(s:Sc)(hk:Ep s)(i:Nat)(hi:i<=s.names.length)(Ze:List Za)(c:Nat):(V6 Zd text s i Ze c).length<=6*i+c:=by
 have:=ZpE Zd text s hk i hi;have h7:=Zjz text (Ze.take c) 0;unfold V6;simp at h7 ⊢;omega
def VX(Zd:Za)(s:Sc)(i:Nat):Bool:=QF Zd (s.names.take i)
theorem ZHP(Zd:Za)(s:Sc):VX Zd s 0=false:=by simp[VX,QF]
theorem ZHN(Zd:Za)(s:Sc)(i:Nat)(hi:i<s.names.length)(ho:Zd≠ []/\Zd≠s.names[i]):VX Zd s (i+1)=VX Zd s i:=by
 unfold VX QF;have h:(s.names.take (i+1)).contains Zd=(s.names.take i).contains Zd:=by
  rw[ZXG,ZXI,ZXI,ZXA hi,ZXt,ZXh];exact⟨fun h=>h.elim id fun e=>absurd e ho.2,.inl⟩
 rw[h]
theorem ZHO(Zd:Za)(s:Sc)(i:Nat)(hi:i<s.names.length)(ho:¬(Zd≠ []/\Zd≠s.names[i])):VX Zd s (i+1)=(VX Zd s i||decide (Zd≠ [])):=by
 unfold VX QF;rw[ZXA hi];by_cases h0:Zd= []
 ·simp[h0]
 ·have:Zd=s.names[i]:=by
   by_cases h1:Zd=s.names[i]
   ·exact h1
   ·exact absurd ⟨h0,h1⟩ ho
  simp[h0,<-this]
theorem ZHM(Zd:Za)(s:Sc):VX Zd s s.names.length=QF Zd s.names:=by simp[VX]
theorem Zjh{Zd text:Za}{s:Sc}{up:List Sc}(h:(hits Zd text s.names s.tabs 0).length=1):Ye Zd text (s::up)=some (0,ZcL (hits Zd text s.names s.tabs 0)):=by
 rw[Ye];match hq:hits Zd text s.names s.tabs 0,h with
 | [p],_=>simp[ZcL]
theorem Zjf{Zd text:Za}{s:Sc}{up:List Sc}(h:1<(hits Zd text s.names s.tabs 0).length):Ye Zd text (s::up)=none:=by
 rw[Ye];match hq:hits Zd text s.names s.tabs 0,h with
 |_::_::_,_=>rfl
theorem Zjg{Zd text:Za}{s:Sc}{up:List Sc}(h:(hits Zd text s.names s.tabs 0).length≠1)(hm:QF Zd s.names=true):Ye Zd text (s::up)=none:=by
 rw[Ye];match hq:hits Zd text s.names s.tabs 0,h with
 |_::_::_,_=>rfl
 | [],_=>simp[hm]
theorem ZgW{Zd text:Za}{s:Sc}{up:List Sc}(h:(hits Zd text s.names s.tabs 0).length=0)(hm:QF Zd s.names=false):Ye Zd text (s::up)=(Ye Zd text up).map fun p=>(p.1+1,p.2.1,p.2.2):=by
 rw[Ye];match hq:hits Zd text s.names s.tabs 0,h with
 | [],_=>simp[hm]
def lift(k:Nat)(o:Option (Nat×Nat×Nat)):Option (Nat×Nat×Nat):=o.map fun p=>(p.1+k,p.2.1,p.2.2)
theorem ZHd(o:Option (Nat×Nat×Nat)):lift 0 o=o:=by cases o<;>rfl
theorem ZHc(k:Nat)(o:Option (Nat×Nat×Nat)):lift k (o.map fun p=>(p.1+1,p.2.1,p.2.2))=lift (k+1) o:=by
 cases o with
 |none=>rfl
 |some p=>simp only[lift,Option.map_some];congr 2;omega
theorem Zv8 (tb : Nat) (Zd text : Za) (ss : List Sc) (X : List Nat) (v : Value) (W : World) (hs : YJ ss X W v) (hk : ∀ s ∈ ss, Ep s) (hl : ss.length <= 1000000)
    (ct : W.cell? ⟨tb, 2, none⟩ = some (.string ⟨text.toArray⟩)) (co : W.cell? ⟨tb, 3, none⟩ = some (.string ⟨Zd.toArray⟩)) :
    Calls Tryz.prog 45 #[.pointer (some ⟨tb, 0, none⟩), v] W fun e W' => e = .returned (KQ (Ye Zd text ss)) /\ ∃ n, W' = W.drewN n := by
  have HS : Hid (YJ ss X W v) := hs
  have HK : Hid (∀ s ∈ ss, Ep s) := hk
  obtain ⟨o, rfl⟩ : ∃ o, v = .pointer o := by
    cases ss with
    | nil => exact ⟨_, hs⟩
    | cons s up => obtain ⟨b, _, _, _, _, rfl, _⟩ := hs; exact ⟨_, rfl⟩
  clear hs hk
  generalize hR : KQ (Ye Zd text ss) = R
  have HR : Hid (KQ (Ye Zd text ss) = R) := hR
  clear hR
  go_enter Tryz.func45, Tryz.ntmps45
  go_wp2
  go_loopg [1, 7] (ss.length + 1) (fun gk sv lv wr => ∃ (k : Nat) (o : Option Addr) (X' : List Nat), k <= ss.length /\ gk = ss.length - k + 1 /\ lv = .int .i64 k /\ sv = .pointer o /\ (∃ n, wr = W.drewN n) /\ Hid (YJ (ss.drop k) X' W (.pointer o)) /\ Hid (R = KQ (lift k (Ye Zd text (ss.drop k)))))
  case atStart => exact ⟨0, o, X, by omega, by omega, rfl, rfl, ⟨0, rfl⟩, HS, by show _ = _; rw [ZYs, ZHd]; exact HR.out.symm⟩
  case round =>
    obtain ⟨k, o, X', hk, rfl, rfl, rfl, ⟨n, rfl⟩, hs, hr⟩ := hrel
    by_cases hlt : k < ss.length
    · obtain ⟨s, up, hd⟩ : ∃ s up, ss.drop k = s :: up := ⟨_, _, ZXl hlt⟩
      have hmem : s ∈ ss := List.mem_of_mem_drop (i := k) (by rw [hd]; exact ZXn)
      have hok := HK.out s hmem
      have HD : Hid (ss.drop k = s :: up) := hd
      rw [hd] at hs hr
      clear hd
      obtain ⟨b, nv, tv, uv, gv, e, hb, Zn, h1, h2, h3, h4⟩ := hs.out
      cases e
      obtain ⟨z0, z1, z2, z3, z4⟩ := cells5 Zn
      obtain ⟨na, nc, rfl, hn⟩ := h1
      obtain ⟨ta, tc, rfl, ht⟩ := h2
      obtain ⟨ou, rfl⟩ : ∃ o, uv = .pointer o := by
        cases up with
        | nil => exact ⟨_, h4⟩
        | cons s2 up2 => obtain ⟨b2, _, _, _, _, rfl, _⟩ := h4; exact ⟨_, rfl⟩
      have hle := hok.le
      have hln := hok.len
      clear hs Zn h3
      go_wp2
      go_loopg [8, 9, 10, 11, 12] (s.names.length + 1) (fun gk hv mv sv cv iv wr => ∃ i : Nat, i <= s.names.length /\ gk = s.names.length - i + 1 /\ iv = .int .i64 i /\ hv = .int .i64 ((upTo Zd text s i).length : Nat) /\ mv = .bool (VX Zd s i) /\ sv = .int .i64 ((ZcL (upTo Zd text s i)).1 : Nat) /\ cv = .int .i64 ((ZcL (upTo Zd text s i)).2 : Nat) /\ ∃ n, wr = W.drewN n)
      case atStart => exact ⟨0, by omega, by omega, rfl, by rw [Zgi]; rfl, by rw [ZHP], by rw [Zgi]; rfl, by rw [Zgi]; rfl, n, rfl⟩
      case round =>
        obtain ⟨i, hi, rfl, rfl, rfl, rfl, rfl, rfl, n', rfl⟩ := hrel
        by_cases hil : i < s.names.length
        · obtain ⟨g, rfl, hgb, hcn⟩ := hn i hil
          obtain ⟨g2, cv, tyv, rfl, YU⟩ := ht i U
          obtain ⟨ca, cc, rfl, hcc⟩ := YU.Ze
          have y1 := YU.c
          have hlc := (hok.tab (s.tabs[i]' U) (ZWX _)).1
          by_cases ho : Zd ≠ [] /\ Zd ≠ s.names[i]
          · have b0 : (Zd == []) = false := by simp [ho.1]
            have b1 : (Zd == s.names[i]) = false := by simp [ho.2]
            have HU : Hid (upTo Zd text s (i + 1) = upTo Zd text s i) := ZMP Zd text s i hln hil ho
            have HM : Hid (VX Zd s (i + 1) = VX Zd s i) := ZHN Zd s i hil ho
            clear ho
            go_wp2
            go_quiet (fail)
            go_wp2
            go_roundg (s.names.length - (i + 1) + 1)
            case measure => omega
            case rel => exact ⟨i + 1, by omega, rfl, by exact Zm U, by rw [HU.out], by rw [HM.out], by rw [HU.out], by rw [HU.out], _, rfl⟩
          · have hcase : ((Zd == []) = true /\ VX Zd s (i + 1) = VX Zd s i) \/ ((Zd == []) = false /\ (Zd == s.names[i]) = true /\ VX Zd s (i + 1) = true) := by
              have hm := ZHO Zd s i hil ho
              by_cases h0 : Zd = []
              · exact .inl ⟨by simp [h0], by rw [hm]; simp [h0]⟩
              · exact .inr ⟨by simp [h0], by by_cases h1 : Zd = s.names[i]
                                             · simp [h1]
                                             · exact absurd ⟨h0, h1⟩ ho, by rw [hm]; simp [h0]⟩
            have HU : Hid (V6 Zd text s i (s.tabs[i]' U).Ze (s.tabs[i]' U).Ze.length = upTo Zd text s (i + 1)) := ZMM Zd text s i hln hil ho
            clear ho
            clear YU
            generalize hCe : (s.tabs[i]' U).Ze = C at *
            clear hCe
            generalize hmo : VX Zd s i = mo at *
            clear hmo
            rcases hcase with ⟨b0, hm⟩ | ⟨b0, b1, hm⟩
            all_goals
              have HM := (show Hid _ from hm)
              clear hm
              cases mo
            all_goals
              go_wp2
              go_quiet (fail)
              go_wp2
            all_goals
              go_loopg [8, 10, 11, 13] (C.length + 1) (fun gk hv sv kv jv wr => ∃ c : Nat, c <= C.length /\ gk = C.length - c + 1 /\ jv = .int .i64 c /\ hv = .int .i64 ((V6 Zd text s i C c).length : Nat) /\ sv = .int .i64 ((ZcL (V6 Zd text s i C c)).1 : Nat) /\ kv = .int .i64 ((ZcL (V6 Zd text s i C c)).2 : Nat) /\ ∃ n, wr = W.drewN n)
              case atStart => exact ⟨0, by omega, by omega, rfl, by rw [ZpC], by rw [ZpC], by rw [ZpC], _, rfl⟩
              case round =>
                obtain ⟨c, hc, rfl, rfl, rfl, rfl, rfl, n3, rfl⟩ := hrel
                have hlen := ZMN Zd text s hok i hi C c
                by_cases hcl : c < C.length
                · obtain ⟨g3, rfl, hg3, hcell⟩ := hcc c hcl
                  have HUS := (show Hid _ from ZMO Zd text s i C c hcl)
                  by_cases he : C[c] = text
                  · have b2 : (C[c] == text) = true := by simp [he]
                    have HUT : Hid (V6 Zd text s i C (c + 1) = V6 Zd text s i C c ++ [(i, c)]) := by show _ = _; rw [HUS.out, ZWR he]
                    clear he HUS
                    go_wp2
                    go_quiet (fail)
                    go_wp2
                    go_roundg (C.length - (c + 1) + 1)
                    case measure => omega
                    case rel => exact ⟨c + 1, by omega, rfl, by exact Zm U, by rw [HUT.out]; exact Zm ZPm, by rw [HUT.out, Zu1], by rw [HUT.out, Zu1], _, rfl⟩
                  · have b2 : (C[c] == text) = false := by simp [he]
                    have HUT : Hid (V6 Zd text s i C (c + 1) = V6 Zd text s i C c) := by show _ = _; rw [HUS.out, ZWQ he, ZYb]
                    clear he HUS
                    go_wp2
                    go_quiet (fail)
                    go_wp2
                    go_roundg (C.length - (c + 1) + 1)
                    case measure => omega
                    case rel => exact ⟨c + 1, by omega, rfl, by exact Zm U, by rw [HUT.out], by rw [HUT.out], by rw [HUT.out], _, rfl⟩
                · obtain rfl : c = C.length := by omega
                  rw [HU.out]
                  go_wp2
                  go_roundg (s.names.length - (i + 1) + 1)
                  case measure => omega
                  case rel => exact ⟨i + 1, by omega, rfl, by exact Zm U, rfl, by rw [HM.out], rfl, rfl, _, rfl⟩
        · obtain rfl : i = s.names.length := by omega
          have e1 := @Zjh Zd text s up
          have e2 := @Zjf Zd text s up
          have e3 := @Zjg Zd text s up
          have e4 := @ZgW Zd text s up
          rw [ZpD Zd text s hln, ZHM]
          have hbd : (hits Zd text s.names s.tabs 0).length <= 2400 := by
            have := ZpE Zd text s hok s.names.length (ZWS _)
            rw [ZpD Zd text s hln] at this
            omega
          generalize hits Zd text s.names s.tabs 0 = L at *
          generalize QF Zd s.names = mo at *
          by_cases h1 : L.length = 1
          · have HE : Hid (R = KQ (some (k, ZcL L))) := by show _ = _; rw [hr.out, e1 h1]; simp [lift]
            have hc1 : ((L.length : Nat) : Int) = 1 := by omega
            clear h1 e1 e2 e3 e4 hr HR
            go_wp2
            go_ret3
            exact ⟨ZQK, _, rfl⟩
          · by_cases h2 : 1 < L.length
            · have HE : Hid (R = KQ none) := by show _ = _; rw [hr.out, e2 h2]; rfl
              have hc1 : ((((L.length : Nat) : Int)) == 1) = false := by simp; omega
              have hc2 : (1 : Int) < ((L.length : Nat) : Int) := by omega
              clear h1 h2 e1 e2 e3 e4 hr HR
              go_wp2
              go_ret3
              exact ⟨ZQK, _, rfl⟩
            · have h0 : L.length = 0 := by omega
              have hc0 : ((L.length : Nat) : Int) = 0 := by omega
              cases mo with
              | true =>
                have HE : Hid (R = KQ none) := by show _ = _; rw [hr.out, e3 h1 rfl]; rfl
                clear h0 h1 h2 e1 e2 e3 e4 hr HR
                go_wp2
                go_ret3
                exact ⟨ZQK, _, rfl⟩
              | false =>
                have HE : Hid (R = KQ (lift (k + 1) (Ye Zd text up))) := by show _ = _; rw [hr.out, e4 h0 rfl, ZHc]
                have HD2 : Hid (ss.drop (k + 1) = up) := by show _ = _; rw [<- ZXF, HD.out]; rfl
                clear h0 h1 h2 e1 e2 e3 e4 hr HR
                go_wp2
                go_roundg (ss.length - (k + 1) + 1)
                case measure => omega
                case rel => exact ⟨k + 1, ou, b :: X', by omega, rfl, by exact Zm U, rfl, ⟨_, rfl⟩, by rw [HD2.out]; exact h4, by rw [HD2.out]; exact HE⟩
    · obtain rfl : k = ss.length := by omega
      have e : ss.drop ss.length = [] := ZYd
      rw [e] at hs hr
      have ho : Value.pointer o = .pointer none := hs.out
      cases ho
      have HE : Hid (R = KQ none) := hr.out
      clear hr HR e
      go_wp2
      go_ret3
      exact ⟨ZQK, _, rfl⟩
end Go.Proofs.YthmlacabmlghbaaGreatDoor
