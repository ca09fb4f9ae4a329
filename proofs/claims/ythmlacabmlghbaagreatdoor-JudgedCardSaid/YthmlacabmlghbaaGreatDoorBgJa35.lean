import Derived.Test.YthmlacabmlghbaaGreatDoorBgRm
set_option maxRecDepth 100000
set_option maxHeartbeats 8000000
set_option linter.unusedSimpArgs false
set_option linter.unusedVariables false
namespace Go.Proofs.YthmlacabmlghbaaGreatDoor
open Go.Proofs.Tryz
open Go.RowKit
theorem Jn.from{W0 W W1 W':World}{C M:Nat}{cl:Bool}{r:List Za×Jr}{e:Ending}(h:Jn W0 W1 C M cl r e W')(hB:Below W.heap.size W W1):Jn W0 W C M cl r e W':=by
 rcases h with h|⟨hl,n,y,tv,e1,hK,hC,hT⟩
 ·exact ZS3
 ·exact .inr ⟨hl,n,y,tv,e1,(Zb.of_below hB).trans hK,hC,hT⟩
theorem ZJu{W0:World}{iv fv gv wv hv:Value}{star d:Bool}{ti tf tg tw th:Tr}{L:List (Value×Za×Tr)}{YY YT:List (Za×Za)}(hS:ZdY W0 iv fv gv wv hv star ti tf tg tw th L YY YT):KL W0 (.iface 217 (.agg #[.bool d,iv,fv,wv,gv,hv])) (.node {kind:= [115,101,108,101,99,116],star:=star,ZU:=d} .nil ti tf tg tw th):=by
 intro W C M db cl m ss nb n v hD hC hP hnb hn hgl hlen hm;have hsz:sz (.node {kind:= [115,101,108,101,99,116],star:=star,ZU:=d} .nil ti tf tg tw th)=1+sz ti+sz tf+sz tg+sz tw+sz th:=by simp[sz]
 rw[hsz]at hlen hm;obtain⟨hw,hh⟩:=hS.ifs;have HN:Hid (∀w',Below W.heap.size W w'->Calls prog 89 #[.pointer (some ⟨C,0,none⟩),.agg #[.bool d,iv,fv,wv,gv,hv],v] w' (Jn W0 w' C M cl (jq db (.node {kind:=QE,star:=star,ZU:=d} .nil ti tf tg tw th) ss))):=fun w' hB=>ZGF hS w' C M db cl m ss nb n v hD (hC.below hB) (Yv.below (W:=W) hP hB) hnb (ZW0 hn hB.size) hgl hlen hm;obtain⟨fg,VL,rfl,ZjF⟩:=hS.src;obtain⟨ga,Vi,rfl,ZjK⟩:=hS.YB;obtain⟨ia,ic,rfl⟩:∃ia ic,iv= .slice ia L.length ic:=by
  rcases hS.items with⟨_,rfl,rfl⟩|⟨_,_,g,cap,rfl,_⟩
  ·exact ZTI
  ·exact ZTI
 obtain⟨va,rfl⟩:∃o,v= .pointer o:=by
  cases ss with
  |nil=>exact⟨_,hP⟩
  |cons s2 up2=>exact ZVK
 have ta:=ZL6 (.agg #[.bool d,.slice ia L.length ic,.slice (some ⟨fg,0,none⟩) YY.length VL,wv,.slice ga YT.length Vi,hv]);have tb:=ZL7 (.agg #[.bool d,.slice ia L.length ic,.slice (some ⟨fg,0,none⟩) YY.length VL,wv,.slice ga YT.length Vi,hv]);clear hS hD hC hP ZjF ZjK hgl hlen hm hsz;change Calls _ _ _ _ (Jn W0 W C M cl (jq db (.node {kind:=QE,star:=star,ZU:=d} .nil ti tf tg tw th) ss));generalize jq db (.node {kind:=QE,star:=star,ZU:=d} .nil ti tf tg tw th) ss=R at *;rcases hw with rfl|⟨wn,wy,rfl⟩<;>rcases hh with rfl|⟨hn',hy,rfl⟩;all_goals
  go_enter func62,ntmps62;go_wp2_with fail;have ZE:=fun ob=>(ZWT W.heap.size W).alloc (ZWS _) ob;refine(HN.out _ (ZE _)).mono ?_;intro e w1 hpost;rcases hpost with⟨hlo,b',rfl,h0,h1,hB3⟩|⟨hlo,qn,qy,tv,rfl,hK,Zf,Zq,hT,hl,ht⟩
  ·have HL:=(show Hid _ from hlo);exact ZSY
  ·obtain⟨ta2,tc2,rfl⟩:∃a c,tv= .slice a Zq.length c:=by obtain⟨a,c,e,_⟩:=hT;exact⟨a,c,e⟩
   have HQ:Hid (Jn W0 W C M cl R (.returned (.tuple #[.iface qn qy,.slice ta2 Zq.length tc2])) w1):=.inr ⟨hlo,qn,qy,_,rfl,(Zb.of_below (ZE _)).trans hK,Zf,Zq,hT,hl,ht⟩;clear hlo hK Zf hT hl ht;go_wp2_with fail;go_ret2;exact HQ.out
theorem ZCc(l r:Value)(x y:Tr)(s:Za)(hs:s∈Ec)(hl:XK l x)(hr:XK r y)(htx:Er x)(hty:Er y)(hil:∃n y,l= .iface n y)(hir:∃n y,r= .iface n y):XK (.iface 407 (.agg #[l,Zv s,r])) (nd {kind:=s} (l2 x y)):=by
 intro W0 W C M cl m ss nb nn b hI hm;have hj:jx (nd {kind:=s} (l2 x y)) ss=(Xo,(jn x ss).or (jn y ss)):=by
  rw[nd,Zuy (f:={kind:=s})]
  ·rw[l2,EJ,EJ,EJ,Jr.or_none];rfl
  all_goals
   simp only[Ec,ZW3,ZXV,ZXK]at hs;rcases hs with rfl|rfl|rfl|rfl|rfl<;>decide
 obtain⟨ln,ly,rfl⟩:=hil;obtain⟨rn,ry,rfl⟩:=hir;have ta:=ZLD (.agg #[.iface ln ly,.string ⟨s.toArray⟩,.iface rn ry]);have tb:=ZLE (.agg #[.iface ln ly,.string ⟨s.toArray⟩,.iface rn ry]);have tc:=ZwN (.agg #[.iface ln ly,.string ⟨s.toArray⟩,.iface rn ry]);have td:=ZwO (.agg #[.iface ln ly,.string ⟨s.toArray⟩,.iface rn ry]);have hsz:m+sz x+sz y<=1000000:=by simp[nd,l2,sz]at hm;omega
 have Qz:Hid (∀w',Below W.heap.size W w'->Calls prog 216 #[.pointer (some ⟨C,0,none⟩),.iface ln ly,.pointer (some ⟨b,0,none⟩)] w' (Zl5 W0 w' C M cl m ss nb b x)):=fun w' hB=>Zog _ x hl htx W0 w' C M cl m ss nb nn b (hI.below hB) U ⟨ln,ly,rfl⟩;have XX:Hid (∀w' cl' n',Z7 W0 w' C M cl' (m+sz x) ss nb n' b->Calls prog 216 #[.pointer (some ⟨C,0,none⟩),.iface rn ry,.pointer (some ⟨b,0,none⟩)] w' (Zl5 W0 w' C M cl' (m+sz x) ss nb b y)):=fun w' cl' n' hI'=>Zog _ y hr hty W0 w' C M cl' (m+sz x) ss nb n' b hI' U ⟨rn,ry,rfl⟩;have HJ:=(show Hid _ from hj);have HSZ:Hid (sz x+sz y<=sz (nd {kind:=s} (l2 x y))):=by show _<=_;simp[nd,l2,sz]
 have HI:=(show Hid _ from hI);clear hj hm hl hr htx hty hs hsz hI;generalize nd {kind:=s} (l2 x y)=t at *;unfold Zv;go_enter func167,ntmps167;go_wp2_with fail;generalize Yb:W.alloc (.cells #[.iface ln ly,.string ⟨s.toArray⟩,.iface rn ry] 407)=Wp;have ZE:Below W.heap.size W Wp:=by rw[<-Yb];exact(ZWT _ W).alloc (ZWS _) _
 have Zn:Wp.heap[W.heap.size]? =some (.cells #[.iface ln ly,.string ⟨s.toArray⟩,.iface rn ry] 407 (0,0)):=by rw[<-Yb];exact ZWV W _
 clear Yb;obtain⟨c0,c1,c2,_⟩:=YW Zn;go_region_with (first|(go_at_call 216;refine(XX.out _ _ _ hI1).mono ?_;intro e w2 ZnS;rcases ZnS with hbad|hgood;(focus (obtain⟨hlo2,b',rfl,h0,h1,hB3⟩:=hbad;go_wp2;exact⟨rfl,ZmP (by rw[HJ.out];simp[Jr.or,hlo2]) ⟨b',rfl,h0,h1,hB3⟩⟩));obtain⟨hlo2,g1,g2,g3,rfl,hF2,hI2⟩:=hgood;obtain⟨d0,d1,d2,_⟩:=YW (hF2.fx.obj ho1 ZPl))|(go_at_call 216;refine(Qz.out _ (ZW ZE 1)).mono ?_;intro e w1 Zh1;rcases Zh1 with hbad|hgood;(focus (obtain⟨hlo1,b',rfl,h0,h1,hB3⟩:=hbad;go_wp2;exact⟨rfl,ZmP (by rw[HJ.out];simp[Jr.or,hlo1]) ⟨b',rfl,h0,h1,hB3⟩⟩));obtain⟨hlo1,f1,f2,f3,rfl,hF1,hI1⟩:=hgood;have ho1:w1.heap[W.heap.size]? =some (.cells #[.iface ln ly,.string ⟨s.toArray⟩,.iface rn ry] 407 (0,0)):=hF1.fx.obj Zn ZPl;obtain⟨e0,e1,e2,_⟩:=YW ho1)|(go_at_call 217;refine(ZuE _ _ _ _ _ _ _ _).mono ?_;rintro e w3 ⟨k1,k2,k3,rfl,hB3⟩));all_goals
  go_wp2_with fail;go_ret2;refine .inr ⟨by rw[HJ.out];simp[Jr.or,hlo1,hlo2],k1,k2,k3,by rw[HJ.out];rfl,(Fr.of_below (ZW ZE 1)).trans (hF1.trans (hF2.trans (Fr.of_below hB3))),?_⟩;rw[HJ.out];have hfin:=(hI2.below hB3).wide (m':=m+sz t) (by have:=HSZ.out;omega);simpa[Jr.or,ZXx]using hfin
theorem ZBj{W0:World}(l:Value)(x:Tr)(nt:Bool)(hl:XK l x)(hil:∃n y,l= .iface n y):Vw W0 (.iface 325 (.agg #[l,.bool nt])) (nd {kind:= [105,115,110,117,108,108],not_:=nt} (l1 x)):=by
 intro W C M db cl m ss nb n b hD hI hs hm;have hj:jc db (nd {kind:= [105,115,110,117,108,108],not_:=nt} (l1 x)) ss=(jx x ss).2:=by
  rw[nd,jc,ZWQ (by show ¬(([105,115,110,117,108,108]:Za)= [97,110,100]\/([105,115,110,117,108,108]:Za)= [111,114]\/([105,115,110,117,108,108]:Za)= [110,111,116]);decide),ZWQ (by show ¬([105,115,110,117,108,108]:Za)= [101,120,105,115,116,115];decide),ZWR (by show([105,115,110,117,108,108]:Za)= [105,115,110,117,108,108];rfl),l1,Qo]
 obtain⟨ln,ly,rfl⟩:=hil;have hsz:sz (nd {kind:= [105,115,110,117,108,108],not_:=nt} (l1 x))=1+sz x:=ZQ4
 have ta:=ZLV (.agg #[.iface ln ly,.bool nt]);have tb:=ZLW (.agg #[.iface ln ly,.bool nt]);have tc:=ZLX (.agg #[.iface ln ly,.bool nt]);have td:=ZLY (.agg #[.iface ln ly,.bool nt]);have Qz:Hid (∀w',Below W.heap.size W w'->Calls prog 167 #[.pointer (some ⟨C,0,none⟩),.iface ln ly,.pointer (some ⟨b,0,none⟩)] w' (QT W0 w' C M cl m ss nb b x)):=fun w' hB=>hl W0 w' C M cl m ss nb n b (hI.below hB) U;rw[hj,hsz];clear hj hsz hl hI hs hm hD;unfold QT at Qz;generalize jx x ss=R at *;obtain⟨tx,r⟩:=R;go_enter func122,ntmps122;go_wp2_with fail;generalize Yb:W.alloc (.cells #[.iface ln ly,.bool nt] 325)=Wp;have ZE:Below W.heap.size W Wp:=by rw[<-Yb];exact(ZWT _ W).alloc (ZWS _) _
 have Zn:Wp.heap[W.heap.size]? =some (.cells #[.iface ln ly,.bool nt] 325 (0,0)):=by rw[<-Yb];exact ZWV W _
 clear Yb;refine(Qz.out _ ZE).mono ?_;rintro e w1 (⟨hlo,b',rfl,h0,h1,hB3⟩|⟨hlo,f1,f2,f3,rfl,hF,hI1⟩)
 ·exact ZUw
 ·have ho1:=hF.fx.obj Zn ZPl;obtain⟨c0,c1,_,_⟩:=U5 ho1;have hWl:=(ZWU.1 ho1).1;have HI1:=(show Hid _ from hI1);have HF:=(show Hid _ from hF);clear hI1 hF;go_wp2_with fail;go_region_with (first|(go_at_call 169;refine(ZGr _ _ _ _).mono ?_;rintro e w2 ⟨g1,g2,g3,rfl,hB2⟩;have hc2:w2.cell? ⟨W.heap.size,1,none⟩=some (.bool nt):=(hB2.cell (p:=⟨W.heap.size,1,none⟩) hWl).trans c1)|(go_at_call 168;refine(ZuH _ _ _ _ _).mono ?_;rintro e w3 ⟨k1,k2,k3,rfl,hB3⟩));all_goals
   go_wp2_with fail;go_ret;have hBw:Below w1.heap.size w1 w3:=(ZW (ZWT w1.heap.size w1) 1).trans ((hB2.mono (ZWS _)).trans (hB3.mono hB2.size));exact .inr ⟨hlo,k1,k2,k3,rfl,(Fr.of_below ZE).trans (HF.out.trans (Fr.of_below hBw)),(HI1.out.below hBw).wide U⟩
theorem ZBi{W0:World}(l q:Value)(x y:Tr)(nt:Bool)(hl:XK l x)(hq:KL W0 q y)(htx:Er x)(hqt:Zbj y)(hil:∃n y,l= .iface n y)(hiq:∃n y,q= .iface n y):Vw W0 (.iface 338 (.agg #[q,l,.bool nt])) (nd {kind:= [105,110],not_:=nt} (l2 x y)):=by
 intro W C M db cl m ss nb n b hD hI hs hm;have hj:jc db (nd {kind:= [105,110],not_:=nt} (l2 x y)) ss=((jx x ss).2.or (jq db y ss).2).or {ZG:=J3 (jx x ss).1 (jq db y ss).1}:=by
  rw[nd,jc,ZWQ (by show ¬(([105,110]:Za)= [97,110,100]\/([105,110]:Za)= [111,114]\/([105,110]:Za)= [110,111,116]);decide),ZWQ (by show ¬([105,110]:Za)= [101,120,105,115,116,115];decide),ZWQ (by show ¬([105,110]:Za)= [105,115,110,117,108,108];decide),ZWQ (by show ¬([105,110]:Za)= [99,111,109,112,97,114,101];decide),ZWR (by show([105,110]:Za)= [105,110]\/_;exact .inl rfl),l2,Qo,jq2,K8]
 have hsz:sz (nd {kind:= [105,110],not_:=nt} (l2 x y))=1+(sz x+sz y):=ZQx
 have Qz:Hid (∀w',Below W.heap.size W w'->Calls prog 171 #[.pointer (some ⟨C,0,none⟩),l,.string ⟨#[61]⟩,.string ⟨#[97,110,121]⟩,q,.pointer (some ⟨b,0,none⟩)] w' (En W0 w' C M cl m ss nb b (((jx x ss).2.or (jq db y ss).2).or {ZG:=J3 (jx x ss).1 (jq db y ss).1}) (sz x+sz y))):=fun w' hB=>ZuL l q x y [61] [97,110,121] (by simp[ZcE]) hl hq htx hqt hil hiq w' C M db cl m ss nb n b hD (hI.below hB) U U;obtain⟨ln,ly,rfl⟩:=hil;obtain⟨qn,qy,rfl⟩:=hiq;rw[hj,hsz];have ta:=ZLP (.agg #[.iface qn qy,.iface ln ly,.bool nt]);have tb:=ZLQ (.agg #[.iface qn qy,.iface ln ly,.bool nt]);have tc:=ZLR (.agg #[.iface qn qy,.iface ln ly,.bool nt]);have td:=ZLS (.agg #[.iface qn qy,.iface ln ly,.bool nt]);have te:=ZLT (.agg #[.iface qn qy,.iface ln ly,.bool nt]);have tf:=ZLU (.agg #[.iface qn qy,.iface ln ly,.bool nt]);clear hj hsz hl hq hI hs hm hD htx hqt;generalize ((jx x ss).2.or (jq db y ss).2).or {ZG:=J3 (jx x ss).1 (jq db y ss).1}=R at *;go_enter func122,ntmps122;go_wp2_with fail;generalize Yb:W.alloc (.cells #[.iface qn qy,.iface ln ly,.bool nt] 338)=Wp;have ZE:Below W.heap.size W Wp:=by rw[<-Yb];exact(ZWT _ W).alloc (ZWS _) _
 have Zn:Wp.heap[W.heap.size]? =some (.cells #[.iface qn qy,.iface ln ly,.bool nt] 338 (0,0)):=by rw[<-Yb];exact ZWV W _
 clear Yb;obtain⟨c0,c1,c2,_⟩:=YW Zn;go_region_with (first|(go_at_call 171;refine(Qz.out _ (ZW ZE 1)).mono ?_;intro e w1 Zh1;rcases Zh1 with hbad|hgood;(focus (obtain⟨hlo1,b',rfl,h0,h1,hB3⟩:=hbad;go_wp2;exact⟨rfl,Zbt hlo1 ⟨b',rfl,h0,h1,hB3⟩⟩));obtain⟨hlo1,f1,f2,f3,rfl,hF1,hI1⟩:=hgood;obtain⟨e0,e1,e2,_⟩:=YW (hF1.fx.obj Zn ZPl))|(go_at_call 168;refine(ZuH _ _ _ _ _).mono ?_;rintro e w3 ⟨k1,k2,k3,rfl,hB3⟩));all_goals
  go_wp2_with fail;go_ret;exact .inr ⟨hlo1,k1,k2,k3,rfl,(Fr.of_below (ZW ZE 1)).trans (hF1.trans (Fr.of_below hB3)),(hI1.below hB3).wide U⟩
theorem ZBk{W0:World}(l r:Value)(x y:Tr)(s:Za)(hs:s∈ZfQ)(hl:Vw W0 l x)(hr:Vw W0 r y)(hil:∃n y,l= .iface n y)(hir:∃n y,r= .iface n y):Vw W0 (.iface 312 (.agg #[l,Zv s,r])) (nd {kind:=s} (l2 x y)):=by
 intro W C M db cl m ss nb n b hD hI hss hm;have hj:jc db (nd {kind:=s} (l2 x y)) ss=(jc db x ss).or (jc db y ss):=by
  have h1:s= [97,110,100]\/s= [111,114]\/s= [110,111,116]:=by
   simp only[ZfQ,ZW3,ZXV,ZXK]at hs;rcases hs with rfl|rfl
   ·exact ZS5
   ·exact .inr (.inl rfl)
  rw[nd,jc,ZWR (by exact h1),l2,jcs,jcs,jcs,Jr.or_none]
 have hsz:sz (nd {kind:=s} (l2 x y))=1+(sz x+sz y):=ZQx
 obtain⟨ln,ly,rfl⟩:=hil;obtain⟨rn,ry,rfl⟩:=hir;have ta:=ZL1 (.agg #[.iface ln ly,.string ⟨s.toArray⟩,.iface rn ry]);have Qz:Hid (∀w',Below W.heap.size W w'->Calls prog 122 #[.pointer (some ⟨C,0,none⟩),.iface ln ly,.pointer (some ⟨b,0,none⟩)] w' (En W0 w' C M cl m ss nb b (jc db x ss) (sz x))):=fun w' hB=>hl w' C M db cl m ss nb n b hD (hI.below hB) U U;have XX:Hid (∀w' cl' n',Z7 W0 w' C M cl' (m+sz x) ss nb n' b->Calls prog 122 #[.pointer (some ⟨C,0,none⟩),.iface rn ry,.pointer (some ⟨b,0,none⟩)] w' (En W0 w' C M cl' (m+sz x) ss nb b (jc db y ss) (sz y))):=fun w' cl' n' hI'=>hr w' C M db cl' (m+sz x) ss nb n' b hD hI' U U;rw[hj,hsz];clear hj hm hl hr hs hsz hI hD hss;generalize jc db x ss=RX at *;generalize jc db y ss=RY at *;unfold Zv;go_enter func122,ntmps122;go_wp2_with fail;generalize Yb:W.alloc (.cells #[.iface ln ly,.string ⟨s.toArray⟩,.iface rn ry] 312)=Wp;have ZE:Below W.heap.size W Wp:=by rw[<-Yb];exact(ZWT _ W).alloc (ZWS _) _
 have Zn:Wp.heap[W.heap.size]? =some (.cells #[.iface ln ly,.string ⟨s.toArray⟩,.iface rn ry] 312 (0,0)):=by rw[<-Yb];exact ZWV W _
 clear Yb;obtain⟨c0,c1,c2,_⟩:=YW Zn;go_region_with (first|(go_at_call 122;refine(XX.out _ _ _ hI1).mono ?_;intro e w2 ZnS;rcases ZnS with hbad|hgood;(focus (obtain⟨hlo2,b',rfl,h0,h1,hB3⟩:=hbad;go_wp2;exact⟨rfl,Zbt (by simp[Jr.or,hlo2]) ⟨b',rfl,h0,h1,hB3⟩⟩));obtain⟨hlo2,g1,g2,g3,rfl,hF2,hI2⟩:=hgood;obtain⟨d0,d1,d2,_⟩:=YW (hF2.fx.obj ho1 ZPl))|(go_at_call 122;refine(Qz.out _ (ZW ZE 1)).mono ?_;intro e w1 Zh1;rcases Zh1 with hbad|hgood;(focus (obtain⟨hlo1,b',rfl,h0,h1,hB3⟩:=hbad;go_wp2;exact⟨rfl,Zbt (by simp[Jr.or,hlo1]) ⟨b',rfl,h0,h1,hB3⟩⟩));obtain⟨hlo1,f1,f2,f3,rfl,hF1,hI1⟩:=hgood;have ho1:w1.heap[W.heap.size]? =some (.cells #[.iface ln ly,.string ⟨s.toArray⟩,.iface rn ry] 312 (0,0)):=hF1.fx.obj Zn ZPl;obtain⟨e0,e1,e2,_⟩:=YW ho1)|(go_at_call 164;refine(ZGw _ _ _ _ _ _ _ _).mono ?_;rintro e w3 ⟨k1,k2,k3,rfl,hB3⟩));all_goals
  go_wp2_with fail;go_ret;refine .inr ⟨by simp[Jr.or,hlo1,hlo2],k1,k2,k3,rfl,(Fr.of_below (ZW ZE 1)).trans (hF1.trans (hF2.trans (Fr.of_below hB3))),?_⟩;have hfin:=(hI2.below hB3).wide (m':=m+(1+(sz x+sz y))) U;simpa[Jr.or,ZXx]using hfin
def Pk(W0:World):RK->Tr->Prop
 | .v x,t=>Zy 400 t->sz t<=100000->(K 0 t->XK x t/\Ua t/\UW x t/\∃n y,x= .iface n y)/\(K 1 t->Vw W0 x t/\∃n y,x= .iface n y)/\(K 2 t->KL W0 x t/\Zbj t/\∃n y,x= .iface n y)
 | .its is,t=>Zy 400 t->sz t<=100000->K 3 t->∃L:List (Value×Za×Tr),is=L.map itV/\elems t=L.map JU/\(∀p∈L,XK p.1 p.2.2/\Ua p.2.2/\UW p.1 p.2.2/\∃n y,p.1= .iface n y)/\sz t=(L.map fun p=>1+sz p.2.2).sum/\ZL t=L.any fun p=>ZL p.2.2
 | .srs _,_=>True
 | .cls _,_=>True
theorem apart{a b:List Za}{s:Za}(h1:s∈a)(h2:s∈b)(hd:∀x∈a,x∉b):False:=hd s h1 h2
theorem Zf9{n:Nat}{f:Fl}{x y:Tr}(h:Zy n (nd f (l2 x y))):Zy n x/\Zy n y:=⟨h.2.2.1.1,h.2.2.1.2.1⟩
theorem Zf8{n:Nat}{f:Fl}{x:Tr}(h:Zy n (nd f (l1 x))):Zy n x:=h.2.2.1.1
theorem Zgb(f:Fl)(x y:Tr):sz (nd f (l2 x y))=1+(sz x+sz y):=by simp[nd,l2,sz]
theorem Zga(f:Fl)(x:Tr):sz (nd f (l1 x))=1+sz x:=by simp[nd,l1,sz]
theorem Zig{x y x' y':Tr}(h:l2 x y=l2 x' y'):x=x'/\y=y':=by cases h;exact⟨rfl,rfl⟩
theorem ZkG{x x':Tr}(h:l1 x=l1 x'):x=x':=by cases h;rfl
theorem Zu0{x y:Tr}(h:l2 x y= .nil):False:=by cases h
theorem ZuZ{x:Tr}(h:l1 x= .nil):False:=by cases h
theorem ZkH{x y z:Tr}(h:l2 x y=l1 z):False:=by cases h
theorem Zif{x y z:Tr}(h:l1 z=l2 x y):False:=by cases h
theorem Zge{f:Fl}{x y:Tr}(h:K 0 (nd f (l2 x y))):f.kind∈Ec/\K 0 x/\K 0 y:=by
 rcases K.inv0 h with⟨e,_⟩|⟨_,e,_⟩|⟨a,b,e,hf,h1,h2⟩
 ·exact(Zu0 e).elim
 ·exact(ZkH e).elim
 ·obtain⟨rfl,rfl⟩:=Zig e;exact⟨hf,h1,h2⟩
theorem Zgf{f:Fl}{x y:Tr}(h:K 1 (nd f (l2 x y))):(f.kind∈ZfQ/\K 1 x/\K 1 y)\/(f.kind=ZbK/\K 0 x/\K 0 y)\/(f.kind∈ZeZ/\K 0 x/\K 2 y):=by
 rcases K.inv1 h with⟨a,b,e,hf,h1,h2⟩|⟨_,e,_⟩|⟨_,e,_⟩|⟨_,e,_⟩|⟨a,b,e,hf,h1,h2⟩|⟨a,b,e,hf,h1,h2⟩
 ·obtain⟨rfl,rfl⟩:=Zig e;exact .inl ⟨hf,h1,h2⟩
 ·exact(ZkH e).elim
 ·exact(ZkH e).elim
 ·exact(ZkH e).elim
 ·obtain⟨rfl,rfl⟩:=Zig e;exact .inr (.inl ⟨hf,h1,h2⟩)
 ·obtain⟨rfl,rfl⟩:=Zig e;exact .inr (.inr ⟨hf,h1,h2⟩)
theorem Zgg{f:Fl}{x y:Tr}(h:K 2 (nd f (l2 x y))):f.kind∈UK/\K 2 x/\K 2 y:=by
 rcases K.inv2 h with⟨a,b,e,hf,h1,h2⟩|⟨e,_⟩
 ·obtain⟨rfl,rfl⟩:=Zig e;exact⟨hf,h1,h2⟩
 ·exact(Zu0 e).elim
theorem Zin{f:Fl}{x:Tr}(h:K 0 (nd f (l1 x))):(f.kind=ZcG\/f.kind∈Yf)/\K 0 x:=by
 rcases K.inv0 h with⟨e,_⟩|⟨_,e,hf,h1⟩|⟨a,b,e,_⟩
 ·exact(ZuZ e).elim
 ·rw[ZkG e];exact⟨hf,h1⟩
 ·exact(Zif e).elim
theorem Zio{f:Fl}{x:Tr}(h:K 1 (nd f (l1 x))):(f.kind=ZaR/\K 1 x)\/(f.kind=ZaP/\K 2 x)\/(f.kind=ZaQ/\K 0 x):=by
 rcases K.inv1 h with⟨a,b,e,_⟩|⟨_,e,hf,h1⟩|⟨_,e,hf,h1⟩|⟨_,e,hf,h1⟩|⟨a,b,e,_⟩|⟨a,b,e,_⟩
 ·exact(Zif e).elim
 ·rw[ZkG e];exact .inl ⟨hf,h1⟩
 ·rw[ZkG e];exact .inr (.inl ⟨hf,h1⟩)
 ·rw[ZkG e];exact .inr (.inr ⟨hf,h1⟩)
 ·exact(Zif e).elim
 ·exact(Zif e).elim
theorem Ziq{f:Fl}{x:Tr}(h:K 2 (nd f (l1 x))):False:=by
 rcases K.inv2 h with⟨a,b,e,_⟩|⟨e,_⟩
 ·exact Zif e
 ·exact ZuZ e
theorem Zih{f:Fl}(h:K 1 (nd f .nil)):False:=by
 rcases K.inv1 h with⟨a,b,e,_⟩|⟨_,e,_⟩|⟨_,e,_⟩|⟨_,e,_⟩|⟨a,b,e,_⟩|⟨a,b,e,_⟩<;>cases e
theorem Zii{f:Fl}(h:K 2 (nd f .nil)):f.kind=QE:=by
 rcases K.inv2 h with⟨a,b,e,_⟩|⟨_,hf,_⟩
 ·cases e
 ·exact hf
theorem Zoo{Pb n0:Nat}{W:World}{x:Value}{l:List (Value×Value)}(h:Lay Pb n0 W x l):∃g cap,x= .slice (some ⟨g,0,none⟩) l.length cap/\∀i (hi:i<l.length),W.cell? ⟨g,i*2,none⟩=some l[i].1/\W.cell? ⟨g,i*2+1,none⟩=some l[i].2:=by
 obtain⟨g,cap,h1,_,_,_,h5⟩:=h;exact⟨g,cap,h1,h5⟩
theorem ZKU{Pb n0:Nat}{W0:World}{i f w g h:Value}{is fs gs:List (Value×Value)}{ti tf tg tw th:Tr}{b c:Bool}(h1:c=true/\i= .slice none 0 0/\is= []\/c=false/\is≠ []/\Lay Pb n0 W0 i is)(h2:fs≠ []/\Lay Pb n0 W0 f fs)(h3:g= .slice none 0 0/\gs= []\/gs≠ []/\Lay Pb n0 W0 g gs)
  (hf:Zl Pb n0 W0 (.srs fs) tf)(hg:Zl Pb n0 W0 (.cls gs) tg){L:List (Value×Za×Tr)}(e1:is=L.map itV)(e2:elems ti=L.map JU)(e3:∀p∈L,XK p.1 p.2.2/\Ua p.2.2/\UW p.1 p.2.2/\∃n y,p.1= .iface n y)(e4:sz ti=(L.map fun p=>1+sz p.2.2).sum)(e5:ZL ti=L.any fun p=>ZL p.2.2)
  (hz:Zy 400 (.node {kind:= [115,101,108,101,99,116],star:=c,ZU:=b} .nil ti tf tg tw th))(hsz:sz (.node {kind:= [115,101,108,101,99,116],star:=c,ZU:=b} .nil ti tf tg tw th)<=100000)
  (hw:(w= .nilIface/\tw= .nil)\/((∃n y,w= .iface n y)/\Vw W0 w tw))(hh:(h= .nilIface/\th= .nil)\/((∃n y,h= .iface n y)/\Vw W0 h th)):∃YY YT,ZdY W0 i f g w h c ti tf tg tw th L YY YT:=by
 obtain⟨YY,f1,f2⟩:=Zwf hf;obtain⟨YT,g1,g2⟩:=Zwe hg;obtain⟨_,hgl,_,zi,zf,zg,_,_⟩:=hz;have ZDL:tg.len<=400:=hgl rfl;have key:∀(t:Tr) (nd':Za×Za->Tr) (ps:List (Za×Za)),elems t=ps.map nd'->ps.length=t.len:=fun t nd' ps e=>by rw[<-Ey,e,ZW5]
 have Zu3:∀t:Tr,(∀z∈elems t,1<=sz z)->t.len<=sz t:=by
  intro t;induction t with
  |nil=>intro _;exact ZTh
  |node=>intro _;exact ZTh
  |cons a r _ ih=>
   intro hz;have h1:=hz a ZQM;have h2:=ih (fun z h=>hz z (by simp[elems,h]));simp only[Tr.len,sz];omega
 have hsz':sz ti+sz tf<=100000:=by simp only[sz]at hsz;omega
 have hfl:YY.length<=100000:=by
  rw[key _ _ _ f2];have:=Zu3 tf (fun z h=>by rw[f2]at h;obtain⟨p,_,rfl⟩:=ZXj.1 h;simp[Zal,nd,sz]);omega
 have hil:L.length<=100000:=by
  have h1:L.length=ti.len:=by rw[<-Ey,e2,ZW5]
  have:=Zu3 ti (fun z h=>by rw[e2]at h;obtain⟨p,_,rfl⟩:=ZXj.1 h;simp[JU,nd,sz]);omega
 have Zxt:∀(t:Tr),Zy 400 t->∀z∈elems t,Zy 400 z:=by
  intro t;induction t with
  |nil=>intro _ z h;cases h
  |node=>intro _ z h;cases h
  |cons a r _ ih=>
   intro hz z h;rcases ZW3.1 h with rfl|h
   ·exact hz.1
   ·exact ih hz.2 z h
 refine⟨YY,YT,?_,fun p hp=>⟨(e3 p hp).1,(e3 p hp).2.2.1,(e3 p hp).2.2.2⟩,e2,e4,e5,hil,?_,f2,fun p hp=>?_,hfl,?_,g2,fun p hp=>?_,by rw[key _ _ _ g2];exact ZDL,hw,hh⟩
 ·rcases h1 with⟨a1,a2,a3⟩|⟨a1,a2,a3⟩
  ·refine .inl ⟨a1,a2,?_⟩;rw[e1]at a3;exact List.map_eq_nil_iff.1 a3
  ·obtain⟨gb,cap,rfl,hc⟩:=Zoo a3;subst e1;refine .inr ⟨a1,fun e=>a2 ZPP,gb,cap,ZQy,fun j hj=>?_⟩;exact ZVe
 ·obtain⟨gb,cap,rfl,hc⟩:=Zoo h2.2;subst f1;refine⟨gb,cap,ZQy,fun j hj=>?_⟩;exact ZVe
 ·have:=Zxt tf zf (Zal p) (by rw[f2];exact ZXj.2 ⟨p,hp,rfl⟩);exact⟨ZW0 this.1.1 U,ZW0 this.1.2.2 U⟩
 ·rcases h3 with⟨a1,a2⟩|⟨a1,a2⟩
  ·rw[a2]at g1;have:YT= []:=List.map_eq_nil_iff.1 g1.symm;subst this;exact⟨none,0,a1,fun j hj=>by cases hj⟩
  ·obtain⟨gb,cap,rfl,hc⟩:=Zoo a2;subst g1;refine⟨some ⟨gb,0,none⟩,cap,ZQy,fun j hj=>⟨gb,rfl,?_⟩⟩;exact ZVe
 ·have:=Zxt tg zg (Ev p) (by rw[g2];exact ZXj.2 ⟨p,hp,rfl⟩);exact ZW0 this.1.1 U
theorem ZKy{Pb n0:Nat}{W0:World}{r:RK}{t:Tr}(h:Zl Pb n0 W0 r t):Pk W0 r t:=by
 induction h with
 |joined hs _ _ i1 i2=>
  intro hz hsz;rw[Zgb]at hsz;obtain⟨z1,z2⟩:=Zf9 hz;have j1:=i1 z1 U;have j2:=i2 z2 U;refine⟨fun hk=>?_,fun hk=>?_,fun hk=>?_⟩
  ·exact ZTA
  ·rcases Zgf hk with⟨hf,_⟩|⟨hf,_⟩|⟨hf,_⟩
   ·exact ZTD
   ·exact ZTC
   ·exact ZTD
  ·obtain⟨_,k1,k2⟩:=Zgg hk;obtain⟨q1,t1,f1⟩:=j1.2.2 k1;obtain⟨q2,t2,f2⟩:=j2.2.2 k2;have hns:∀x∈UK,x≠QE:=by decide
   exact⟨ZJt _ _ _ _ _ _ _ (hns _ hs) q1 q2 t1 t2 f1 f2,ZJr (hns _ hs) _ _ _ t1 t2,_,_,rfl⟩
 |ZaT hs _ _ i1 i2=>
  intro hz hsz;rw[Zgb]at hsz;obtain⟨z1,z2⟩:=Zf9 hz;have j1:=i1 z1 U;have j2:=i2 z2 U;refine⟨fun hk=>?_,fun hk=>?_,fun hk=>?_⟩
  ·exact ZTA
  ·rcases Zgf hk with⟨hf,k1,k2⟩|⟨hf,_⟩|⟨hf,_⟩
   ·obtain⟨q1,f1⟩:=j1.2.1 k1;obtain⟨q2,f2⟩:=j2.2.1 k2;exact⟨ZBk _ _ _ _ _ hs q1 q2 f1 f2,_,_,rfl⟩
   ·exact ZTC
   ·exact ZTD
  ·exact ZTB
 |arith hs _ _ i1 i2=>
  intro hz hsz;rw[Zgb]at hsz;obtain⟨z1,z2⟩:=Zf9 hz;have j1:=i1 z1 U;have j2:=i2 z2 U;refine⟨fun hk=>?_,fun hk=>?_,fun hk=>?_⟩
  ·obtain⟨_,k1,k2⟩:=Zge hk;obtain⟨q1,t1,a1,f1⟩:=j1.1 k1;obtain⟨q2,t2,a2,f2⟩:=j2.1 k2;exact⟨ZCc _ _ _ _ _ hs q1 q2 t1.ok t2.ok f1 f2,ZMC hs _ _,ZDr _ _ _ _ _ hs a1 a2 f1 f2,_,_,rfl⟩
  ·rcases Zgf hk with⟨hf,_⟩|⟨hf,_⟩|⟨hf,_⟩
   ·exact ZTD
   ·exact ZTC
   ·exact ZTD
  ·exact ZTB
 |compare _ _ i1 i2=>
  intro hz hsz;rw[Zgb]at hsz;obtain⟨z1,z2⟩:=Zf9 hz;have j1:=i1 z1 U;have j2:=i2 z2 U;have hs:ZbK∈ [ZbK]:=ZXh.2 rfl;refine⟨fun hk=>?_,fun hk=>?_,fun hk=>?_⟩
  ·exact ZTA
  ·rcases Zgf hk with⟨hf,_⟩|⟨_,k1,k2⟩|⟨hf,_⟩
   ·exact ZTD
   ·obtain⟨q1,t1,a1,f1⟩:=j1.1 k1;obtain⟨q2,t2,a2,f2⟩:=j2.1 k2;exact⟨ZBg _ _ _ _ _ q1 q2 t1.ok t2.ok f1 f2,_,_,rfl⟩
   ·exact ZTD
  ·exact ZTB
 |not_ _ i1=>
  intro hz hsz;rw[Zga]at hsz;have j1:=i1 (Zf8 hz) U;refine⟨fun hk=>?_,fun hk=>?_,fun hk=>(Ziq hk).elim⟩
  ·rcases(Zin hk).1 with hf|hf
   ·exact absurd (show ZaR=ZcG from hf) ZPl
   ·exact absurd (show ZaR∈Yf from hf) ZPl
  ·rcases Zio hk with⟨_,k1⟩|⟨hf,_⟩|⟨hf,_⟩
   ·obtain⟨q1,f1⟩:=j1.2.1 k1;exact⟨ZBm _ _ q1 f1,_,_,rfl⟩
   ·exact absurd (show ZaR=ZaP from hf) ZPl
   ·exact absurd (show ZaR=ZaQ from hf) ZPl
 |neg _ i1=>
  intro hz hsz;rw[Zga]at hsz;have j1:=i1 (Zf8 hz) U;refine⟨fun hk=>?_,fun hk=>?_,fun hk=>(Ziq hk).elim⟩
  ·obtain⟨q1,t1,a1,f1⟩:=j1.1 (Zin hk).2;exact⟨ZCe _ _ q1 t1.ok f1,ZME _,ZDt _ _ a1 f1,_,_,rfl⟩
  ·rcases Zio hk with⟨hf,_⟩|⟨hf,_⟩|⟨hf,_⟩
   ·exact absurd (show ZcG=ZaR from hf) ZPl
   ·exact absurd (show ZcG=ZaP from hf) ZPl
   ·exact absurd (show ZcG=ZaQ from hf) ZPl
 |Zgk hs _ _ i1 i2=>
  intro hz hsz;rw[Zgb]at hsz;obtain⟨z1,z2⟩:=Zf9 hz;have j1:=i1 z1 U;have j2:=i2 z2 U;refine⟨fun hk=>?_,fun hk=>?_,fun hk=>?_⟩
  ·exact ZTA
  ·rcases Zgf hk with⟨hf,_⟩|⟨hf,_⟩|⟨_,k1,k2⟩
   ·exact ZTD
   ·exact ZTC
   ·obtain⟨q1,t1,a1,f1⟩:=j1.1 k1;obtain⟨q2,t2,f2⟩:=j2.2.2 k2;exact⟨ZBn _ _ _ _ _ _ hs q1 q2 t1.ok t2 f1 f2,_,_,rfl⟩
  ·exact ZTB
 |Yt _ _ i1 i2=>
  intro hz hsz;rw[Zgb]at hsz;obtain⟨z1,z2⟩:=Zf9 hz;have j1:=i1 z1 U;have j2:=i2 z2 U;have hs:([105,110]:Za)∈([[105,110]]:List Za):=ZPl
  refine⟨fun hk=>?_,fun hk=>?_,fun hk=>?_⟩
  ·exact ZTA
  ·rcases Zgf hk with⟨hf,_⟩|⟨hf,_⟩|⟨_,k1,k2⟩
   ·exact ZTD
   ·exact absurd (show([105,110]:Za)=ZbK from hf) ZPl
   ·obtain⟨q1,t1,a1,f1⟩:=j1.1 k1;obtain⟨q2,t2,f2⟩:=j2.2.2 k2;exact⟨ZBi _ _ _ _ _ q1 q2 t1.ok t2 f1 f2,_,_,rfl⟩
  ·exact ZTB
 |Xu _ i1=>
  intro hz hsz;rw[Zga]at hsz;have j1:=i1 (Zf8 hz) U;refine⟨fun hk=>?_,fun hk=>?_,fun hk=>(Ziq hk).elim⟩
  ·rcases(Zin hk).1 with hf|hf
   ·exact absurd (show ZaP=ZcG from hf) ZPl
   ·exact absurd (show ZaP∈Yf from hf) ZPl
  ·rcases Zio hk with⟨hf,_⟩|⟨_,k1⟩|⟨hf,_⟩
   ·exact absurd (show ZaP=ZaR from hf) ZPl
   ·obtain⟨q1,t1,f1⟩:=j1.2.2 k1;exact⟨ZBh _ _ q1 f1,_,_,rfl⟩
   ·exact absurd (show ZaP=ZaQ from hf) ZPl
 |isNull _ i1=>
  intro hz hsz;rw[Zga]at hsz;have j1:=i1 (Zf8 hz) U;refine⟨fun hk=>?_,fun hk=>?_,fun hk=>(Ziq hk).elim⟩
  ·rcases(Zin hk).1 with hf|hf
   ·exact absurd (show ZaQ=ZcG from hf) ZPl
   ·exact absurd (show ZaQ∈Yf from hf) ZPl
  ·rcases Zio hk with⟨hf,_⟩|⟨hf,_⟩|⟨_,k1⟩
   ·exact absurd (show ZaQ=ZaR from hf) ZPl
   ·exact absurd (show ZaQ=ZaP from hf) ZPl
   ·obtain⟨q1,t1,a1,f1⟩:=j1.1 k1;exact⟨ZBj _ _ _ q1 f1,_,_,rfl⟩
 |num=>
  intro hz hsz;exact⟨fun _=>⟨ZCg _,ZMG _,Znx _ _ (by simp[ZL,nd,Yf,Yh]),_,_,rfl⟩,fun hk=>(Zih hk).elim,fun hk=>absurd (show Yh=QE from Zii hk) ZPl⟩
 |text=>
  intro hz hsz;exact⟨fun _=>⟨ZCj _,ZMI _,Znx _ _ (by simp[ZL,nd,Yf,Yd]),_,_,rfl⟩,fun hk=>(Zih hk).elim,fun hk=>absurd (show Yd=QE from Zii hk) ZPl⟩
 |null=>
  intro hz hsz;exact⟨fun _=>⟨ZCf,ZMF,Znx _ _ (by simp[ZL,nd,Yf]),_,_,rfl⟩,fun hk=>(Zih hk).elim,fun hk=>absurd (show([110,117,108,108]:Za)=QE from Zii hk) ZPl⟩
 |column=>
  intro hz hsz;exact⟨fun _=>⟨ZCd _ _ (ZW0 hz.1.1 U),ZMD _ _,ZDs _ _ (by simp[ZL,nd,Yf]),_,_,rfl⟩,fun hk=>(Zih hk).elim,fun hk=>absurd (show([99,111,108,117,109,110]:Za)=QE from Zii hk) ZPl⟩
 |star=>
  intro hz hsz;exact⟨fun _=>⟨ZCi,ZMH,Zti _ _ (.inl rfl) _ (by simp[ZL,nd,Yf]),_,_,rfl⟩,fun hk=>(Zih hk).elim,fun hk=>absurd (show([99,111,117,110,116]:Za)=QE from Zii hk) ZPl⟩
 |agg hs _ i1=>
  intro hz hsz;rw[Zga]at hsz;have j1:=i1 (Zf8 hz) U;refine⟨fun hk=>?_,fun hk=>?_,fun hk=>(Ziq hk).elim⟩
  ·obtain⟨q1,t1,a1,f1⟩:=j1.1 (Zin hk).2;exact⟨ZCb _ _ _ hs q1 t1.ok f1,ZMB hs _ t1,Zti _ _ (.inr f1) _ (by rw[nd,ZL,ZXX (by exact hs),Bool.true_or]),_,_,rfl⟩
  ·rcases Zio hk with⟨hf,_⟩|⟨hf,_⟩|⟨hf,_⟩
   ·exact(apart hs (show _∈ [ZaR] from ZXh.2 hf) ZPl).elim
   ·exact(apart hs (show _∈ [ZaP] from ZXh.2 hf) ZPl).elim
   ·exact(apart hs (show _∈ [ZaQ] from ZXh.2 hf) ZPl).elim
 |select h1 h2 h3 hi hf hg h4 h5 hw hh i1 i2 i3 i4 i5=>
  intro hz hsz;have hz':=hz;obtain⟨_,_,_,zi,_,_,zw,zh⟩:=hz';have hsz2:=hsz;simp only[sz]at hsz2;refine⟨fun hk=>?_,fun hk=>?_,fun hk=>?_⟩
  ·rcases K.inv0 hk with⟨_,hf⟩|⟨_,e,_⟩|⟨a,b,e,_⟩
   ·exact absurd (show QE∈ZdB from hf) ZPl
   ·cases e
   ·cases e
  ·rcases K.inv1 hk with⟨a,b,e,_⟩|⟨_,e,_⟩|⟨_,e,_⟩|⟨_,e,_⟩|⟨a,b,e,_⟩|⟨a,b,e,_⟩<;>cases e
  ·rcases K.inv2 hk with⟨a,b,e,_⟩|⟨_,_,k3,kw,kh⟩
   ·cases e
   ·obtain⟨L,e1,e2,e3,e4,e5⟩:=i1 zi U k3;have ZrZ:∀{x:Value} {tx:Tr},(x= .nilIface/\tx= .nil\/x≠.nilIface/\tx.isNode=true)->K 5 tx->(x≠.nilIface->Pk W0 (.v x) tx)->Zy 400 tx->sz tx<=100000->(x= .nilIface/\tx= .nil)\/((∃n y,x= .iface n y)/\Vw W0 x tx):=fun ho hk hp hzx hsx=>by
     rcases ho with ho|⟨hn,ZD4⟩
     ·exact .inl ho
     ·rcases K.ZEZ hk with rfl|hk1
      ·cases ZD4
      ·obtain⟨q,f⟩:=(hp hn hzx hsx).2.1 hk1;exact .inr ⟨f,q⟩
    obtain⟨YY,YT,hS⟩:=ZKU h1 h2 h3 hf hg e1 e2 e3 e4 e5 hz hsz (ZrZ h4 kw i4 zw U) (ZrZ h5 kh i5 zh U);exact⟨ZJu hS,ZJs rfl e2 (fun p hp=>(e3 p hp).2.1),_,_,rfl⟩
 |EI=>
  intro hz hsz hk;exact⟨[],rfl,rfl,(fun p h=>ZPs),rfl,rfl⟩
 |Kg hx hr i1 i2=>
  rename_i v s r t ts;intro hz hsz hk;obtain⟨k4,k3⟩:=K.ZEX hk;have k0:=K.ZEY k4;simp only[sz]at hsz;have hst:sz t<=sz (nd {kind:= [105,116,101,109],Zx:=s} (l1 t)):=by rw[Zga];omega
  obtain⟨q1,t1,a1,f1⟩:=(i1 (Zf8 hz.1) U).1 k0;obtain⟨L,e1,e2,e3,e4,e5⟩:=i2 hz.2 U k3;refine⟨(v,s,t)::L,by rw[e1];rfl,by rw[elems,e2];rfl,fun p hp=>?_,?_,?_⟩
  ·rcases ZW3.1 hp with e|e
   ·subst e;exact⟨q1,t1,a1,f1⟩
   ·exact e3 p e
  ·rw[ZWZ,List.sum_cons,<-e4];simp[sz,nd,l1]
  ·rw[List.any_cons,<-e5];simp[ZL,nd,l1,Yf]
 |ZeR=>trivial
 |ZbT _ _=>trivial
 |Zdl=>trivial
 |Zbr _ _=>trivial
end Go.Proofs.YthmlacabmlghbaaGreatDoor
