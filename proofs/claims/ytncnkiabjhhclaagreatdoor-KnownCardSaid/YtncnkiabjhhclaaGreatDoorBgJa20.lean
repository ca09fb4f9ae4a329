import Derived.Test.YtncnkiabjhhclaaGreatDoorBgJa17
import Derived.Test.YtncnkiabjhhclaaGreatDoorBgKm
set_option maxRecDepth 100000
set_option maxHeartbeats 8000000
set_option linter.all false
namespace Go.Proofs.YtncnkiabjhhclaaGreatDoor
open Go.Proofs.Tryz
variable{xs:List Value}{B sz:Nat}{W w6:World}
def kD{p:Prop}(h:p:=by go_wp2_with fail;go_ret2;exact⟨by rw[Bz.out];rfl,HB.out⟩):p:=h
open Go.RowKit
def ZaD:vS:= [99,111,117,110,116]
def ZaH:vS:= [109,105,110]
def ZaG:vS:= [109,97,120]
def Zg2(name:vS)(vs:List wG)(met:Nat):Prop:=name≠ZaD->name≠ZaH->name≠ZaG->met=0->vs.filter (λv=>decide (v≠.null))≠ []->∃ns,vs.filter (λv=>decide (v≠.null))=KZ ns/\ZlR ns
def getD_map{α:Type}(l:List α)(f:α->Nat)(i)(h:i<l.length):(l.map f).getD i 0=f l[i]:=by
 rw[qI,rP,oW h];rfl
def ZOH{rn:Value}{e}{f}{K:Nat}{cap:Array Value}{up ms:List xE}{rs:List (wG×Nat)}(hf:zz W e f)(DJ:f= .func (.func K) #[] cap)(AZ:CR (λm=>BM e (m::up)) ms=some rs):
  ∀(i:Nat) (hi:i<ms.length) (W':World) (fp:Value),Nt.J i W'->Ao W' rn (ms[i]::up) fp->Nt.X W.heap.size W W'->Calls prog K (#[fp]++cap) W' λe W2=>∃v,e= .returned (.tuple #[v,.int .i64 ((rs.map λr=>r.2).getD i 0:Nat)])/\(∃t y,v= .iface t y)/\v=xe ((rs.map (·.1)).getD i .null)/\Nt.X W'.heap.size W' W2/\Nt.J (i+1) W2:=by
 intro i hi W' fp _ Dl hB;obtain⟨A9,hg⟩:=Q4 AZ;have KW:i<rs.length:=Z
 obtain⟨K',zY,e1,_,hc⟩:=Yd rn e W' f (ms[i]::up) fp rs[i] (hf.same (KT.vZ hB)) Dl (hg i hi KW);rw[DJ]at e1;cases e1;refine(hc W' (nW _ _)).mono ?_;rintro e2 W2 ⟨rfl,wK⟩;refine⟨xe rs[i].1,by rw[getD_map _ _ _ KW],Dp _,by rw[qI,rP,oW KW];rfl,wK,trivial⟩
def ZSg(W)(name)(e)(fv lv)(ms up)(q:Option Addr)(nt:TypeId)(ny:Value)(sp:Bool)(rs:List (wG×Nat))(hf:zz W e fv)(hl:Cq W lv ms)(zu:Ao W (.iface nt ny) up (.pointer q))(Fa:ms.length<=64)(AZ:CR (λm=>BM e (m::up)) ms=some rs)(ok:Zg2 name (rs.map (·.1)) (xG (rs.map (·.2)))):
  Calls prog 188 #[.agg #[.string ⟨name.toArray⟩,fv],.agg #[.slice none 0 0,.slice none 0 0,.pointer q,.iface nt ny,.bool sp],lv] W λen W'=>en= .returned (.tuple #[xe (Zbs name (rs.map (·.1)) (xG (rs.map (·.2)))).1,.int .i64 (Zbs name (rs.map (·.1)) (xG (rs.map (·.2)))).2])/\vV W W':=by
 obtain⟨K,cap,DJ,hE⟩:=hf.func;obtain⟨A9,_⟩:=Q4 AZ;have HEA:=vR (λW1 (hB:vV W W1)=>ZG4 Nt W1 ms lv q nt ny up sp K cap (rs.map (·.2)) (λi v _=>v=xe ((rs.map (·.1)).getD i .null)) Fa (by simp[A9]) hE (hl.same (KT.vZ hB)) (zu.same (KT.vZ hB)) trivial (λ_ _ _ _ _ h=>h) (λ_ _ _ _ _ _ _ _ h _ _=>h)
  (ZOH (hf.same (KT.vZ hB)) DJ AZ))
 have Hu:(rs.map (·.1)).length=ms.length:=by simp[A9]
 generalize rs.map (·.1)=vs at *;generalize xG (rs.map (·.2))=met at *;obtain⟨la,lc,rfl,zQ,_⟩:=hl;subst DJ;clear zu hE hf AZ;have HF:Hid (Zbs name vs met=if met≠0\/(name≠ZaD/\vs.filter (λv=>decide (v≠.null))= [])then(.null,met)else if name=ZaD then(.int (vs.filter (λv=>decide (v≠.null))).length,0)else if name=ZaH then(Oi (vs.filter (λv=>decide (v≠.null))),0)else if name=ZaG then(Oh (vs.filter (λv=>decide (v≠.null))),0)else Ot (vs.filter (λv=>decide (v≠.null)))):=rfl;generalize Zbs name vs met=ag at *;go_enter func188,ntmps188;go_wp2_with fail;have yx:vV W ((W.alloc (.cells #[.string ⟨name.toArray⟩,.func (.func K) #[] cap] 402)).alloc (.cells #[.slice none 0 0,.slice none 0 0,.pointer q,.iface nt ny,.bool sp] 218)):=((nW _ _).alloc (nV _) _).alloc ae _;obtain⟨a1,a2⟩:=J6 W (.cells #[.string ⟨name.toArray⟩,.func (.func K) #[] cap] 402) (.cells #[.slice none 0 0,.slice none 0 0,.pointer q,.iface nt ny,.bool sp] 218);refine(HEA.out _ yx).mono ?_;rintro en w1 ⟨g1,Au,rfl,OZ,_,yU,CZ,UN⟩;have OZ:Below _ _ w1:=OZ;have xX:=yx.trans (OZ.mono yx.size);have Bq:w1.heap[W.heap.size]? =_:=(OZ.block W.heap.size ah).trans a1;have Fq:W.heap.size<g1:=by simp at UN;omega
 have HD:=vR (ZIo w1 g1 vs Au yU (by
   by_cases h0:vs.length=0
   ·omega
   ·obtain⟨v,hv,_⟩:=CZ (vs.length-1) Z;have:=(wo hv);omega) (λi hi=>by
   obtain⟨v,hv,e⟩:=CZ i Z;rw[hv,e,qI,oW hi];rfl) Z)
 rw[Hu]at HD;have BD:=Jn;clear HEA yx OZ yU CZ UN a1 a2;go_wp2_with fail;refine HD.out.mono ?_;rintro en w2 ⟨rv,rfl,Bt,wK⟩;have ZoB:w2.cell? ⟨W.heap.size,0,none⟩=some (.string ⟨name.toArray⟩):=by
  have:=(wK.block W.heap.size Fq).trans Bq;simp[World.cell?,this]
 have HB:=vR (xX.trans (wK.mono Z));have Mg:=vR Bt;have ET:=vR ok;have Jf:(vs.filter (λv=>decide (v≠.null))).length<=64:=by have:=List.length_filter_le (λv=>decide (v≠wG.null)) vs;omega
 unfold Zg2 at ET;generalize vs.filter (λv=>decide (v≠.null))=us at *;obtain⟨ra,rc,rfl,_⟩:=Bt;clear Bq wK xX HD ok;by_cases UU:met=0
 ·subst UU;by_cases hc:name=ZaD
  ·subst hc;have Bz:Hid (ag=(.int us.length,0)):=by show _=_;rw[HF.out,nU ae,nY rfl]
   clear HF;unfold ZaD at ZoB;exact kD
  ·have b1:(name== [99,111,117,110,116])=false:=by simpa[ZaD]using hc
   by_cases he:us= []
   ·subst he;have Bz:Hid (ag=(.null,0)):=by show _=_;rw[HF.out,nY (.inr ⟨hc,rfl⟩)]
    clear HF hc;exact kD
   ·have Jg:=rW.2 he;have El:((us.length:Int)==0)=false:=by simp;omega
    have Bz:Hid (ag=if name=ZaH then(Oi us,0)else if name=ZaG then(Oh us,0)else Ot us):=by
     show _=_;rw[HF.out,nU (by simp[he]),nU hc]
    by_cases h1:name=ZaH
    ·subst h1;have JX:Hid (ag=(Oi us,0)):=by show _=_;rw[Bz.out,nY rfl]
     have HM:=vR (ZIt w2 _ us Mg.out Z Jg);obtain⟨t1,y1,yB⟩:=Dp (Oi us);rw[yB]at HM;have Et:=vR yB;clear HF Bz hc he yB;unfold ZaH at ZoB b1;go_wp2_with fail;refine HM.out.mono ?_;rintro en w3 ⟨rfl,rfl⟩;go_wp2_with fail;go_ret2;exact⟨by rw[JX.out];show _=Ending.returned (.tuple #[xe (Oi us),_]);rw[Et.out];rfl,HB.out⟩
    ·have b2:(name== [109,105,110])=false:=by simpa[ZaH]using h1
     by_cases h2:name=ZaG
     ·subst h2;have JX:Hid (ag=(Oh us,0)):=by show _=_;rw[Bz.out,nU h1,nY rfl]
      have HM:=vR (ZIs w2 _ us Mg.out Z Jg);obtain⟨t1,y1,yB⟩:=Dp (Oh us);rw[yB]at HM;have Et:=vR yB;clear HF Bz hc he yB h1;unfold ZaG at ZoB b1 b2;go_wp2_with fail;refine HM.out.mono ?_;rintro en w3 ⟨rfl,rfl⟩;go_wp2_with fail;go_ret2;exact⟨by rw[JX.out];show _=Ending.returned (.tuple #[xe (Oh us),_]);rw[Et.out];rfl,HB.out⟩
     ·have b3:(name== [109,97,120])=false:=by simpa[ZaG]using h2
      have JX:Hid (ag=Ot us):=by show _=_;rw[Bz.out,nU h1,nU h2]
      obtain⟨ns,hns,hso⟩:=ET.out hc h1 h2 rfl he;have YH:=Mg.out;rw[hns]at YH;have QP:us.length=(KZ ns).length:=by rw[hns]
      have HM:Hid (Calls prog 254 #[.slice ra us.length rc] w2 λe W'=>e= .returned (.tuple #[xe (Ot us).1,.int .i64 (Ot us).2])/\vV w2 W'):=by
       have:=ZSh w2 _ ns YH hso;rw[<-hns]at this;exact this
      obtain⟨t1,y1,yB⟩:=Dp (Ot us).1;rw[yB]at HM;have Et:=vR yB;clear HF Bz hc he yB h1 h2 hns QP YH ET hso;generalize hS:Ot us=S at *;clear hS;go_wp2_with fail;refine HM.out.mono ?_;rintro en w3 ⟨rfl,wH⟩;go_wp2_with fail;go_ret2;exact⟨by rw[JX.out,Et.out];rfl,HB.out.trans (wH.mono HB.out.size)⟩
 ·have Bz:Hid (ag=(.null,met)):=by show _=_;rw[HF.out,nY (.inl UU)]
  have Dm:((met:Int)==0)=false:=by simp;omega
  have MN:((met:Int) != 0)=true:=by simp;omega
  clear HF UU;exact kD
def ZkN(up:List xE)(made:List (vS×PX))(ms:List xE)(vs:List (wG×Nat)):Prop:=ms.length<=64/\vs.length=made.length/\∀j (h:j<made.length) (h':j<vs.length),∃rs,CR (λm=>BM made[j].2 (m::up)) ms=some rs/\Zg2 made[j].1 (rs.map (·.1)) (xG (rs.map (·.2)))/\vs[j]=Zbs made[j].1 (rs.map (·.1)) (xG (rs.map (·.2)))
def WS(ms:List xE)(vs:List (wG×Nat)):xE:=⟨(ms.head?.map xE.row).getD [],vs.map (·.1)⟩
def ZKh(l:List xE)(h:0<l.length):(l.head?.map xE.row).getD []=l[0].row:=by
 cases l with
 |nil=>simp at h
 |cons f r=>rfl
def xD.XC{u}{us}{e n:Nat}{v:Value}{o:Obj}(h:xD W u us)(wD:W.ownsRow B e sz v n xs)(hg:(W.alloc o).grownBy w6 v.ownBlock)(he:e≠80:=by decide):xD w6 u us:=by
 refine xD.same (ts:= [80]) ?_ ae h;exact Z0B
theorem JW.XC{cs}{l}{e n:Nat}{v:Value}{o:Obj}(h:JW W cs l)(wD:W.ownsRow B e sz v n xs)(hg:(W.alloc o).grownBy w6 v.ownBlock)(he:e≠80:=by decide):JW w6 cs l:=⟨h.1,λi h1 h2=>⟨(h.2 i h1 h2).1.XC wD hg he,(h.2 i h1 h2).2.XC wD hg he⟩⟩
def ZOi(l)(a):xG (l++ [a])=MS (xG l) a:=by unfold xG;rw[qN];rfl
def ZIp(W:World)(b:Nat)(cu:Array Value)(kv mv lv:Value)(made)(up)(l:List xE)(q:Option Addr)(nt:TypeId)(ny:Value)(sp:Bool)(gs:List (List xE))(ED:List (List (wG×Nat)))(hb:W.heap[b]? =some (.cells cu 259))(h4:cu[4]? =some kv)(h5:cu[5]? =some mv)(hm:Tw W mv made)(zu:Ao W (.iface nt ny) up (.pointer q))(hT:∀W',Below W.heap.size W W'->Calls prog 187 #[kv,lv] W' λe W2=>∃v,e= .returned v/\ZkO W2 v gs/\Below W'.heap.size W' W2)(LG:∃a n c,kv= .slice a n c)(JH:∃a n c,lv= .slice a n c)(xL:gs.length<=64)(AA:ED.length=gs.length)(AZ:∀i (h:i<gs.length) (h':i<ED.length),ZkN up made gs[i] ED[i]):
  Calls prog 126 #[vU b,.agg #[.slice none 0 0,.slice none 0 0,.pointer q,.iface nt ny,.bool sp],lv] W λe W'=>∃ev,e= .returned (.tuple #[ev,.int .i64 (xG (ED.flatMap λvs=>vs.map (·.2)))])/\Cq W' ev ((gs.zip ED).map λp=>WS p.1 p.2)/\Below W.heap.size W W':=by
 have zi:=(oz.1 hb).1;have c4:W.cell? ⟨b,4,none⟩=some kv:=by simp[World.cell?,hb,h4]
 have c5:W.cell? ⟨b,5,none⟩=some mv:=by simp[World.cell?,hb,h5]
 have HT:=vR hT;have HM:=vR hm;have HU:=vR zu;have HEV:=vR AZ;obtain⟨ka,kn,kc,rfl⟩:=LG;obtain⟨la,ln,lc,rfl⟩:=JH;obtain⟨ma,mc,rfl,Hu,_⟩:=hm;obtain⟨i0,zB,hz0,yo,hz2⟩:=oM Tryz.ZjR;obtain⟨i1,Kj,hy0,GK,hy2⟩:=oM Tryz.U6;clear hT zu AZ hb h4 h5;unfold vU;go_enter func126,ntmps126;have zA:Below W.heap.size W (W.alloc (.cells #[.slice none 0 0,.slice none 0 0,.pointer q,.iface nt ny,.bool sp] 218)):=(nW _ _).alloc (nV _) _;have d4:=λob=>(oD W ob ⟨b,4,none⟩ zi).trans c4;go_wp2_with fail;refine(HT.out _ zA).mono ?_;rintro e w1 ⟨v,rfl,hG,wE⟩;have HG:=vR hG;obtain⟨ga,gc,rfl,_,_⟩:=hG;have Dl:=(wE.block _ ae).trans (xI W _);have VX:=vR (zA.trans (wE.mono zA.size));have HFR:=vR Dl;clear Dl wE zA HT d4;go_wp2_with fail;go_loopg [8,9,24] (gs.length+1) (λgk v m iv wr=>∃(k mm:Nat) (Al:List (Value×Value)),k<=gs.length/\gk=gs.length-k+1/\iv= .int .i64 k/\m= .int .i64 mm/\wr.ownsRow w1.heap.size 214 2 v Al.length (G9 Al)/\Below w1.heap.size w1 wr/\Al.length=k/\Hid (JW wr Al (((gs.zip ED).take k).map λp=>WS p.1 p.2)/\xG ((ED.take k).flatMap λvs=>vs.map (·.2))=mm));case atStart=>exact⟨0,0, [],Z,Z,rfl,rfl,⟨rfl,.inl ⟨rfl,rfl⟩⟩,nW _ _,rfl,⟨rfl,λi h=>ax⟩,rfl⟩
 case round=>
  obtain⟨k,mm,Al,hk,rfl,rfl,rfl,wD,hB,zM,hI⟩:=hrel;have yA:=hB.size;by_cases hlt:k<gs.length
  ·obtain⟨a',c',ee,_,h3⟩:=HG.out;cases ee;obtain⟨g,gcu,mv,rfl,hg,hc,hE⟩:=h3 k hlt;have ZKB:=(oz.1 hg).1;have d0:=(hB.cell (p:=⟨g,k,none⟩) ZKB).trans hc;have HE:=vR hE;obtain⟨na,nc,rfl,_,hE3⟩:=hE;have HE3:=vR hE3;have yX:=xI wr (.cells #[.slice none 0 0,.slice none 0 0] 214);have OW:=(nW wr.heap.size wr).alloc (nV _) (.cells #[.slice none 0 0,.slice none 0 0] 214);clear h3 hc hg hE3;go_upto_if 30 with fail
   go_cut [] (λwx=>∃rv,wx.heap[wr.heap.size]? =some (.cells #[rv,.slice none 0 0] 214)/\Below wr.heap.size wr wx/\(∃a n c,rv= .slice a n c)/\Hid (xD w1 rv ((gs[k].head?.map xE.row).getD [])));case first=>
    by_cases wF:gs[k]= []
    ·have hn:¬((0:Int)<(gs[k].length:Int)):=by rw[wF];simp
     have Mc:=vR wF;clear wF;go_wp2_with fail;go_meet;refine⟨_,yX,OW,⟨_,_,_,rfl⟩,?_⟩;show xD _ _ _;rw[Mc.out];exact⟨none,0,rfl,ae,Z,λi hi=>dD⟩
    ·have hp':=rW.2 wF;have hp:(0:Int)<(gs[k].length:Int):=by omega
     obtain⟨eg,eo,ecu,erv,emv,rfl,he,he0,_,AZ,_⟩:=HE3.out 0 hp';have hel:=(oz.1 he).1;have ZBZ:Hid (xD w1 erv ((gs[k].head?.map xE.row).getD [])):=by
      show xD _ _ _;rw[ZKh _ hp'];exact AZ
     have f0:=λob=>(oD wr ob ⟨eg,eo,none⟩ (show eg<wr.heap.size by omega)).trans ((hB.cell (p:=⟨eg,eo,none⟩) hel).trans (by simpa using he0));obtain⟨ra,rc,rfl,_⟩:=AZ;clear wF he he0;go_wp2_with fail;go_meet;exact⟨_,xI wr _,(nW wr.heap.size wr).alloc (nV _) _,⟨_,_,_,rfl⟩,ZBZ.out⟩
   case rest=>
    obtain⟨rv,GH,Ha,⟨ra,rn,rc,rfl⟩,Bt⟩:=hcut;obtain⟨wx,Ll⟩:∃wx,wx=wc:=⟨_,rfl⟩;subst Ll;have hwx:=Ha.size;have c5x:=(Ha.cell (p:=⟨b,5,none⟩) (show b<wr.heap.size by have:=VX.out.size;omega)).trans ((hB.cell (p:=⟨b,5,none⟩) (show b<w1.heap.size by have:=VX.out.size;omega)).trans ((VX.out.cell (p:=⟨b,5,none⟩) zi).trans c5));clear yX OW;have ZwQ:k<ED.length:=Z
    obtain⟨e64,evl,evj⟩:=HEV.out k hlt ZwQ;generalize IJ:ED[k]=vs at *;generalize ZfO:(ED.take k).flatMap (λvs=>vs.map (·.2))=pre at *;have ZXe:=(Ha.block _ (by have:=VX.out.size;have:=(oz.1 HFR.out).1;omega)).trans ((hB.block _ (oz.1 HFR.out).1).trans HFR.out);have hWl:=(oz.1 HFR.out).1;have ZB0:=vR evj;have Zll:=vR ZfO;have TQ:=vR IJ;have ZKx:=(oz.1 GH).1;clear evj ZfO IJ;go_wp2_with fail;generalize Zn9:wr.heap.size=gb at *;obtain⟨wy,ewy⟩:∃wy,wy=wr:=⟨_,rfl⟩;obtain⟨wz,WM⟩:∃wz,wz=wx:=⟨_,rfl⟩;rw[<-ewy]at Ha Zn9 hB wD hI;rw[<-WM]at ZKx hwx;go_loopg [9,41] (made.length+1) (λgk m iv wq=>∃(j m2:Nat) (mvv:Value),j<=made.length/\gk=made.length-j+1/\iv= .int .i64 j/\m= .int .i64 m2/\wq.heap[gb]? =some (.cells #[.slice ra rn rc,mvv] 214)/\wq.ownsRow wz.heap.size 80 1 mvv j (((vs.take j).map (·.1)).map xe)/\Below gb wy wq/\wz.heap.size<=wq.heap.size/\Hid (xG (pre++(vs.take j).map (·.2))=m2));case atStart=>exact⟨0,mm,.slice none 0 0,Z,Z,rfl,rfl,GH,⟨rfl,.inl ⟨rfl,rfl⟩⟩,Ha,by rw[WM];exact nV _,by simpa using vR hI.out.2⟩
    case round=>
     obtain⟨j,m2,mvv,hj,rfl,rfl,rfl,ZP,hmo,hBq,hzq,hle⟩:=hrel;have hgs:w1.heap.size<=gb:=by have:=hB.size;omega
     have WV:=hB.trans (hBq.mono hgs);have ZbS:=VX.out.trans (WV.mono VX.out.size);have hfq:=(WV.block _ hWl).trans HFR.out;have hWq:=(oz.1 hfq).1;have r0:∀ob,(wr.alloc ob).cell? ⟨W.heap.size,0,none⟩=some (.slice none 0 0):=λob=>(oD wr ob ⟨W.heap.size,0,none⟩ hWq).trans dE;have r1:∀ob,(wr.alloc ob).cell? ⟨W.heap.size,1,none⟩=some (.slice none 0 0):=λob=>(oD wr ob ⟨W.heap.size,1,none⟩ hWq).trans dE;have r2:∀ob,(wr.alloc ob).cell? ⟨W.heap.size,2,none⟩=some (.pointer q):=λob=>(oD wr ob ⟨W.heap.size,2,none⟩ hWq).trans dE;have r3:∀ob,(wr.alloc ob).cell? ⟨W.heap.size,3,none⟩=some (.iface nt ny):=λob=>(oD wr ob ⟨W.heap.size,3,none⟩ hWq).trans dE;have r4:∀ob,(wr.alloc ob).cell? ⟨W.heap.size,4,none⟩=some (.bool sp):=λob=>(oD wr ob ⟨W.heap.size,4,none⟩ hWq).trans dE;by_cases hjt:j<made.length
     ·obtain⟨a',c',ee,_,h3⟩:=HM.out;cases ee;obtain⟨ag,ao,acu,f,rfl,hag,ac0,ac1,hf⟩:=h3 j hjt;have ZvJ:=(oz.1 hag).1;have s0:=(ZbS.cell (p:=⟨ag,ao+j*2,none⟩) ZvJ).trans ac0;have s1:=(ZbS.cell (p:=⟨ag,ao+j*2+1,none⟩) ZvJ).trans ac1;have hjv:j<vs.length:=by omega
      obtain⟨rs,hrs,wQ,hvj⟩:=ZB0.out j hjt hjv;have HSM:=vR (λw' (hw:Below wr.heap.size wr w')=>ZSg w' made[j].1 made[j].2 f (.slice na gs[k].length nc) gs[k] up q nt ny sp rs (hf.same (KT.vZ (ZbS.trans (hw.mono ZbS.size)))) (HE.out.same (KT.vZ (WV.trans (hw.mono WV.size)))) (HU.out.same (KT.vZ (ZbS.trans (hw.mono ZbS.size)))) e64 hrs wQ);rw[<-hvj]at HSM;obtain⟨fK,ZHT,DJ,_⟩:=hf.func;subst DJ;obtain⟨vt,vy,Jj⟩:=Dp vs[j].1;rw[Jj]at HSM;have HVV:=vR Jj;clear h3 hag ac0 ac1 hf hrs wQ hvj Jj;go_wp2_with fail;have hA:Below wr.heap.size wr (wr.alloc (.cells #[.string ⟨made[j].1.toArray⟩,.func (.func fK) #[] ZHT] 402)):=(nW _ _).alloc (nV _) _;refine(HSM.out _ hA).mono ?_;rintro e w2 ⟨rfl,wK⟩;have wH:=hA.trans (wK.mono hA.size);have Cj:=(wH.block gb (oz.1 ZP).1).trans ZP;have Zoy:=zC hmo wH;obtain⟨xa,xc,hxv⟩:=yN Zoy;subst hxv;have Xn:=(oz.1 Cj).1;have t1:=zS Cj;have Ay:=wH.size;have TJ:=vR Cj;have HMO:=vR Zoy;clear hA HSM r0 r1 r2 r3 r4 s0 s1 Cj Zoy hmo ZP;generalize Xj:vs[j].2=also at *;have HAL:=vR Xj;clear Xj;go_wp2_with (at_builtin;refine pE _ rfl _ _ 78 rfl wz.heap.size 80 i1 .nilIface 1 16 underlying78 Kj hy0 GK hy2 rfl O _ _ _ rfl (HMO.out.alloc _) ⟨w2.heap.size,0,none⟩ 1 1 [.iface vt vy] rfl rfl (ZcT _ _ _ _ rfl) au aj Z ah ?_;intro v' w6 zm xQ NW);have NL:=(xQ.block gb ah (λe=>by have:=(HMO.out.lt gb e.symm).1;omega)).trans ((ow _ _ _ Xn).trans TJ.out);have Zwx:=(oz.1 NL).1;have Lm:=(((hBq.trans (wH.mono Z)).alloc Z _).grown xQ ah (λy e=>by have:=(HMO.out.lt y e).1;omega));refine(YV _ [m2,also] _ (ZbG (xI w6 _))).mono ?_;rintro e w7 ⟨rfl,rfl⟩;have hs6:=xQ.size;simp at hs6;have u1:∀ob,(w6.alloc ob).cell? ⟨gb,1,none⟩=some (.slice xa j xc):=λob=>(oD w6 ob ⟨gb,1,none⟩ Zwx).trans (by simp[World.cell?,NL]);have u2:∀ob,(w6.alloc ob).frozen? ⟨gb,1,none⟩=false:=λob=>by
       have:=(ow w6 ob gb Zwx).trans NL;simp[World.frozen?,this]
      obtain⟨ya,yc,hyv⟩:=yN zm;subst hyv;have P7:Hid (xG [m2,also]=xG ((pre++(vs.take j).map (·.2))++ [also])):=by show _=_;rw[Zyv,ZOi,hle.out]
      generalize xG [m2,also]=m3 at *;clear hle;go_wp2_with fail;go_roundg (made.length-(j+1)+1);case measure=>omega
      case rel=>
       have Fs:=(ow (w6.setCell ⟨gb,1,none⟩ (.slice ya (j+1) yc)) (.cells #[.int .i64 m2,.int .i64 also] 47) gb eD).trans (zD (k:=1) (u:=.slice ya (j+1) yc) NL);refine⟨j+1,m3,.slice ya (j+1) yc,Z,rfl,ak,rfl,by simpa using Fs,?_,(Lm.setCell (p:=⟨gb,1,none⟩) (nV _) _).alloc eD _,eD,?_⟩
       ·have h8:=(Ia (g:=gb) (o:=1) (u:=.slice ya (j+1) yc) zm (λe=>by have:=(zm.lt gb e.symm).1;omega)).alloc (.cells #[.int .i64 m2,.int .i64 also] 47);rw[o8 hjv,oo,oo];simpa[HVV.out]using h8
       ·show xG _=m3;rw[P7.out,o8 hjv,oo,<-oI];show xG (_++ [vs[j].2])=_;rw[HAL.out]
     ·obtain rfl:j=made.length:=by omega
      have hmq:xD wr mvv (vs.map (·.1)):=by
       rw[oO Z]at hmo;refine ZpA (B:=wz.heap.size) ?_;rw[pY,evl];exact hmo
      have YA:=vR hmq;obtain⟨xa,xc,hxv⟩:=yN hmo;subst hxv;have ZXh:=(oz.1 ZP).1;have t0:=xH ZP;have t1:=zS ZP;have ZfJ:=zC wD (by show Below _ _ _;rw[Zn9];exact hBq);clear hmo ZP r0 r1 r2 r3 r4;go_wp2_with (at_builtin;refine pE _ rfl _ _ 257 rfl w1.heap.size 214 i0 (.agg #[.slice none 0 0,.slice none 0 0]) 2 48 underlying257 zB hz0 yo hz2 rfl O _ _ _ rfl (ZfJ.alloc _) ⟨wr.heap.size,0,none⟩ 1 1 [.slice ra rn rc,.slice xa made.length xc] rfl rfl (ZzN _ _ _ _ rfl) au aj Z ah ?_;intro v' w6 zm xQ NW);go_roundg (gs.length-(k+1)+1);case measure=>omega
      case rel=>
       have FV:=(WV.alloc WV.size _).grown xQ (by simp;have:=WV.size;omega) (λy e=>(ZfJ.lt y e).1);have hkz:k<(gs.zip ED).length:=by simp;omega
       refine⟨k+1,m2,Al++ [(.slice ra rn rc,.slice xa made.length xc)],Z,rfl,ak,rfl,?_,FV,by simp[zM],?_,?_⟩
       ·rw[o6,Zic];exact zm
       ·have ZMk:Below wy.heap.size wy wr:=by rw[Zn9];exact hBq
        rw[o8 hkz,oo];refine JW.snoc ((hI.out.1.same (KT.vZ ZMk)).XC ZfJ xQ) ?_ ?_
        ·show xD w6 _ (WS _ _).row;rw[List.getElem_zip];exact(Bt.out.J7 WV).XC ZfJ xQ
        ·show xD w6 _ (WS _ _).made;rw[List.getElem_zip];simp only[WS,TQ.out];exact YA.out.XC ZfJ xQ
       ·rw[o8 ZwQ,rQ,Zll.out];have h9:=hle.out;rw[oO Z]at h9;simp only[sF,List.flatMap_nil,sD,TQ.out];exact h9
  ·obtain rfl:k=gs.length:=by omega
   have xX:=VX.out.trans (hB.mono VX.out.size);have hzl:(gs.zip ED).length=gs.length:=by simp;omega
   have HF:Hid (Cq wr u8 ((gs.zip ED).map λp=>WS p.1 p.2)):=by
    have h2:=hI.out.1;rw[oO Z]at h2;exact Zh6 wD h2 ah
   have HMM:Hid (xG (ED.flatMap λvs=>vs.map (·.2))=mm):=by
    have h2:=hI.out.2;rw[oO Z]at h2;exact h2
   obtain⟨xa,xc,hxv⟩:=yN wD;subst hxv;clear hI wD;go_wp2_with fail;go_ret2;exact⟨_,by rw[HMM.out];rfl,HF.out,xX⟩
end Go.Proofs.YtncnkiabjhhclaaGreatDoor
