import Derived.LoopIn
import Derived.LoopNIn
import Derived.OrdersHeld
import Derived.OwnWalkIn
import Derived.RangeFuncBound
import Derived.RangeFuncCalls
import Derived.RangeFuncLeaves
import Derived.RangeFuncNested
import Derived.Shelf.Abstract
import Derived.Shelf.RegionOpen
import Derived.TacticsInMore
import Derived.Test.YthmlacabmlghbaaGreatDoorBgJa14
set_option maxRecDepth 100000
set_option maxHeartbeats 8000000
set_option linter.unusedSimpArgs false
set_option linter.unusedVariables false
namespace Go.Proofs.YthmlacabmlghbaaGreatDoor
open Go.Proofs.Tryz
theorem ZUb{p:Prop}(h:p:=by gi_wp2;exact⟨rfl,.inr ⟨ch,rfl,hp⟩⟩):p:=h
theorem ZSW{p:Prop}(h:p:=by clear hl2;go_enter func83,ntmps83;go_wp2_with fail;refine(Vr R line _ (c0a _)).mono ?_;rintro e w3 ⟨b,rfl,hb0,hb1,hB3⟩;go_wp2;exact⟨rfl,b,rfl,hb0,hb1,((Below.refl _ W).alloc (Nat.le_refl _) _ |>.mono hBW).trans (hB3.mono ZPo)⟩):p:=h
theorem ZXC:type_of% @Go.wpAnyH_take:=@Go.wpAnyH_take
open Go.RowKit
theorem Zz5(s:Za):∀cur x,x∈QZ cur s->x.length<=cur.length+s.length:=by
 induction s with
 |nil=>intro cur x hx;simp[QZ]at hx;subst hx;simp
 |cons c r ih=>
  intro cur x hx;rw[QZ]at hx;split at hx
  ·rcases ZW3.1 hx with rfl|hx
   ·simp
   ·have:=ih [] x hx;exact ZWG
  ·have:=ih _ x hx;exact ZWG
theorem Zrn{s x:Za}(h:x∈ZX s):x.length<=s.length:=by have:=Zz5 s [] x h;simpa using this
theorem Zrm(s:Za):(ZX s).length<=s.length+1:=Zz4 s []
theorem ZAe(f:Nat):∀(s:Za) (l:List Za),XN f s=some l->∀x∈l,x≠ []/\x.length<=s.length:=by
 induction f with
 |zero=>intro s l h;cases s<;>simp[XN]at h<;>subst h<;>simp
 |succ f ih=>
  intro s l h;cases s with
  |nil=>simp[XN]at h;subst h;simp
  |cons c r=>
   rw[XN]at h;by_cases h32:c=32
   ·rw[ZWR h32]at h;intro x hx;have:=ih r l h x hx;exact⟨this.1,ZPo⟩
   ·rw[ZWQ h32]at h;by_cases h0:YS (c::r)=0
    ·simp only[h0,ZWR]at h;cases h
    ·simp only[h0,ZXO]at h;have hp:(c::r).take (YS (c::r))≠ []/\((c::r).take (YS (c::r))).length<=(c::r).length:=by
      refine⟨?_,ZPo⟩;intro e;have:=congrArg List.length e;exact ZWH
     cases hd:(c::r).drop (YS (c::r))with
     |nil=>
      rw[hd]at h;simp only at h;cases h;intro x hx;obtain rfl:x=_:=ZXh.1 hx;exact hp
     |cons d r'=>
      have hl:(d::r').length<=(c::r).length:=by rw[<-hd];simp
      rw[hd]at h;simp only at h;split at h
      ·cases hr:XN f (d::r')with
       |none=>rw[hr]at h;cases h
       |some m=>
        rw[hr]at h;cases h;intro x hx;rcases ZW3.1 hx with rfl|hx
        ·exact hp
        ·have:=ih _ m hr x hx;exact⟨this.1,ZW0 this.2 hl⟩
      ·cases h
theorem Zru{s:Za}{l:List Za}(h:Xf s=some l):∀x∈l,x≠ []/\x.length<=s.length:=ZAe _ s l h
theorem ZAd(f:Nat):∀(s:Za) (l:List Za),XN f s=some l->l.length<=s.length:=by
 induction f with
 |zero=>intro s l h;cases s<;>simp[XN]at h<;>subst h<;>simp
 |succ f ih=>
  intro s l h;cases s with
  |nil=>simp[XN]at h;subst h;simp
  |cons c r=>
   rw[XN]at h;by_cases h32:c=32
   ·rw[ZWR h32]at h;have:=ih r l h;simp;omega
   ·rw[ZWQ h32]at h;by_cases h0:YS (c::r)=0
    ·simp only[h0,ZWR]at h;cases h
    ·simp only[h0,ZXO]at h;cases hd:(c::r).drop (YS (c::r))with
     |nil=>
      rw[hd]at h;simp only at h;cases h;simp
     |cons d r'=>
      have hl:(d::r').length=(c::r).length-YS (c::r):=by rw[<-hd];simp
      rw[hd]at h;simp only at h;split at h
      ·cases hr:XN f (d::r')with
       |none=>rw[hr]at h;cases h
       |some m=>
        rw[hr]at h;cases h;have:=ih _ m hr;simp only[List.length_cons]at hl this ⊢;omega
      ·cases h
theorem ZAg{s:Za}{l:List Za}(h:Xf s=some l):l.length<=s.length:=ZAd _ s l h
def UJ:Za:= [116,97,98,108,101]
def EP:Za:= [114,111,119]
structure J7 where
 names:List Za
 last:Option (List Za×Nat)
def Zae(l:List Za):Bool:=Zdw l.length&&(KS (l.getD 1 [])&&Zai [] (Zo (l.drop 2)))
def ZcZ(ps types:List Za):Bool:=(ps.zip types).all fun x=>(QJ x.1 x.2).2
def rowFits(st:J7)(n:Nat):Option (List Za×Nat):=
 match st.last with
 |none=>none
 |some (types,rows)=>if n=types.length/\rows≠12 then some (types,rows)else none
def Eg(st:J7)(p:Za)(ps:List Za):Option J7:=
 if p=UJ then
  if Zae (p::ps)=true/\st.names.length≠8/\(ps.getD 0 [])∉st.names then some ⟨st.names++ [ps.getD 0 []],some ((Zo (ps.drop 1)).map (·.2),0)⟩else none
 else if p=EP then
  match rowFits st ps.length with
  |none=>none
  |some (types,rows)=>if ZcZ ps types=true then some ⟨st.names,some (types,rows+1)⟩else none
 else none
def EO(st:J7)(x:Za):Option J7:=
 match Xf x with
 |none=>none
 |some []=>some st
 |some (p::ps)=>Eg st p ps
def UH:J7->Nat->List Za->Int
 |_,_, []=> -1
 |st,k,x::r=>match EO st x with
  |none=>(k:Int)+1
  |some st'=>UH st' (k+1) r
def YZ(s:Za):Int:=if s.length>4000 then 0 else UH ⟨[],none⟩ 0 (ZX s)
theorem ZbR{st:J7}{k:Nat}{x:Za}{r:List Za}(h:EO st x=none):UH st k (x::r)=(k:Int)+1:=by simp only[UH,h]
theorem Zk1{st st':J7}{k:Nat}{x:Za}{r:List Za}(h:EO st x=some st'):UH st k (x::r)=UH st' (k+1) r:=by simp only[UH,h]
theorem ZKq(v:Value)(l:List Za)(W:World)(hl:∀x∈l,x.length<=90000)(hll:l.length<=90000)(hv:QS W v l):
  Calls prog 15 #[v] W fun e W'=>∃(nm:Za) (a1 a2:Option Addr) (n1 n2 c1 c2:Nat),e= .returned (.tuple #[.agg #[.string ⟨nm.toArray⟩,.slice a1 n1 c1,.slice a2 n2 c2,.slice none 0 0],.bool (Zae l)])/\
   Hid (Zae l=true->nm=l.getD 1 []/\n1=(Zo (l.drop 2)).length/\n2=(Zo (l.drop 2)).length/\W'.ownsRow W.heap.size 9 1 (.slice a2 n2 c2) n2 (((Zo (l.drop 2)).map (·.2)).map Zp)/\W'.ownsRow W.heap.size 9 1 (.slice a1 n1 c1) n1 (((Zo (l.drop 2)).map (·.1)).map Zp))/\Below W.heap.size W W':=by
 by_cases hh:Zdw l.length=true
 ·refine(ZKp v l W hl hll hv hh).mono ?_;rintro e W' ⟨cv,tv,rfl,h1,h2,h3⟩;obtain⟨a1,c1,rfl⟩:=Ed h1;obtain⟨a2,c2,rfl⟩:=Ed h2;refine⟨l.getD 1 [],a1,a2,(Zo (l.drop 2)).length,(Zo (l.drop 2)).length,c1,c2,by unfold Zae;rw[hh,ZYi];rfl,?_,h3⟩;intro _;refine⟨rfl,rfl,rfl,?_,?_⟩
  ·rw[ZX2];exact h2
  ·rw[ZX2];exact h1
 ·have hh':Zdw l.length=false:=by simpa using hh
  refine(ZKr v l W hll hv hh').mono ?_;rintro e W' ⟨rfl,h3⟩;exact⟨[],none,none,0,0,0,0,by simp[Zae,hh'],(fun h=>by simp[Zae,hh']at h),h3⟩
def Jh(ts:List (Za×Value×Value×Value)):List Value:=ts.flatMap fun t=> [Zp t.1,t.2.1,t.2.2.1,t.2.2.2]
abbrev J8:=Za×List Za×List Za
def ZiG(tb:List J8)(x:Za):List J8:=
 match Xf x with
 |some (p::ps)=>if p=UJ then tb++ [(ps.getD 0 [],(Zo (ps.drop 1)).map (·.1),(Zo (ps.drop 1)).map (·.2))]else tb
 |_=>tb
def Qt:List J8->List Za->List J8
 |tb, []=>tb
 |tb,x::r=>Qt (ZiG tb x) r
structure ZqB (B:Nat) (W:World) (x:J8) (t:Za×Value×Value×Value):Prop where
 nm:t.1=x.1
 Ze:W.ownsRow B 9 1 t.2.1 x.2.1.length (x.2.1.map Zp)
 types:W.ownsRow B 9 1 t.2.2.1 x.2.2.length (x.2.2.map Zp)
 rows:∃a n c,t.2.2.2= .slice a n c
structure KN (B:Nat) (W:World) (tb:List J8) (ts:List (Za×Value×Value×Value)):Prop where
 len:tb.length=ts.length
 all:∀p∈tb.zip ts,ZqB B W p.1 p.2
theorem KN.mono{B:Nat}{W W':World}{tb:List J8}{ts:List (Za×Value×Value×Value)}(h:KN B W tb ts)(hk:∀v n xs,W.ownsRow B 9 1 v n xs->W'.ownsRow B 9 1 v n xs):KN B W' tb ts:=
 ⟨h.len,fun p hp=>⟨(h.all p hp).nm,hk _ _ _ (h.all p hp).Ze,hk _ _ _ (h.all p hp).types,(h.all p hp).rows⟩⟩
theorem KN.add{B:Nat}{W:World}{tb:List J8}{ts:List (Za×Value×Value×Value)}{x:J8}{t:Za×Value×Value×Value}(h:KN B W tb ts)(hx:ZqB B W x t):KN B W (tb++ [x]) (ts++ [t]):=by
 refine⟨by simp[h.len],fun p hp=>?_⟩;rw[ZYy h.len]at hp;rcases ZXt.1 hp with hp|hp
 ·exact h.all p hp
 ·simp at hp;rw[hp];exact hx
theorem KN.rows{B:Nat}{W:World}{tb:List J8}{ts:List (Za×Value×Value×Value)}{n:Za}{c y r:Value}{a':Option Addr}{n' c':Nat}(h:KN B W tb (ts++ [(n,c,y,r)])):KN B W tb (ts++ [(n,c,y,.slice a' n' c')]):=by
 have hl:=h.len;have hne:tb≠ []:=by intro e;rw[e]at hl;simp at hl
 obtain⟨tb',x,rfl⟩:∃tb' x,tb=tb'++ [x]:=⟨_,_,(List.dropLast_concat_getLast hne).symm⟩;have hl':tb'.length=ts.length:=by simpa using hl
 refine⟨by simp[hl'],fun p hp=>?_⟩;rw[ZYy hl']at hp;have ha:=h.all;rw[ZYy hl']at ha;rcases ZXt.1 hp with hp|hp
 ·exact ha p (ZYA _ hp)
 ·simp at hp;have h1:=ha (x,(n,c,y,r)) (List.mem_append_right _ ZPm);rw[hp];exact⟨h1.nm,h1.Ze,h1.types,a',n',c',rfl⟩
structure Zi8 (B:Nat) (st:J7) (tb:List J8) (ov:Value) (W:World):Prop where
 hB:B<=W.heap.size
 n8:st.names.length<=8
 mem:∃ts,W.ownsRow B 52 4 ov st.names.length (Jh ts)/\ts.map (·.1)=st.names/\KN B W tb ts/\
  match st.last with
  |none=>ts= []
  |some (types,rows)=>∃ts' nm a1 c1 a2 c2 a3 c3 rs,ts=ts'++ [(nm,.slice a1 types.length c1,.slice a2 types.length c2,.slice a3 rows c3)]/\
   W.ownsRow B 9 1 (.slice a2 types.length c2) types.length (types.map Zp)/\W.ownsRow B 56 1 (.slice a3 rows c3) rows rs/\rows<=12/\types.length<=6/\1<=types.length
theorem Zlf(ts:List (Za×Value×Value×Value)):(Jh ts).length=ts.length*4:=by
 induction ts with
 |nil=>rfl
 |cons t ts ih=>show([Zp t.1,t.2.1,t.2.2.1,t.2.2.2]++Jh ts).length=_;simp[ih];omega
theorem Zle(a b:List (Za×Value×Value×Value)):Jh (a++b)=Jh a++Jh b:=by unfold Jh;rw[ZYw]
theorem ZwV:∀(ts:List (Za×Value×Value×Value)) (i:Nat) (h:i<ts.length),(Jh ts)[i*4]? =some (Zp ts[i].1)
 |t::ts,0,_=>rfl
 |t::ts,i+1,h=>by
  have ih:=ZwV ts i ZPv;have e:Jh (t::ts)=Zp t.1::t.2.1::t.2.2.1::t.2.2.2::Jh ts:=rfl;rw[e,show(i+1)*4=i*4+4 from U];simpa using ih
theorem ZIp{W:World}{B:Nat}{ov:Value}{ts:List (Za×Value×Value×Value)}{l:List Za}(h:W.ownsRow B 52 4 ov l.length (Jh ts))(hn:ts.map (·.1)=l):Zxf W ov l:=by
 subst hn;rcases h.2 with⟨rfl,h0⟩|⟨g,cap,cur,rfl,_⟩
 ·have:(ts.map (·.1))= []:=ZX7.1 h0;rw[this];exact ZT3
 ·refine⟨some ⟨g,0,none⟩,cap,rfl,fun i hi=>⟨g,0,rfl,?_⟩⟩;have hi':i<ts.length:=by simpa using hi
  have:=h.cells (g:=g) rfl (i*4) _ (ZwV ts i hi');exact ZWd
def ZKF(P:Program)(l:Nat)(R:Ending->World->Prop):Exit->Act->World->Prop
 | .normal,_,w=>∃v w',(Instr.endRound l none).run P w= .ok v w'/\R (.returned v) w'
 | .panic ch,a,w=>a.defers= []/\R (.panicked ch) w
 |_,_,_=>False
theorem ZKE{F:Fence}{n:Nat}{P:Program}{l:Nat}{f:FuncId}{fn:Func}{tmps:Array Value}{assign body:Code}{w:World}{R:Ending->World->Prop}(hF:F.fn f)(hfn:P.funcs[f]? =some fn)
  (h:assign.wpIn (F.inRound l) n P (Exit.then (fun a₁ w₁=>∃w₂,(Instr.beginRound l).run P w₁= .ok () w₂/\body.wpIn (F.inRound l) n P (ZKF P l R) a₁ w₂) (fun _ _ _=>False))
   {tmps:=tmps,defers:= []} w):
  RoundIn F n P l f tmps assign body w R:=by
 refine⟨hF,fun c cs hr=>?_⟩;let b:Frame:={(default:Frame)with fn:=f,kind:=.normal,roundOf:=some l}
 have hb0:Frame.round l f tmps assign body .normal=b.atR {tmps:=tmps,defers:= []} [.code assign,.beginRound,.code body]:=by
  simp[Frame.round,Frame.atR,b]
 have hr':(F.inRound l).room ((c::cs).length+1+n):=hr;have hF':(F.inRound l).fn b.fn:=hF;obtain⟨e,a₁,w₁,hq,harr⟩:=h b [.beginRound,.code body] (c::cs) rfl hF' hr';rw[<-hb0]at harr;cases e with
 |normal=>
  obtain⟨w₂,hbr,hbody⟩:=hq;have s1:=StepsIn.one (I:=Machine.fenced P (F.inRound l)) (fenced_calm (fr:=b.atR a₁ [.beginRound,.code body]) hF' hr' rfl) (stepR_beginRound (cs:=c::cs) rfl hbr);obtain⟨e₂,a₂,w₃,hq₂,harr₂⟩:=hbody b [] (c::cs) rfl hF' hr';cases e₂ with
  |normal=>
   obtain⟨v,w₄,hend,hR⟩:=hq₂;exact⟨.returned v,w₄,hR,(StepsIn.trans harr s1).trans (StepsIn.trans harr₂ (.one (fenced_calm (fr:=b.atR a₂ []) hF' hr' rfl) (stepR_round_end rfl rfl hend)))⟩
  |panic ch=>
   obtain⟨hd,hR⟩:=hq₂;obtain⟨todo,hs⟩:=harr₂;have hl:({b.atR a₂ todo with mode:=.panicking ch}:Frame).leaving P w₃ (.panicked ch):=⟨rfl,hd,fn,hfn⟩;have i1:(lone {b.atR a₂ todo with mode:=.panicking ch} (c::cs) w₃).fenced P (F.inRound l):=fenced_leaving (n:=n) hF' hr' hl;exact⟨.panicked ch,w₃,hR,(StepsIn.trans harr s1).trans (StepsIn.trans hs (.one i1 (step_leave_panicked hl)))⟩
  |ret=>exact hq₂.elim
  |exit id=>exact hq₂.elim
  |goto t=>exact hq₂.elim
  |outgrown=>exact hq₂.elim
 |exit id=>exact hq.elim
 |goto t=>exact hq.elim
 |ret=>exact hq.elim
 |panic chain=>exact hq.elim
 |outgrown=>exact hq.elim
def EU(bf:FuncId)(P:Program)(c:Code)(Q:Exit->Act->World->Prop)(a:Act)(w:World):Prop:=
 ∀(b:Frame) (k:List Item) (cs:List Frame),b.roundOf=none->b.fn=bf->
  ∃e a' w',Q e a' w'/\ArrivesIn (Machine.fenced P Fence.wide) P (lone (b.atR a (.code c::k)) cs w) b k cs e a' w'
section
variable {bf:FuncId} {P:Program} {Q:Exit->Act->World->Prop} {a:Act} {w:World}
theorem ZiL(m:Nat):Fence.wide.room m:=by intro d hd;cases hd
theorem QL{c:Code}(h:c.wp P Q a w):EU bf P c Q a w:=fun b k cs hro _=>(wpIn_wide (n:=0)).2 h b k cs hro trivial (ZiL _)
theorem QK{x y:Code}(h:EU bf P x (Exit.then (EU bf P y Q) Q) a w):EU bf P (Code.seq x y) Q a w:=by
 intro b k cs hro hb;have h0:(lone (b.atR a (.code (.seq x y)::k)) cs w).fenced P Fence.wide:=fenced_calm (n:=0) trivial (ZiL _) rfl;obtain⟨e,a₁,w₁,hq,harr⟩:=h b (.code y::k) cs hro hb;cases e with
 |normal=>
  obtain⟨e₂,a₂,w₂,hq₂,harr₂⟩:=hq b k cs hro hb;exact⟨e₂,a₂,w₂,hq₂,.of_steps (.head h0 stepR_seq harr) harr₂⟩
 |exit id=>exact ZTK
 |goto l=>exact ZTK
 |ret=>exact ZTK
 |panic ch=>exact ZTK
 |outgrown=>exact ZTK
def ZcU(fn:FuncId)(tmps:Array Value)(ps:Array Tmp)(assign body:Code)(D:Nat)(st:LoopState):Loop:={state:=st,pending:=none,fn:=fn,tmps:=tmps,params:=ps,assign:=assign,body:=body,defers:=D}
def Qg(w:World)(fn:FuncId)(tmps:Array Value)(ps:Array Tmp)(assign body:Code):World:=(w.alloc (.deferred (some []))).alloc (.loop (ZcU fn tmps ps assign body w.heap.size .ready))
theorem ZpL{g:Operand}{ps:Array Tmp}{assign body:Code}{gf:FuncId}{lb:Array Value}(hg:a.eval g= .func (.func gf) #[] lb)(eg:∀(args:Array Value) (w:World),(callFunc gf args).run P w= .ok (.enter gf args) w)
  (h:Calls P gf (#[.func (.yield (w.heap.size+1)) #[] #[]]++lb) (Qg w bf a.tmps ps assign body) fun e w3=>
   match e with
   | .returned _=>w3.heap[w.heap.size+1]? =some (.loop (ZcU bf a.tmps ps assign body w.heap.size .ready))/\
    Q .normal {a with defers:={target:=.collected w.heap.size,args:=#[]}::a.defers} (w3.putObj (w.heap.size+1) (.loop (ZcU bf a.tmps ps assign body w.heap.size .exhausted)))
   | .panicked ch=>Q (.panic ch) {a with defers:={target:=.collected w.heap.size,args:=#[]}::a.defers} w3
   | .outgrown=>LetsOut Q):
  EU bf P (Code.rangeFunc g ps assign body) Q a w:=by
 intro b k cs hro hb;subst hb;obtain⟨_,hcall⟩:=(callsIn_wide (n:=0)).2 h;have he:(Instr.enterLoop b.fn a.tmps ps assign body b.roundOf).run P w= .ok (w.heap.size+1, [{target:=.collected w.heap.size,args:=#[]}]) (Qg w b.fn a.tmps ps assign body):=by
  rw[hro];exact run_enterLoop_outer _ _ _ _ _
 have hres:(resolve a.eval (rangeCall g (w.heap.size+1)) 0).run P (Qg w b.fn a.tmps ps assign body)= .ok {target:=.fn (.func gf) lb,args:=#[.func (.yield (w.heap.size+1)) #[] #[]]} (Qg w b.fn a.tmps ps assign body):=by
  simp only[resolve,hg];simp[go_sem]
 have hinv:(invoke (.fn (.func gf) lb) #[.func (.yield (w.heap.size+1)) #[] #[]]).run P (Qg w b.fn a.tmps ps assign body)= .ok (.enter gf (#[.func (.yield (w.heap.size+1)) #[] #[]]++lb)) (Qg w b.fn a.tmps ps assign body):=by
  simp[invoke,go_sem,eg]
 have henter:=stepR_rangeFunc (P:=P) (b:=b) (a:=a) (k:=k) (cs:=cs) (w:=w) he hres hinv;obtain⟨e,w₃,fr,hR,hsteps,hfn,hleave⟩:=hcall (b.atR {a with defers:= [{target:=.collected w.heap.size,args:=#[]}]++a.defers} (.inRangeFunc (w.heap.size+1)::k)::cs) (ZiL _);cases e with
 |outgrown=>
  obtain⟨a₀,w₀,hq⟩:=hR;exact⟨.outgrown,a₀,w₀,hq,.inr (Outgrown.of_steps (.one henter) hsteps)⟩
 |returned v=>
  obtain⟨hl,hQ⟩:=hR;have hend:=run_endLoop (P:=P) hl (by simp[ZcU]);refine⟨.normal,_,_,hQ,?_⟩;refine .head (fenced_wide _ _) henter (StepsIn.trans hsteps (.head (fenced_wide _ _) ?_ (.one (fenced_wide _ _) (stepR_endRangeFunc hend))));rw[<-finish_atR_inRangeFunc (w.heap.size+1) v];exact step_leave_returned hleave
 |panicked chain=>
  refine⟨.panic chain,_,w₃,hR,.inRangeFunc (w.heap.size+1)::k,.head (fenced_wide _ _) henter (StepsIn.trans hsteps (.one (fenced_wide _ _) ?_))⟩;rw[<-Frame.raise_atR];exact step_leave_panicked hleave
theorem Zg8{f:FuncId}{fn:Func}{c:Code}{args:Array Value}{R:Ending->World->Prop}(hf:P.funcs[f]? =some fn)(hb:fn.body=some c)
  (h:EU f P c (bodyPostM Fence.wide 0 P fn R) {tmps:=args++Array.replicate (fn.ntmps-args.size) undef,defers:= []} w):Calls P f args w R:=by
 refine(callsIn_wide (n:=0)).1 ⟨trivial,fun cs hr=>?_⟩;let b:Frame:={(default:Frame)with fn:=f,kind:=.normal,roundOf:=none}
 have henter:Frame.enter P f args .normal=b.atR {tmps:=args++Array.replicate (fn.ntmps-args.size) undef,defers:= []} [.code c]:=by
  simp[Frame.enter,Frame.atR,hf,hb,b]
 obtain⟨e,a',w',hq,harr⟩:=h b [] cs rfl rfl;rw[<-henter]at harr;cases e with
 |normal=>
  obtain⟨e',w'',fr',hR,hs,hfn,hl⟩:=leaves_stepsInM a'.defers .returning w' {b.atR a' []with mode:=.returning} cs rfl rfl rfl hf rfl trivial hr hq;exact⟨e',w'',fr',hR,ComesIn.of_steps (StepsIn.trans harr (.one (fenced_wide _ _) (stepR_end rfl))) hs,hfn,hl⟩
 |ret=>
  obtain⟨todo,hs₀⟩:=harr.1 rfl;obtain⟨e',w'',fr',hR,hs,hfn,hl⟩:=leaves_stepsInM a'.defers .returning w' {b.atR a' todo with mode:=.returning} cs rfl rfl rfl hf rfl trivial hr hq;exact ZTN
 |panic chain=>
  obtain⟨todo,hs₀⟩:=harr;obtain⟨e',w'',fr',hR,hs,hfn,hl⟩:=leaves_stepsInM a'.defers (.panicking chain) w' {b.atR a' todo with mode:=.panicking chain} cs rfl rfl rfl hf rfl trivial hr hq;exact ZTN
 |exit id=>exact hq.elim
 |goto l=>exact hq.elim
 |outgrown=>exact⟨.outgrown,w',b,hq,harr.resolve_left (by simp[b]),rfl,trivial⟩
end
section
open Go.Shelf
attribute [local go_sem] Oper.semAt_some
theorem ZA8(l Bs Bn g o m cap:Nat)(W:World)(hm:m<=6)(hcap:2*m<=cap)(hcap2:cap<=maxLen)
  (h0:W.cell? ⟨Bs,0,none⟩=some (.slice (some ⟨g,o,none⟩) (2*m) cap))(h1:W.cell? ⟨Bn,0,none⟩=some (.int .i64 2))
  (J:Nat->World->Prop)(Jp:List PanicEntry->World->Prop)(hJd:∀k A n,J k A->J k (A.drewN n))
  (hY:∀k W1,J k W1->k<m->YieldAt Fence.wide 2 prog l #[.slice (some ⟨g,o+2*k,none⟩) 2 2] W1 fun e W'=>
   (e= .returned (.bool true)/\J (k+1) W'/\W'.heap[Bs]? =W1.heap[Bs]?/\W'.heap[Bn]? =W1.heap[Bn]?)\/(∃ch,e= .panicked ch/\Jp ch W'))
  (hstart:J 0 W):
  CallsIn Fence.wide 3 prog 158 #[.func (.yield l) #[] #[],.pointer (some ⟨Bs,0,none⟩),.pointer (some ⟨Bn,0,none⟩)] W fun e W'=>
   (∃v,e= .returned v/\J m W')\/(∃ch,e= .panicked ch/\Jp ch W'):=by
 unfold maxLen at hcap2;refine callsIn_of_wp func158 rfl trivial ?_ rfl;simp only[ntmps158,ZXY,List.length_cons,List.length_nil,Nat.reduceAdd,Nat.reduceSub,ZXZ,Array.replicate_zero,ZX0,ZX1,List.nil_append,List.cons_append];have HYH:Hid (∀k W1,J k W1->k<m->YieldAt Fence.wide 2 prog l #[.slice (some ⟨g,o+2*k,none⟩) 2 2] W1 fun e W'=>
   (e= .returned (.bool true)/\J (k+1) W'/\W'.heap[Bs]? =W1.heap[Bs]?/\W'.heap[Bn]? =W1.heap[Bn]?)\/(∃ch,e= .panicked ch/\Jp ch W')):=hY
 have HJd:Hid (∀k A n,J k A->J k (A.drewN n)):=hJd;clear hY hJd;gi_wp2;gi_loopw [4] (fun i wr=>∃k:Nat,k<=m/\i= .int .i64 (2*k:Nat)/\wr.cell? ⟨Bs,0,none⟩=some (.slice (some ⟨g,o,none⟩) (2*m) cap)/\wr.cell? ⟨Bn,0,none⟩=some (.int .i64 2)/\J k wr) (fun i _=>2*m-(intOf i).toNat);case atStart=>exact⟨0,U,rfl,h0,h1,hstart⟩
 case round=>
  clear h0 h1 hstart;obtain⟨k,hk,rfl,h0,h1,hj⟩:=hrel;by_cases hlt:k<m
  ·gi_wp2;refine wpIn_wide.2 ?_;go_quiet (fail);rw[show min (2:Int) ((2*m-2*k:Nat):Int)=2 from U];have hj1:J k (wr.drewN nq):=HJd.out k wr nq hj;obtain⟨fn,tmps,assign,body,hy,hR⟩:=HYH.out k _ hj1 hlt;have HR:Hid _:=hR;clear hR;gi_wp2;refine RoundIn.mono HR.out ?_;rintro e W3 (⟨rfl,hJ3,hb0,hb1⟩|⟨ch,rfl,hp⟩)
   ·have c0:W3.cell? ⟨Bs,0,none⟩=some (.slice (some ⟨g,o,none⟩) (2*m) cap):=(ZXb (w:=wr) (a:=⟨Bs,0,none⟩) hb0).trans h0;have c1:W3.cell? ⟨Bn,0,none⟩=some (.int .i64 2):=(ZXb (w:=wr) (a:=⟨Bn,0,none⟩) hb1).trans h1;clear hb0 hb1 hy;gi_wp2;refine⟨⟨k+1,U,?_,c0,c1,hJ3⟩,?_⟩
    ·exact Zm U
    ·simp[intOf];omega
   ·exact ZUb
  ·gi_wp2;go_end0;obtain rfl:k=m:=by omega
   exact .inl ⟨_,rfl,hj⟩
end
section
open Go.Shelf
attribute [local go_sem] Oper.semAt_some
theorem ZNh(w:World):(zeroValue 136).run prog w= .ok (.pointer none) w:=by kernel_rfl
theorem Zva{w:World}{M n:Nat}{ks:List Za}(h:Xv w M n ks)(s:Za)(hs:s.length<=100000):
  ∃v,(Instr.lookup 72 (.map (some M)) (.string ⟨s.toArray⟩) true).run prog w= .ok (.tuple #[v,.bool (ks.contains s)]) w:=by
 obtain⟨v,ps,hrun,_⟩:=World.ownsMap.look_ok (R:=ZgU) (D:=Kl ks) h KA underlying72 (ZNh w) rfl (Kz s hs);rw[Znw]at hrun;exact⟨v,hrun⟩
def ZeI(n:Nat):Bool:=decide (3<=n/\n%2=1/\n<=13)
theorem ZJV(B R M Kb:Nat)(Zg:List Za)(line:Int)(st:St)(fv:Value)(l:List Za)(W:World)(hll:l.length<=90000)(hI:RInv B R M Kb Zg line st W)(hv:QS W fv l)(hlen:ZeI l.length=false):
  Calls prog 83 #[.pointer (some ⟨R,0,none⟩),fv] W fun e W'=>bad B line W e W':=by
 have hl2:¬(3<=l.length/\l.length%2=1/\l.length<=13):=of_decide_eq_false hlen;obtain⟨v,hR,hv0⟩:=hI.last;have c0:W.cell? ⟨R,0,none⟩=some (.int .i64 line):=ZPH
 obtain⟨a,cap,rfl,_⟩:=hv;have hRl:R<W.heap.size:=(ZWU.1 hR).1;have c0a:∀o,(W.alloc o).cell? ⟨R,0,none⟩=some (.int .i64 line):=fun o=>(ZW6 W o ⟨R,0,none⟩ hRl).trans c0;have hBW:=hI.hB;clear hlen hv0 hI;by_cases h1:3<=l.length
 ·by_cases h2:l.length%2=1
  ·have e2:(l.length:Int)%2=1:=by omega
   have e3:¬(l.length:Int)<=13:=U
   have d3:decide ((l.length:Int)<=13)=false:=by simp;omega
   exact ZSW
  ·have e2:¬(l.length:Int)%2=1:=by omega
   have d2:((l.length:Int)%2==1)=false:=by simp;omega
   exact ZSW
 ·have d1:decide ((3:Int)<=(l.length:Int))=false:=by simp;omega
  exact ZSW
end
theorem tk{P:Program}{ops:Array Oper}{Q:Exit->Act->World->Prop}{md:Region.Mode}{S:World->Prop}(i:Nat){oi:Oper}{v:Value}{fuel:Nat}{listed l':Array Bool}{a a':Act}{w:World}
  (h:wpAnyH P md ops Q S fuel l' a' w)
  (hi:ops[i]? =some oi:=by rfl)
  (hs:Region.noSelect ops=true:=by kernel_rfl)(hf:Region.free md ops listed i=true:=by kernel_rfl)(hr:(Region.ready md ops listed).contains i=true:=by kernel_rfl)
  (hQ:∀c a w,Q (.panic c) (a.put oi.dst v) w->Q (.panic c) a w:=by exact fun _ _ _ h=>h)
  (hw:Region.wanted oi (yielded ops a.tmps)=true:=by rfl)
  (hy:∀w,S w->(execOp a.eval oi).run P w= .ok (.value v) w:=by intro w hSw;(try dsimp only at hSw);go_simp<;>with_reducible rfl)
  (hS:S w:=by assumption)
  (hl:listed.setIfInBounds i true=l':=by(try simp only[ZXy,List.set_cons_zero,List.set_cons_succ]);try rfl)
  (ha:a.put oi.dst v=a':=by(try simp only[Act.put,ZXy,List.set_cons_zero,List.set_cons_succ,List.getElem_toArray,List.getElem_cons_zero,List.getElem_cons_succ]);try rfl):
  wpAnyH P md ops Q S (fuel+1) listed a w:=by
 subst hl ha;exact ZXC hi hs hf hr hQ (.inl ⟨hw,hy⟩) hS h
end Go.Proofs.YthmlacabmlghbaaGreatDoor
