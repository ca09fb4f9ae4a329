set_option linter.unusedVariables false
namespace Go.Proofs.YthmlacabmlghbaaGreatDoor
theorem U{p:Prop}(h:p:=by omega):p:=h
theorem ZPl{p:Prop}(h:p:=by decide):p:=h
theorem ZPm{p:Prop}(h:p:=by simp):p:=h
theorem ZPo{p:Prop}(h:p:=by simp;omega):p:=h
theorem ZPp{p:Prop}(h:p:=by exact Zm (by omega)):p:=h
theorem ZPq{p:Prop}(h:p:=by unfold maxLen;omega):p:=h
theorem ZPr{p:Prop}(h:p:=by simp[rk];omega):p:=h
theorem ZPs{p:Prop}(h:p:=by cases h):p:=h
theorem ZPt{p:Prop}(h:p:=by rw[HX.out];rfl):p:=h
theorem ZPu{p:Prop}(h:p:=by assumption):p:=h
theorem ZPv{p:Prop}(h:p:=by simpa using h):p:=h
theorem ZPw{p:Prop}(h:p:=by simp[opened];omega):p:=h
theorem ZPy{p:Prop}(h:p:=by simp[World.cell?,h]):p:=h
theorem ZPz{p:Prop}(h:p:=by intro t;cases t<;>decide):p:=h
theorem ZPA{p:Prop}(h:p:=by simp[Value.oneCell']):p:=h
theorem ZPB{p:Prop}(h:p:=by simp[intOf]<;>omega):p:=h
theorem ZPC{p:Prop}(h:p:=by rfl):p:=h
theorem ZPD{p:Prop}(h:p:=by simp[h]):p:=h
theorem ZPE{p:Prop}(h:p:=by simpa using hc):p:=h
theorem ZPF{p:Prop}(h:p:=by cases e):p:=h
theorem ZPG{p:Prop}(h:p:=by simp only[mz,rank]at *;omega):p:=h
theorem ZPH{p:Prop}(h:p:=by simp[World.cell?,hR]):p:=h
theorem ZPI{p:Prop}(h:p:=by simp only[Array.size_push];omega):p:=h
theorem ZPJ{p:Prop}(h:p:=by simp[Value.oneCell',Zp]):p:=h
theorem ZPK{p:Prop}(h:p:=by simp[XZ]at h):p:=h
theorem ZPM{p:Prop}(h:p:=by simp[World.cell?,h,YF]):p:=h
theorem ZPN{p:Prop}(h:p:=by simp only[List.length_append,List.length_cons,List.length_nil];omega):p:=h
theorem ZPO{p:Prop}(h:p:=by rw[List.length_drop];omega):p:=h
theorem ZPP{p:Prop}(h:p:=by rw[e];rfl):p:=h
theorem ZPQ{p:Prop}(h:p:=by rw[parse]):p:=h
theorem ZPR{p:Prop}(h:p:=by rw[Ji e,hu]):p:=h
theorem ZPS{p:Prop}(h:p:=by rintro⟨_,_,h⟩;exact h):p:=h
theorem ZPT{p:Prop}(h:p:=by rw[List.cons_append,parse]):p:=h
theorem ZPU{p:Prop}(h:p:=by simp[parse,Zz]):p:=h
theorem ZPV{p:Prop}(h:p:=by have:=hB.size;simp;omega):p:=h
theorem ZPX{p:Prop}(h:p:=by cases hi):p:=h
theorem ZPY{p:Prop}(h:p:=by simp at h):p:=h
theorem ZPZ{p:Prop}(h:p:=by intro j hj;omega):p:=h
theorem ZP0{p:Prop}(h:p:=by simp only[Array.size_push]):p:=h
theorem ZP1{p:Prop}(h:p:=by intro n;simp):p:=h
theorem ZP2{p:Prop}(h:p:=by rw[hr];rfl):p:=h
theorem ZP3{p:Prop}(h:p:=by rw[HB.out];rfl):p:=h
theorem ZP4{p:Prop}(h:p:=by rw[hU.out.1];first|done|rfl):p:=h
theorem ZP5{p:Prop}(h:p:=by decide +kernel):p:=h
theorem ZP6{p:Prop}(h:p:=by rw[parse,JN (by omega)]):p:=h
theorem ZP7{p:Prop}(h:p:=by simp[World.cell?,ho]):p:=h
theorem ZP8{p:Prop}(h:p:=by rintro e;rw[e]at h;cases h):p:=h
theorem ZP9{p:Prop}(h:p:=by first|exact⟨e,e1⟩|exact⟨e,trivial,e1.2⟩):p:=h
theorem ZQa{p:Prop}(h:p:=by rw[Zh]):p:=h
theorem ZQb{p:Prop}(h:p:=by rw[List.cons_append,Zh,if_pos hu]):p:=h
theorem ZQc{p:Prop}(h:p:=by simp[elems]at hx):p:=h
theorem ZQd{p:Prop}(h:p:=by simpa using hown'):p:=h
theorem ZQe{p:Prop}(h:p:=by simpa using h2):p:=h
theorem ZQf{p:Prop}(h:p:=by first|omega|(simp only[Tr.Jo];omega)|(simp only[Tr.YB];omega)|(simp only[Tr.len];omega)):p:=h
theorem ZQg{p:Prop}(h:p:=by rw[(ZZ h.ok ([103,114,111,117,112],T.group) (by decide) (by decide) p).2 e]at kg;cases kg):p:=h
theorem ZQh{p:Prop}(h:p:=by show(1:Nat)≤100000;omega):p:=h
theorem ZQi{p:Prop}(h:p:=by rw[show j=p from by omega];rw[show j=p from by omega]at hno;exact hno):p:=h
theorem ZQj{p:Prop}(h:p:=by rw[hf];decide):p:=h
theorem ZQk{p:Prop}(h:p:=by simp[Y9]):p:=h
theorem ZQl{p:Prop}(h:p:=by cases hx):p:=h
theorem ZQm{p:Prop}(h:p:=by show Pb≠W.heap.size;omega):p:=h
theorem ZQn{p:Prop}(h:p:=by simp[Qs]):p:=h
theorem ZQo{p:Prop}(h:p:=by simp only[World.cell?,ho];rfl):p:=h
theorem ZQp{p:Prop}(h:p:=by rw[List.getElem?_map,List.getElem?_eq_getElem hl1];rfl):p:=h
theorem ZQq{p:Prop}(h:p:=by simp[intOf];omega):p:=h
theorem ZQr{p:Prop}(h:p:=by simpa using h1):p:=h
theorem ZQs{p:Prop}(h:p:=by simp[Tr.len]):p:=h
theorem ZQt{p:Prop}(h:p:=by have:=Option.some.inj e;omega):p:=h
theorem ZQu{p:Prop}(h:p:=by simp only[List.length_cons]at hN;omega):p:=h
theorem ZQv{p:Prop}(h:p:=by rw[HV.out]):p:=h
theorem ZQw{p:Prop}(h:p:=by rw[HP.out];rfl):p:=h
theorem ZQx{p:Prop}(h:p:=by simp[nd,l2,sz]):p:=h
theorem ZQy{p:Prop}(h:p:=by rw[List.length_map]):p:=h
theorem ZQz{p:Prop}(h:p:=by simp[World.cell?,h3,YF]):p:=h
theorem ZQA{p:Prop}(h:p:=by cases e;exact absurd hu (fun e=>by rw[(ZZ h.ok ([119,104,101,114,101],T.Y2) (by decide) (by decide) p).2 e]at kw;cases kw)):p:=h
theorem ZQB{p:Prop}(h:p:=by rw[(ZZ h.ok ([119,104,101,114,101],T.Y2) (by decide) (by decide) p).2 e]at kw;cases kw):p:=h
theorem ZQC{p:Prop}(h:p:=by cases u<;>first|exact absurd hu (by decide)|rfl):p:=h
theorem ZQD{p:Prop}(h:p:=by simpa using hk):p:=h
theorem ZQE{p:Prop}(h:p:=by rw[←HD.out,HM.out];exact hz):p:=h
theorem ZQF{p:Prop}(h:p:=by cases s with|nil=>exact absurd rfl hne|cons c r=>exact⟨c,r,rfl⟩):p:=h
theorem ZQG{p:Prop}(h:p:=by simp[World.frozen?,h]):p:=h
theorem ZQH{p:Prop}(h:p:=by simpa using hj):p:=h
theorem ZQI{p:Prop}(h:p:=by rw[e];simp):p:=h
theorem ZQJ{p:Prop}(h:p:=by simp[UN,ZiK]):p:=h
theorem ZQK{p:Prop}(h:p:=by rw [HE.out]; rfl):p:=h
theorem ZQL{p:Prop}(h:p:=by simp[hits]at h):p:=h
theorem ZQM{p:Prop}(h:p:=by simp[elems]):p:=h
theorem ZQN{p:Prop}(h:p:=by simpa using hx):p:=h
theorem ZQO{p:Prop}(h:p:=by rw[Good]at hg;exact hg.elim):p:=h
theorem ZQP{p:Prop}(h:p:=by rw[HR.out];rfl):p:=h
theorem ZQR{p:Prop}(h:p:=by simp only[sz]at hl;omega):p:=h
theorem ZQS{p:Prop}(h:p:=by rcases hf with h|h|h<;>rw[h]<;>decide):p:=h
theorem ZQT{p:Prop}(h:p:=by simp at hl;omega):p:=h
theorem ZQV{p:Prop}(h:p:=by rw[hc2];rfl):p:=h
theorem ZQW{p:Prop}(h:p:=by rw[Zd4];omega):p:=h
theorem ZQX{p:Prop}(h:p:=by simp[World.cell?,VS]):p:=h
theorem ZQY{p:Prop}(h:p:=by rw[Q8.out,KI.out]):p:=h
theorem ZQ0{p:Prop}(h:p:=by rw[hx];exact hk):p:=h
theorem ZQ1{p:Prop}(h:p:=by simp[World.cell?,h1]):p:=h
theorem ZQ2{p:Prop}(h:p:=by have:=HLE.out;omega):p:=h
theorem ZQ3{p:Prop}(h:p:=by rw[HE.out];rfl):p:=h
theorem ZQ4{p:Prop}(h:p:=by simp[nd,l1,sz]):p:=h
theorem ZQ5{p:Prop}(h:p:=by simp[World.cell?,t1]):p:=h
theorem ZQ6{p:Prop}(h:p:=by repeat (first|exact Zfz|refine Two.alloc ?_ _)):p:=h
theorem ZQ7{p:Prop}(h:p:=by repeat (first|exact K4|refine Two.alloc ?_ _)):p:=h
theorem ZQ8{p:Prop}(h:p:=by rw[KH.out]):p:=h
theorem ZQ9{p:Prop}(h:p:=by simpa using this):p:=h
theorem ZRa{p:Prop}(h:p:=by simpa using HX.out.2):p:=h
theorem ZRb{p:Prop}(h:p:=by simp<;>omega):p:=h
theorem ZRc{p:Prop}(h:p:=by cases e;exact absurd hu (fun e=>by rw[(ZZ h.ok ([104,97,118,105,110,103],T.having) (by decide) (by decide) p).2 e]at kh;cases kh)):p:=h
theorem ZRd{p:Prop}(h:p:=by rw[(ZZ h.ok ([104,97,118,105,110,103],T.having) (by decide) (by decide) p).2 e]at kh;cases kh):p:=h
theorem ZRf{p:Prop}(h:p:=by simp only[first]at h ⊢;rw[h];rfl):p:=h
theorem ZRg{p:Prop}(h:p:=by simp only[List.length_cons];omega):p:=h
theorem ZRh{p:Prop}(h:p:=by simpa[ZbS]using hn2):p:=h
theorem ZRi{p:Prop}(h:p:=by simpa using n39):p:=h
theorem ZRj{p:Prop}(h:p:=by simp[List.getElem?_eq_getElem hi]):p:=h
theorem ZRk{p:Prop}(h:p:=by injection hh with h1;injection h1 with _ h2;exact h2.symm):p:=h
theorem ZRl{p:Prop}(h:p:=by rw[List.drop_drop]):p:=h
theorem ZRm{p:Prop}(h:p:=by rw[show(10:Nat)^(19+1)=100000000000000000000 from rfl];omega):p:=h
theorem ZRn{p:Prop}(h:p:=by first|rfl|trivial):p:=h
theorem ZRo{p:Prop}(h:p:=by have:=h1.1.2;omega):p:=h
theorem ZRp{p:Prop}(h:p:=by exact cell_one_new _ _ _):p:=h
theorem ZRr{p:Prop}(h:p:=by rw[heap_drewN];exact h2):p:=h
theorem ZRs{p:Prop}(h:p:=by rw[heap_drewN];exact h3):p:=h
theorem ZRt{p:Prop}(h:p:=by show 1=ps.size;omega):p:=h
theorem ZRu{p:Prop}(h:p:=by rw[Za1];exact hlow.size):p:=h
theorem ZRw{p:Prop}(h:p:=by have:=Ul hx;omega):p:=h
theorem ZRy{p:Prop}(h:p:=by simp[World.cell?,h6.obj]):p:=h
theorem ZRz{p:Prop}(h:p:=by simp[World.cell?,hTo]):p:=h
theorem ZRA{p:Prop}(h:p:=by show(s.take _).length≤400;rw[List.length_take];omega):p:=h
theorem ZRB{p:Prop}(h:p:=by exact Zjw _ _ _ _):p:=h
theorem ZRC{p:Prop}(h:p:=by first|exact fun _=>rfl|exact fun _=>trivial):p:=h
theorem ZRD{p:Prop}(h:p:=by rw[Addr.add_lit];simp[World.cell?,hT6]):p:=h
theorem ZRE{p:Prop}(h:p:=by have:=h.keep.size;omega):p:=h
theorem ZRF{p:Prop}(h:p:=by rw[List.length_map];exact hj):p:=h
theorem ZRG{p:Prop}(h:p:=by simp[World.cell?,hb]):p:=h
theorem ZRH{p:Prop}(h:p:=by simp[World.frozen?,hb]):p:=h
theorem ZRI{p:Prop}(h:p:=by intro n;simp[Zv]):p:=h
theorem ZRJ{p:Prop}(h:p:=by intro p hp n;simp at hp;rw[hp];simp):p:=h
theorem ZRK{p:Prop}(h:p:=by rw[HL5.out,HC5.out];exact hown'):p:=h
theorem ZRL{p:Prop}(h:p:=by first|exact e1|trivial):p:=h
theorem ZRM{p:Prop}(h:p:=by rw[List.cons_append,parse,hu,if_pos rfl]):p:=h
theorem ZRN{p:Prop}(h:p:=by simp only[List.length_cons]at hl;omega):p:=h
theorem ZRO{p:Prop}(h:p:=by have:=h (j+1) (by simp;omega);simpa using this):p:=h
theorem ZRP{p:Prop}(h:p:=by have:=h (j+1) (by omega) (by simp;omega);simpa using this):p:=h
theorem ZRQ{p:Prop}(h:p:=by rw[List.length_take,List.length_cons];omega):p:=h
theorem ZRR{p:Prop}(h:p:=by rw[show((39:UInt8).toNat:Int)=39 from rfl,←e];rfl):p:=h
theorem ZRS{p:Prop}(h:p:=by have:=KD.out.2 (by omega);rw[Int.add_zero]at this;exact this):p:=h
theorem ZRT{p:Prop}(h:p:=by rw[Nat.div_lt_iff_lt_mul (by omega)];rw[Nat.pow_succ]at h;exact h):p:=h
theorem ZRU{p:Prop}(h:p:=by rw[List.take_of_length_le (by omega)]):p:=h
theorem ZRV{p:Prop}(h:p:=by rw[HU2.out];simp only[Jr.or_assoc]):p:=h
theorem ZRW{p:Prop}(h:p:=by rw[HZ1.out,List.map_append,HP.out];exact hown'):p:=h
theorem ZRX{p:Prop}(h:p:=by rw[HZ2.out,List.all_append];simp[Jr.or,Bool.or_assoc]):p:=h
theorem ZRZ{p:Prop}(h:p:=by intro e;have:=Option.some.inj e;omega):p:=h
theorem ZR0{p:Prop}(h:p:=by have:=h.2;rw[e]at this;revert this;decide):p:=h
theorem ZR1{p:Prop}(h:p:=by have:=hb.2;rw[e]at this;revert this;decide):p:=h
theorem ZR2{p:Prop}(h:p:=by rw[List.length_drop];exact Nat.le_refl _):p:=h
theorem ZR6{p:Prop}(h:p:=by simp only[List.length_cons,List.length_nil]at hN ⊢;omega):p:=h
theorem ZR8{p:Prop}(h:p:=by rw[HUS.out,HON.out,List.append_nil];exact ZbF):p:=h
theorem ZR9{p:Prop}(h:p:=by rw[HMJ.out]at h;rw[HUS.out,HON.out,List.append_nil];exact Qd.out h):p:=h
theorem ZSa{p:Prop}(h:p:=by show ¬([99,111,108,117,109,110]:Za)=ZcH;decide):p:=h
theorem ZSb{p:Prop}(h:p:=by show ¬(([99,111,108,117,109,110]:Za)=ZaS∨([99,111,108,117,109,110]:Za)=Jd);decide):p:=h
theorem ZSc{p:Prop}(h:p:=by show([99,111,108,117,109,110]:Za)=ZfI;rfl):p:=h
theorem ZSd{p:Prop}(h:p:=by rw[Bool.or_false];exact(HI.out.below hB).wide (by omega)):p:=h
theorem ZSe{p:Prop}(h:p:=by rw[←e];exact hcell 3 (by omega) _ rfl):p:=h
theorem ZSf{p:Prop}(h:p:=by rw[List.mem_singleton.1 hx];exact Zfr):p:=h
theorem ZSg{p:Prop}(h:p:=by show([105,110]:Za)∈ZeZ;decide):p:=h
theorem ZSh{p:Prop}(h:p:=by rw[HU.out,Bool.or_false];exact EY.out):p:=h
theorem ZSi{p:Prop}(h:p:=by rw[eg,hI.ck.obj]at e;cases e;exact ht rfl):p:=h
theorem ZSj{p:Prop}(h:p:=by have:=hB2.size;have:=hB.size;omega):p:=h
theorem ZSk{p:Prop}(h:p:=by rw[HPS.out];exact Zo8 JK.out HRW.out (by unfold rowFits;rw[hla];simp only;rw[if_neg hfit])):p:=h
theorem ZSl{p:Prop}(h:p:=by unfold rowFits;rw[hla];simp only;rw[if_neg hfit]):p:=h
theorem ZSm{p:Prop}(h:p:=by rw[List.getElem?_map,List.getElem?_eq_getElem hi];rfl):p:=h
theorem ZSq{p:Prop}(h:p:=by rcases hB with⟨rfl,_⟩|⟨_,_,h,_⟩<;>omega):p:=h
theorem ZSr{p:Prop}(h:p:=by rw[HFR.out];exact fun q h1 h2=>HNT.out q h1 (by omega)):p:=h
theorem ZSs{p:Prop}(h:p:=by rw[List.getElem?_eq_getElem (by omega),e1]):p:=h
theorem ZSt{p:Prop}(h:p:=by rw[(ZZ h.ok ([98,121],T.Y7) (by decide) (by decide) (p+1)).2 e]at kb;cases kb):p:=h
theorem ZSu{p:Prop}(h:p:=by rw[List.cons_append,Zh,hu,if_pos rfl]):p:=h
theorem ZSv{p:Prop}(h:p:=by intro e2;have:=hf u r e;rw[e2]at this;exact absurd this (by decide)):p:=h
theorem ZS3{p:Prop}(h:p:=by exact .inl h):p:=h
theorem ZS4{p:Prop}(h:p:=by exact .inl h0):p:=h
theorem ZS5{p:Prop}(h:p:=by exact .inl rfl):p:=h
theorem ZS6{p:Prop}(h:p:=by exact .inl ⟨_,rfl,h⟩):p:=h
theorem ZS7{p:Prop}(h:p:=by exact .inl ⟨e,HX.out HR.out ZK⟩):p:=h
theorem ZS8{p:Prop}(h:p:=by exact .inl ⟨e,hn,fun q h1 h2=>U⟩):p:=h
theorem ZS9{p:Prop}(h:p:=by exact .inl ⟨e,⟨_,rfl⟩,hn,fun q h1 h2=>U⟩):p:=h
theorem ZTa{p:Prop}(h:p:=by exact .inr ⟨_,_,_,rfl,rfl,h1,h2⟩):p:=h
theorem ZTb{p:Prop}(h:p:=by exact .inr ⟨b3,t3,e,hb3,hp3,.Ve hd3⟩):p:=h
theorem ZTc{p:Prop}(h:p:=by exact .inr ⟨g,cap,cu,rfl,hb,(hg.block g (Array.getElem?_eq_some_iff.1 hh).1 (hne g rfl)).trans hh,r⟩):p:=h
theorem ZTd{p:Prop}(h:p:=by exact .inr ⟨g,cap,cu,rfl,hg,(Below.heap_setCell w ⟨b,k,none⟩ u g hgb).trans hh,r⟩):p:=h
theorem ZTe{p:Prop}(h:p:=by exact .inr ⟨g1,JD,cu1,e6,U,(ZeJ g1 (Array.getElem?_eq_some_iff.1 Uu).1 U U U).trans Uu,r1⟩):p:=h
theorem ZTf{p:Prop}(h:p:=by exact Ea h.ok ([110,117,108,108],T.null) ZPl ZPl ZcK e):p:=h
theorem ZTg{p:Prop}(h:p:=by exact Nat.le_refl _):p:=h
theorem ZTh{p:Prop}(h:p:=by exact Nat.zero_le _):p:=h
theorem ZTi{p:Prop}(h:p:=by exact Q8.out ZP9):p:=h
theorem ZTj{p:Prop}(h:p:=by exact Yl.out.2 _ rfl e):p:=h
theorem ZTk{p:Prop}(h:p:=by exact Z4 HIS.out ZPl e):p:=h
theorem ZTl{p:Prop}(h:p:=by exact Z4 HY ZPl e):p:=h
theorem ZTm{p:Prop}(h:p:=by exact Z4 KF.out ZPl e):p:=h
theorem ZTn{p:Prop}(h:p:=by exact Z4 Xe.out ZPl e):p:=h
theorem ZTo{p:Prop}(h:p:=by exact Zv0 _ _ _ (by simpa using ZbX (Zk4 hu)) ih1 ih2):p:=h
theorem ZTp{p:Prop}(h:p:=by exact absurd hu (Ea h.ok ([97,108,108],T.Xl) ZPl ZPl ZeG)):p:=h
theorem ZTq{p:Prop}(h:p:=by exact absurd hu (Ea h.ok ([97,110,121],T.Zay) ZPl ZPl Zid)):p:=h
theorem ZTr{p:Prop}(h:p:=by exact absurd rfl hne):p:=h
theorem ZTs{p:Prop}(h:p:=by exact hn.out j U hl):p:=h
theorem ZTt{p:Prop}(h:p:=by exact(((((Zb.of Pb hBW).trans (Zb.set Pb _ _ _)).ER (Nat.le_refl _) _ _).ER (Nat.le_refl _) _ _).ER (Nat.le_refl _) _ _).trans (Zb.alloc Pb _ _)):p:=h
theorem ZTu{p:Prop}(h:p:=by exact(((ZW hB1 1).setCell (p:=⟨W.heap.size,0,none⟩) (Nat.le_refl _) _).setCell (p:=⟨W.heap.size,1,none⟩) (Nat.le_refl _) _).setCell (p:=⟨W.heap.size,2,none⟩) (Nat.le_refl _) _):p:=h
theorem ZTv{p:Prop}(h:p:=by exact((hB.setCell (p:=⟨w.heap.size,0,none⟩) (Nat.le_refl _) _).setCell (p:=⟨w.heap.size,1,none⟩) (Nat.le_refl _) _).setCell (p:=⟨w.heap.size,2,none⟩) (Nat.le_refl _) _):p:=h
theorem ZTw{p:Prop}(h:p:=by exact(Below.heap_setCell w1 ⟨T,2,none⟩ _ g hne).trans (hmv g _ e (fun _ _ h=>ZPs))):p:=h
theorem ZTx{p:Prop}(h:p:=by exact(Below.refl _ w).alloc (Nat.le_refl _) _):p:=h
theorem ZTy{p:Prop}(h:p:=by exact(U7.trans (hB.mono U)).setCell (p:=⟨w.heap.size+2+1,0,none⟩) (show w.heap.size≤w.heap.size+2+1 by omega) _):p:=h
theorem ZTz{p:Prop}(h:p:=by exact(U7.trans (hB.mono ZRb)).setCell (p:=⟨w.heap.size+1+1,0,none⟩) (show w.heap.size≤w.heap.size+1+1 by omega) _):p:=h
theorem ZTA{p:Prop}(h:p:=by exact(apart hs (Zge hk).1 ZPl).elim):p:=h
theorem ZTB{p:Prop}(h:p:=by exact(apart hs (Zgg hk).1 ZPl).elim):p:=h
theorem ZTC{p:Prop}(h:p:=by exact(apart hs (show _∈ [ZbK] from List.mem_singleton.2 hf) ZPl).elim):p:=h
theorem ZTD{p:Prop}(h:p:=by exact(apart hs hf ZPl).elim):p:=h
theorem ZTE{p:Prop}(h:p:=by exact⟨#[],0,k0,⟨ZPm,MapKept.stamped_empty 0,ZPm⟩,Nat.le_refl _,rfl⟩):p:=h
theorem ZTF{p:Prop}(h:p:=by exact⟨ZP2,rfl⟩):p:=h
theorem ZTG{p:Prop}(h:p:=by exact⟨[],ZPm,fun c hc=>ZPE⟩):p:=h
theorem ZTH{p:Prop}(h:p:=by exact⟨_,_,rfl,rfl⟩):p:=h
theorem ZTI{p:Prop}(h:p:=by exact⟨_,_,rfl⟩):p:=h
theorem ZTJ{p:Prop}(h:p:=by exact⟨_,a₁,w₁,hq,.of_steps (.one h0 stepR_block) harr⟩):p:=h
theorem ZTK{p:Prop}(h:p:=by exact⟨_,a₁,w₁,hq,.of_steps (.one h0 stepR_seq) (.pass (x:=.code y) rfl (fun _ _=>.inl ZPm) harr)⟩):p:=h
theorem ZTL{p:Prop}(h:p:=by exact⟨_,rfl,hown,hB⟩):p:=h
theorem ZTM{p:Prop}(h:p:=by exact⟨by rw[HX.out],⟨1,_,_,rfl,.inl rfl⟩,fun _=>ZPt⟩):p:=h
theorem ZTN{p:Prop}(h:p:=by exact⟨e',w'',fr',hR,ComesIn.of_steps hs₀ hs,hfn,hl⟩):p:=h
theorem ZTO{p:Prop}(h:p:=by exact⟨fun h=>by rw[if_pos h]at e;exact e.symm,fun h=>by rw[if_neg h]at e;exact e⟩):p:=h
theorem ZTP{p:Prop}(h:p:=by exact⟨fun l h=>h,fun h=>ZPs⟩):p:=h
theorem ZTQ{p:Prop}(h:p:=by exact⟨fun v hv=>by simpa[Zr]using hv,fun a o _=>by simp[YM]⟩):p:=h
theorem ZTR{p:Prop}(h:p:=by exact⟨g,e,hg,(hf _).trans c1,(hf _).trans c2,(hf _).trans c3⟩):p:=h
theorem ZTS{p:Prop}(h:p:=by exact⟨hL,hdone W' _ hj (UY.put ..) ((World.putObj_heap_other U).trans hD)⟩):p:=h
theorem ZTT{p:Prop}(h:p:=by exact⟨hlow.os,hlow.tape,hlow.output,ZRu,fun b hb=>(World.putObj_heap_other U).trans (hlow.block b hb)⟩):p:=h
theorem ZTU{p:Prop}(h:p:=by exact⟨hok0.len,hok0.le,by show gs.length≤400;omega,hok0.tab⟩):p:=h
theorem ZTV{p:Prop}(h:p:=by exact⟨j+1,U,rfl,ZPp,hB.trans (hB1.mono hB.size),by show _=_;rw[HR.out];rfl⟩):p:=h
theorem ZTW{p:Prop}(h:p:=by exact⟨k+1,U,rfl,ZPp,ZA,hK2.trans hK3,fun _ _ _ _=>HN.out⟩):p:=h
theorem ZTX{p:Prop}(h:p:=by exact⟨k+1,U,rfl,ZPp,ZB,hKW,Q7.out JJ.out⟩):p:=h
theorem ZTY{p:Prop}(h:p:=by exact⟨k+1,U,rfl,ZPp,ZB,hKW,Q7.out UT.out⟩):p:=h
theorem ZTZ{p:Prop}(h:p:=by exact⟨k+1,U,rfl,ZPp,hB.trans (hB2.mono hB.size),HN⟩):p:=h
theorem ZT0{p:Prop}(h:p:=by exact⟨k3,_,_,rfl,hl3,U,hne5,by rw[HL5.out];omega,ZhV,ZRK,HD5,hR5,XL,ZhB.grown hgrow hrow,Zoi Zhv ZaM hgrow⟩):p:=h
theorem ZT1{p:Prop}(h:p:=by exact⟨k3,k5,_,_,_,s5,rfl,hl5,U,rfl,rfl,HD5,HR5.out,XL,HS5,Xy,hK4.trans Yg⟩):p:=h
theorem ZT2{p:Prop}(h:p:=by exact⟨none,0,by rw[h0],fun i hi=>U⟩):p:=h
theorem ZT3{p:Prop}(h:p:=by exact⟨none,0,rfl,fun i hi=>ZPX⟩):p:=h
theorem ZT4{p:Prop}(h:p:=by exact⟨p+1,U,U,rfl,ZPp,ZA,(hK.trans hK3),.inl ⟨rfl,⟨_,rfl⟩,Yq.out HN.out⟩⟩):p:=h
theorem ZT5{p:Prop}(h:p:=by exact⟨p+1,U,U,rfl,ZPp,ZB,hKW,.inl ⟨rfl,⟨_,rfl⟩,Yq.out HN.out⟩⟩):p:=h
theorem ZT6{p:Prop}(h:p:=by exact⟨p+1,U,U,rfl,ZPp,ZB,hKW,Yq.out JJ.out⟩):p:=h
theorem ZT7{p:Prop}(h:p:=by exact⟨p+1,U,U,rfl,ZPp,ZB,hKW,Yq.out UT.out⟩):p:=h
theorem ZT8{p:Prop}(h:p:=by exact⟨p+1,U,U,rfl,ZPp,hC,hK,.inl ⟨rfl,⟨_,rfl⟩,Yq.out HN.out⟩⟩):p:=h
theorem ZT9{p:Prop}(h:p:=by exact⟨p+1,U,U,rfl,ZPp,hC,hK,Yq.out HN.out⟩):p:=h
theorem ZUa{p:Prop}(h:p:=by exact⟨q,out,U,U,rfl,rfl,hown,hB,HL.out q HLL.out⟩):p:=h
theorem ZU2{p:Prop}(h:p:=by have e2:=HE.out;rw[Z0 ws (i:=p) U hj,Z0 ws (i:=p+1) U hj,show p+1+1=p+2 from rfl,e2,←Jz.out];exact .QX HT.out HH.out t1 t2 hl hd):p:=h
theorem ZU3{p:Prop}(h:p:=by have h1:=h.cells (g:=g) rfl _ _ e1;have h2:=h.cells (g:=g) rfl _ _ e2;have h3:=h.cells (g:=g) rfl _ _ e3;rw[Addr.add_lit,Nat.zero_add]at h1 h2 h3;exact⟨h1,h2,h3⟩):p:=h
theorem ZU5{p:Prop}(h:p:=by have hK':Zb J wr ((wr.drewN n1).setCell ⟨J,1,none⟩ (.bool true)):=(Zb.drew _ _ n1).trans (Zb.set _ _ _ _);exact⟨j+1,gs,true,.slice av gs.length JE,U,U,rfl,ZPp,hK.trans hK',hSm.trans ((Same.X6 hK').mono ZPm) hsz,Nat.le_trans hsz hK'.size,hK'.obj U ho,Zis hown Zfs hK',Jg.eq (Jg.lost (Jg.drew hJ.out n1)) (Zvb _ _),KG⟩):p:=h
theorem ZU7{p:Prop}(h:p:=by have hb6:=XM (Below.refl w3.heap.size w5) hsz5 hown5 hgrow;exact⟨i+1,U,U,rfl,ZPp,ZRW,ZfJ Zfu hb6 (Nat.le_refl _),Jg.eq (ZeF hj5 hb6 hJ3) ZRX⟩):p:=h
theorem ZU8{p:Prop}(h:p:=by have hlt:g<w.heap.size:=(Array.getElem?_eq_some_iff.1 hh).1;exact .inr ⟨g,cap,cur,rfl,hg,(hb.block g hlt).trans hh,r⟩):p:=h
theorem ZU9{p:Prop}(h:p:=by have hs:=Zb.set b w o v;exact⟨hs.os.trans h.os,hs.tape.trans h.tape,hs.output.trans h.output,Nat.le_trans h.size hs.size,fun g hg hl=>(hs.block g U (Nat.lt_of_lt_of_le hl h.size)).trans (h.block g hg hl)⟩):p:=h
theorem ZVa{p:Prop}(h:p:=by have:=(at_one HL.out e).1;omega):p:=h
theorem ZVb{p:Prop}(h:p:=by have:=ZA.Zw;simp;omega):p:=h
theorem ZVc{p:Prop}(h:p:=by have:=Zf.Zw;simp;omega):p:=h
theorem ZVd{p:Prop}(h:p:=by have:=hGm.stop ZPO;rw[List.getElem_drop,List.drop_drop]at this;exact this):p:=h
theorem ZVe{p:Prop}(h:p:=by have:=hc j ZRF;rw[List.getElem_map]at this;exact this):p:=h
theorem ZVf{p:Prop}(h:p:=by have:=w3 hx;simp only[hx,hy,List.length_append,List.length_cons,List.length_nil,Bool.false_eq_true,if_false,if_true]at a3 ⊢;omega):p:=h
theorem ZVg{p:Prop}(h:p:=by have:¬typ≠Xr:=fun h=>hbad (.inr (.inr h));simpa[Xr]using this):p:=h
theorem ZVh{p:Prop}(h:p:=by intro _ o s ho;rw[List.append_assoc,ZfW h rfl o _ ho];exact ZfP o cmp _ ZPw rfl):p:=h
theorem ZVi{p:Prop}(h:p:=by intro g cap w' hown hgrow _ _;exact h g cap w' (XQ.Zsx hgrow hown)):p:=h
theorem ZVj{p:Prop}(h:p:=by intro hW hL;exact ih hW hL):p:=h
theorem ZVk{p:Prop}(h:p:=by intro hW hL;exact⟨Zdn,rfl⟩):p:=h
theorem ZVl{p:Prop}(h:p:=by intro hW hL;have h1:=Ym ih1;have h2:=Ym ih2;exact⟨Zbw h1.1 h2.1 (ZbX (Zk4 hu)),rfl⟩):p:=h
theorem ZVm{p:Prop}(h:p:=by intro hW hL;have h1:=Ym ih1;have h2:=Ym ih2;exact⟨Zbw h1.1 h2.1 (ZbX (by rw[hu];decide)),rfl⟩):p:=h
theorem ZVn{p:Prop}(h:p:=by intro hW hL;have h1:=Ym ih1;have h2:=Ym ih2;exact⟨Zbw h1.1 h2.1,rfl⟩):p:=h
theorem ZVo{p:Prop}(h:p:=by intro hW hL;have h1:=Ym ih;exact⟨Zec h1.1,rfl⟩):p:=h
theorem ZVp{p:Prop}(h:p:=by intro hW hL;have h1:=ih hW hL;exact⟨_,rfl,Zop h1.1 ZRo⟩):p:=h
theorem ZVq{p:Prop}(h:p:=by intro hW hL;have:=Ym ih;exact⟨this.1.mono ZPN,this.2⟩):p:=h
theorem ZVr{p:Prop}(h:p:=by intro hW hL;obtain⟨f,g,w,hh,nf,ng,nw,nh,rfl,h1,h2,h3,h4,h5⟩:=Ym ih;exact ZjO (ni:=0) (.inl rfl) h1 h2 h3 h4 ZPN hL):p:=h
theorem ZVs{p:Prop}(h:p:=by intro hW hL;obtain⟨x,rfl,h0⟩:=Ym ih1;obtain⟨f,g,w,hh,nf,ng,nw,nh,rfl,h1,h2,h3,h4,h5⟩:=Ym ih2;exact ZjO (.inr h0) h1 h2 h3 h4 ZPN hL):p:=h
theorem ZVt{p:Prop}(h:p:=by intro hW hL;obtain⟨x,rfl,h1⟩:=Ym ih1;have h2:=Ym ih2;exact⟨_,rfl,Zoq h1 h2.1 ZPN⟩):p:=h
theorem ZVu{p:Prop}(h:p:=by intro pre A h;refine⟨by simp[World.cell?,h.b2],fun c hc=>?_⟩;exact(h.low.cell (p:=⟨1,c.toNat,none⟩) hS.1).trans (hS.2 c hc)):p:=h
theorem ZVv{p:Prop}(h:p:=by intro pre A n h;have hd:=ZW (Below.refl A.heap.size A) n;exact h.same hd.size hd.os hd.tape hd.output (fun b _=>by rw[heap_drewN])):p:=h
theorem ZVw{p:Prop}(h:p:=by intro r r' hf hg;exact QG (fun n=>ZPQ) (full ih hf) (VO hg rfl)):p:=h
theorem ZVx{p:Prop}(h:p:=by intro r r' hf hg;obtain rfl:=Xg hg rfl;exact EM (fun n=>ZPU)):p:=h
theorem ZVy{p:Prop}(h:p:=by intro r r' hf hg;obtain rfl:=Xg hg rfl;exact EM (fun n=>by simp[parse])):p:=h
theorem ZVz{p:Prop}(h:p:=by intro r r' hf hg;obtain rfl:=Xg hg rfl;exact VY (fun n=>ZPT) (ZdG (full ih (XG rfl)))):p:=h
theorem ZVA{p:Prop}(h:p:=by intro r r' hf hg;obtain rfl:=Xg hg rfl;exact VY (fun n=>ZPT) (full ih hf)):p:=h
theorem ZVB{p:Prop}(h:p:=by intro r r' hf hg;obtain rfl:=Xg hg rfl;exact VY (fun n=>by simp[parse,skip,Zz]) (full ih (hf.mono ZPz))):p:=h
theorem ZVC{p:Prop}(h:p:=by intro r r' hf hg;obtain rfl:=Xg hg rfl;rw[List.append_assoc];exact QG (fun n=>ZfU h n _) (full ih (XG rfl)) (EM (fun n=>ZPU))):p:=h
theorem ZVD{p:Prop}(h:p:=by intro r r' hf hg;rw[List.append_assoc];exact ih1 r _ (XG rfl) (Zck rfl (QG (fun n=>ZPT) (full ih2 hf) (VO hg rfl)))):p:=h
theorem ZVE{p:Prop}(h:p:=by intro w h;have h1:=World.ownsMap.len h Tryz.underlying72 3;rw[Zpf,(ZmM _).2 hI.nd]at h1;exact h1):p:=h
theorem ZVF{p:Prop}(h:p:=by obtain rfl:=List.mem_singleton.1 hr;exact⟨KI.out.1,KI.out.2,HDK.out.tab t (List.mem_of_getElem? e1)⟩):p:=h
theorem ZVG{p:Prop}(h:p:=by obtain rfl:=List.mem_singleton.1 hr;exact⟨_,_,_,rfl⟩):p:=h
theorem ZVH{p:Prop}(h:p:=by obtain⟨N,hN⟩:=h1;refine⟨N+1,fun n hn=>?_⟩;obtain⟨m,rfl⟩:∃m,n=m+1:=⟨n-1,U⟩;rw[h m];exact hN m U):p:=h
theorem ZVI{p:Prop}(h:p:=by obtain⟨_,t0⟩:=ZQ HY;rw[Z0 ws hi hj];exact .Vf t0 hd3):p:=h
theorem ZVJ{p:Prop}(h:p:=by obtain⟨a,cap,rfl,hc⟩:=h;refine⟨a,cap,rfl,fun i hi=>?_⟩;obtain⟨g,cu,e,ho,c0⟩:=hc i hi;exact⟨g,cu,e,hs g cu ho,(World.cell?_of_block (a:=⟨g,i,none⟩) ((hs g cu ho).trans ho.symm)).trans c0⟩):p:=h
theorem ZVK{p:Prop}(h:p:=by obtain⟨b2,_,_,_,_,_,rfl,_⟩:=hP;exact⟨_,rfl⟩):p:=h
theorem ZVL{p:Prop}(h:p:=by obtain⟨es,clock,hb,r⟩:=h;exact⟨es,clock,hB.trans hb,r⟩):p:=h
theorem ZVM{p:Prop}(h:p:=by obtain⟨g,cu,e,ho,d0,d1,d2⟩:=hsc k hk;have hgl:=(Array.getElem?_eq_some_iff.1 ho).1;exact⟨g,e,(hB.cell (p:=⟨g,k*3,none⟩) hgl).trans d0,(hB.cell (p:=⟨g,k*3+1,none⟩) hgl).trans d1,(hB.cell (p:=⟨g,k*3+2,none⟩) hgl).trans d2⟩):p:=h
theorem ZVN{p:Prop}(h:p:=by obtain⟨g,e,hg,c1,c2,c3⟩:=h2 i hi;exact⟨g,e,hg,hk.cell hg c1,hk.cell hg c2,hk.cell hg c3⟩):p:=h
theorem ZVO{p:Prop}(h:p:=by obtain⟨hl,e⟩:=ZQ ((ZZ h.ok ([97,108,108],T.Xl) ZPl ZPl (p+1)).1 hh);exact⟨hl,ZPP⟩):p:=h
theorem ZVP{p:Prop}(h:p:=by obtain⟨hl,e⟩:=ZQ ((ZZ h.ok ([97,110,121],T.Zay) ZPl ZPl (p+1)).1 hh);exact⟨hl,ZPP⟩):p:=h
theorem ZVQ{p:Prop}(h:p:=by obtain⟨j,hj,e⟩:=List.getElem_of_mem hm;exact hno.out j hj U e.symm):p:=h
theorem ZVR{p:Prop}(h:p:=by obtain⟨k',hk',e'⟩:=ZrN h.ok e;have h6:k'<6:=hk';exact Y4.out k' U hk' e' ha):p:=h
theorem ZVS{p:Prop}(h:p:=by obtain⟨t,r,e,h⟩:=ih;exact⟨t,r,e,h⟩):p:=h
theorem ZVT{p:Prop}(h:p:=by obtain⟨t,r,rfl,h⟩:=ih;exact⟨t,_,rfl,ZRf⟩):p:=h
theorem ZVU{p:Prop}(h:p:=by obtain⟨t,r,rfl,h⟩:=ih;exact⟨t,_,rfl,h⟩):p:=h
theorem ZVV{p:Prop}(h:p:=by obtain⟨y,hy,hb⟩:=ih'.2 hp m hf;exact⟨y,List.mem_cons_of_mem _ hy,hb⟩):p:=h
theorem ZVW{p:Prop}(h:p:=by refine bind_congr (fun y hy=>ih _ _ (less _ _ _ _ h ?_));have:=Ul hy;simp only[List.length_cons]at hl;omega):p:=h
theorem ZVX{p:Prop}(h:p:=by refine hP.move ((((((Zb.of Pb hBW).trans (Zb.set Pb _ _ _)).ER (Nat.le_refl _) _ _).ER (Nat.le_refl _) _ _).ER (Nat.le_refl _) _ _).trans (Zb.alloc Pb _ _)) U (fun wa cap h1=>?_);have g1:=Xn (k:=1) (u:=.int .i64 ((k:Int)+1)) ((hBW.block Pb hPW).trans h1);refine((Zb.alloc (Pb+1) _ _).obj U ?_);rw[Below.heap_setCell _ _ _ _ ZQm,Below.heap_setCell _ _ _ _ ZQm,Below.heap_setCell _ _ _ _ ZQm];exact g1):p:=h
theorem ZVZ{p:Prop}(h:p:=by refine⟨Yo.low.grown K5 U (fun b e=>ZQt),(VW _ U U).trans Yo.b1,(VW _ U U).trans Yo.b2,Nat.le_trans hs2 K5.size,?_⟩;rw[ZkZ]at ho8;rw[List.length_append];exact ho8):p:=h
theorem ZV0{p:Prop}(h:p:=by refine⟨k+n+m,out++ [w0],U,ZPo,rfl,ZPp,?_,XM hBt hBt.size (hown1.alloc _) hgrow,HSm,HXm⟩;rw[HPC.out,List.length_append];exact hown'):p:=h
theorem ZV1{p:Prop}(h:p:=by refine⟨k+n,out++ [⟨so,te,nu⟩],U,ZPo,rfl,ZPp,?_,XM hBw hBw.size (hown1.alloc _) hgrow,HXX⟩;rw[show UN (out++ [⟨so,te,nu⟩])=UN out++ [.string ⟨so.toArray⟩,.string ⟨te.toArray⟩,.int .i64 nu] from ZQJ,List.length_append];exact hown'):p:=h
theorem ZV2{p:Prop}(h:p:=by rename_i a b u _ _;intro r r' hf hg;rw[List.append_assoc];exact ih1 r _ (XG ZQC) (Zck rfl (QG (fun n=>ZRM) (full ih2 hf) (VO hg rfl)))):p:=h
theorem ZV3{p:Prop}(h:p:=by rename_i a q _;intro r r' hf hg;obtain rfl:=Xg hg rfl;rw[List.append_assoc];exact QG (fun n=>ZfU h n _) (full ih1 (XG rfl)) (VY (k:=round query) (l':=lp::(q++ [rp])++r') (fun n=>ZPU) (ZdG (full ih2 (XG rfl))))):p:=h
theorem ZV4{p:Prop}(h:p:=by rintro e w' ⟨N,rfl,_,_,hB⟩;exact⟨hB,.inr ⟨(by intro v h;cases h),_,_,_,rfl⟩⟩):p:=h
theorem ZWb{p:Prop}(h:p:=by rintro k A n ⟨h1,h2,h3⟩;exact⟨hJd k A n h1,ZRr,ZRs⟩):p:=h
theorem ZWc{p:Prop}(h:p:=by rw[Addr.add_lit,Nat.zero_add]at this;exact this):p:=h
theorem ZWd{p:Prop}(h:p:=by rw[Addr.add_lit]at this;simpa using this):p:=h
theorem ZWe{p:Prop}(h:p:=by rw[Bool.eq_iff_iff,beq_iff_eq,beq_iff_eq];exact eq_comm):p:=h
theorem ZWf{p:Prop}(h:p:=by rw[Bool.eq_iff_iff];simp only[decide_eq_true_eq,Bool.or_eq_true,Bool.and_eq_true,beq_iff_eq,iff_true,true_iff,Bool.false_eq_true,iff_false,false_iff];omega):p:=h
theorem ZWg{p:Prop}(h:p:=by rw[Good]at hgd;exact hgd.elim):p:=h
theorem ZWk{p:Prop}(h:p:=by rw[Ky w U]at hne;exact absurd rfl hne):p:=h
theorem ZWl{p:Prop}(h:p:=by rw[List.append_assoc,ih1 rfl o _ ho,List.cons_append,QH o u _ U e0.2,e0.1,Int.add_zero];exact ih2 rfl o s ho):p:=h
theorem ZWm{p:Prop}(h:p:=by rw[List.length_append]at this;simp only[List.length_cons,List.length_nil]at *;omega):p:=h
theorem ZWn{p:Prop}(h:p:=by rw[List.length_eq_zero_iff.1 h0];exact⟨none,0,rfl,fun i hi=>ZPX⟩):p:=h
theorem ZWo{p:Prop}(h:p:=by rw[QH o lp _ ZPw rfl,List.append_assoc,ih rfl _ _ ZPw];show YX _ (rp::s)=_;rw[QH _ rp _ ZPw rfl];simp[opened];congr 1;omega):p:=h
theorem ZWp{p:Prop}(h:p:=by rw[V4 ws U]at hne;exact absurd rfl hne):p:=h
theorem ZWq{p:Prop}(h:p:=by rw[World.size_alloc]at this;exact this):p:=h
theorem ZWr{p:Prop}(h:p:=by rw[X7]at h;obtain⟨b,_,_,_,_,_,_,rfl,_⟩:=h;exact⟨_,rfl⟩):p:=h
theorem ZWs{p:Prop}(h:p:=by rw[Z0 ws (i:=p) U hj,←Jz.out];exact .J9 HT.out hl hd3):p:=h
theorem ZWt{p:Prop}(h:p:=by rw[Z0 ws hi hj,HE.out,←Jz.out];exact .QO Yl.out.1 t1 t2 hd):p:=h
theorem ZWu{p:Prop}(h:p:=by rw[Zan ws (i:=i) (p:=p) U hlt hj];exact e):p:=h
theorem ZWw{p:Prop}(h:p:=by rw[hc]at h;simpa using h):p:=h
theorem ZWx{p:Prop}(h:p:=by rw[if_neg d];simp only[List.length_append,List.length_cons,List.length_nil];omega):p:=h
theorem ZWy{p:Prop}(h:p:=by rw[nd,jx,if_neg ZPl,if_neg ZPl,if_neg ZPl,if_neg ZPl];exact .inl rfl):p:=h
theorem ZWz{p:Prop}(h:p:=by rw[parse,parse];exact two _ _ _ ZPG ZPl):p:=h
theorem ZWA{p:Prop}(h:p:=by rw[show(i+1)*3=i*3+3 from U,show i*3+3+1=i*3+1+3 from U,show i*3+3+2=i*3+2+3 from U,e,e,e];simpa using ih):p:=h
theorem ZWC{p:Prop}(h:p:=by rw[←hw3];exact(((Below.refl _ W).alloc (Nat.le_refl _) _).alloc ZPm _).alloc ZPo _):p:=h
theorem ZWD{p:Prop}(h:p:=by show(s.take _).length≤_;rw[List.length_take];omega):p:=h
theorem ZWE{p:Prop}(h:p:=by simp at h;subst h;simp only[World.cell?,hb];rfl):p:=h
theorem ZWF{p:Prop}(h:p:=by simp at hj;subst hj;exact hc):p:=h
theorem ZWG{p:Prop}(h:p:=by simp at this ⊢;omega):p:=h
theorem ZWH{p:Prop}(h:p:=by simp at this;omega):p:=h
theorem ZWI{p:Prop}(h:p:=by simp only[List.length_append,List.length_cons,List.length_nil];omega):p:=h
theorem ZWJ{p:Prop}(h:p:=by simp only[List.length_cons,List.length_nil]at hk;omega):p:=h
theorem ZWK{p:Prop}(h:p:=by simp only[List.length_cons];omega):p:=h
theorem ZWL{p:Prop}(h:p:=by simp only[Nat.zero_mul]at d1;rw[hc]at d1;exact hv _ (Option.some.inj d1)):p:=h
theorem ZWM{p:Prop}(h:p:=by simp only[hx,hy,List.length_append,List.length_cons,List.length_nil,Bool.false_eq_true,if_false,if_true]at a3 ⊢;omega):p:=h
theorem ZWN{p:Prop}(h:p:=by simpa using this):p:=h
theorem ZWQ:type_of% @if_neg:=@if_neg
theorem ZWR:type_of% @if_pos:=@if_pos
theorem ZWS:type_of% @Nat.le_refl:=@Nat.le_refl
theorem ZWU:type_of% @Array.getElem?_eq_some_iff:=@Array.getElem?_eq_some_iff
theorem ZWX:type_of% @List.getElem_mem:=@List.getElem_mem
theorem ZWY:type_of% @List.map_append:=@List.map_append
theorem ZWZ:type_of% @List.map_cons:=@List.map_cons
theorem ZW0:type_of% @Nat.le_trans:=@Nat.le_trans
theorem ZW1:type_of% @List.getElem?_eq_getElem:=@List.getElem?_eq_getElem
theorem ZW2:type_of% @List.map_nil:=@List.map_nil
theorem ZW3:type_of% @List.mem_cons:=@List.mem_cons
theorem ZW5:type_of% @List.length_map:=@List.length_map
theorem ZW7:type_of% @List.append_assoc:=@List.append_assoc
theorem ZW8:type_of% @Nat.zero_le:=@Nat.zero_le
theorem ZW9:type_of% @List.length_append:=@List.length_append
theorem ZXc:type_of% @Option.some.inj:=@Option.some.inj
theorem ZXe:type_of% @List.mem_cons_of_mem:=@List.mem_cons_of_mem
theorem ZXh:type_of% @List.mem_singleton:=@List.mem_singleton
theorem ZXi:type_of% @Nat.lt_of_lt_of_le:=@Nat.lt_of_lt_of_le
theorem ZXj:type_of% @List.mem_map:=@List.mem_map
theorem ZXk:type_of% @List.cons.inj:=@List.cons.inj
theorem ZXl:type_of% @List.drop_eq_getElem_cons:=@List.drop_eq_getElem_cons
theorem ZXn:type_of% @List.mem_cons_self:=@List.mem_cons_self
theorem ZXo:type_of% @List.length_drop:=@List.length_drop
theorem ZXq:type_of% @List.getElem?_eq_some_iff:=@List.getElem?_eq_some_iff
theorem ZXs:type_of% @List.takeWhile_cons:=@List.takeWhile_cons
theorem ZXt:type_of% @List.mem_append:=@List.mem_append
theorem ZXw:type_of% @decide_eq_true_eq:=@decide_eq_true_eq
theorem ZXx:type_of% @Bool.or_assoc:=@Bool.or_assoc
theorem ZXy:type_of% @List.setIfInBounds_toArray:=@List.setIfInBounds_toArray
theorem ZXA:type_of% @List.take_succ_eq_append_getElem:=@List.take_succ_eq_append_getElem
theorem ZXB:type_of% @List.take_of_length_le:=@List.take_of_length_le
theorem ZXD:type_of% @decide_eq_false:=@decide_eq_false
theorem ZXF:type_of% @List.drop_drop:=@List.drop_drop
theorem ZXG:type_of% @Bool.eq_iff_iff:=@Bool.eq_iff_iff
theorem ZXH:type_of% @List.drop_eq_nil_of_le:=@List.drop_eq_nil_of_le
theorem ZXI:type_of% @List.contains_iff_mem:=@List.contains_iff_mem
theorem ZXJ:type_of% @Nat.lt_succ_self:=@Nat.lt_succ_self
theorem ZXK:type_of% @or_false:=@or_false
theorem ZXL:type_of% @of_decide_eq_true:=@of_decide_eq_true
theorem ZXM:type_of% @Or.inr:=@Or.inr
theorem ZXN:type_of% @Bool.and_eq_true:=@Bool.and_eq_true
theorem ZXO:type_of% @if_false:=@if_false
theorem ZXP:type_of% @Nat.succ_pos:=@Nat.succ_pos
theorem ZXQ:type_of% @List.all_eq_true:=@List.all_eq_true
theorem ZXR:type_of% @if_true:=@if_true
theorem ZXS:type_of% @List.length_take:=@List.length_take
theorem ZXT:type_of% @beq_iff_eq:=@beq_iff_eq
theorem ZXU:type_of% @List.getElem?_map:=@List.getElem?_map
theorem ZXV:type_of% @List.not_mem_nil:=@List.not_mem_nil
theorem ZXW:type_of% @List.mem_of_getElem?:=@List.mem_of_getElem?
theorem ZXX:type_of% @decide_eq_true:=@decide_eq_true
theorem ZXY:type_of% @List.size_toArray:=@List.size_toArray
theorem ZXZ:type_of% @Array.replicate_succ:=@Array.replicate_succ
theorem ZX0:type_of% @List.push_toArray:=@List.push_toArray
theorem ZX1:type_of% @List.append_toArray:=@List.append_toArray
theorem ZX2:type_of% @List.map_map:=@List.map_map
theorem ZX4:type_of% @List.getElem_of_mem:=@List.getElem_of_mem
theorem ZX5:type_of% @Nat.zero_add:=@Nat.zero_add
theorem ZX6:type_of% @List.getD_eq_getElem?_getD:=@List.getD_eq_getElem?_getD
theorem ZX7:type_of% @List.length_eq_zero_iff:=@List.length_eq_zero_iff
theorem ZX8:type_of% @beq_eq_false_iff_ne:=@beq_eq_false_iff_ne
theorem ZYa:type_of% @Nat.le_of_eq:=@Nat.le_of_eq
theorem ZYb:type_of% @List.append_nil:=@List.append_nil
theorem ZYc:type_of% @Bool.or_false:=@Bool.or_false
theorem ZYd:type_of% @List.drop_length:=@List.drop_length
theorem ZYe:type_of% @Option.some.injEq:=@Option.some.injEq
theorem ZYf:type_of% @Bool.not_eq_true':=@Bool.not_eq_true'
theorem ZYg:type_of% @Nat.le_of_lt:=@Nat.le_of_lt
theorem ZYh:type_of% @List.any_eq_true:=@List.any_eq_true
theorem ZYi:type_of% @Bool.true_and:=@Bool.true_and
theorem ZYj:type_of% @List.mem_range:=@List.mem_range
theorem ZYk:type_of% @Bool.eq_false_or_eq_true:=@Bool.eq_false_or_eq_true
theorem ZYl:type_of% @decide_eq_false_iff_not:=@decide_eq_false_iff_not
theorem ZYm:type_of% @List.nodup_cons:=@List.nodup_cons
theorem ZYn:type_of% @List.mem_iff_getElem:=@List.mem_iff_getElem
theorem ZYo:type_of% @List.contains_eq_mem:=@List.contains_eq_mem
theorem ZYp:type_of% @List.getElem_map:=@List.getElem_map
theorem ZYq:type_of% @List.takeWhile_sublist:=@List.takeWhile_sublist
theorem ZYr:type_of% @UInt8.toNat_inj:=@UInt8.toNat_inj
theorem ZYs:type_of% @List.drop_zero:=@List.drop_zero
theorem ZYt:type_of% @Option.map_map:=@Option.map_map
theorem ZYu:type_of% @Bool.or_eq_true:=@Bool.or_eq_true
theorem ZYv:type_of% @List.take_length:=@List.take_length
theorem ZYw:type_of% @List.flatMap_append:=@List.flatMap_append
theorem ZYx:type_of% @Bool.and_false:=@Bool.and_false
theorem ZYy:type_of% @List.zip_append:=@List.zip_append
theorem ZYz:type_of% @List.getElem?_eq_none:=@List.getElem?_eq_none
theorem ZYA:type_of% @List.mem_append_left:=@List.mem_append_left
theorem ZYB:type_of% @List.drop_of_length_le:=@List.drop_of_length_le
theorem ZYC:type_of% @List.getElem?_append_right:=@List.getElem?_append_right
end Go.Proofs.YthmlacabmlghbaaGreatDoor
