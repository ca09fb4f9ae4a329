import Derived.Test.YtamfmffdgidmgaaGreatDoorBgJa31
section
namespace Go.Proofs.YtamfmffdgidmgaaGreatDoor
open Go.RowKit
namespace Gr
set_option linter.unusedSimpArgs false
set_option linter.unusedVariables false
/-- a condition that is there, or is not -/
def OptV (W : World) (v : Value) (o : Option Bg.Str) : Prop := (o = none ∧ v = .nilIface) ∨ ∃ x, o = some x ∧ SayV W v x ∧ x.length ≤ 400000
theorem opt_is {W : World} {v : Value} {o : Option Bg.Str} (h : OptV W v o) : ∃ b : Bool, Hid ((b = false ∧ o = none ∧ v = .nilIface) ∨ (b = true ∧ ∃ x, o = some x ∧ SayV W v x ∧ x.length ≤ 400000)) ∧ (∀ W', (binOp .neq 304 v .nilIface).run Tryz.prog W' = .ok (.bool b) W') ∧ ∀ n W', (eqGuard .neq 304 (.tmp n) (.const .nilIface) v .nilIface).run Tryz.prog W' = .ok () W' := by
  rcases h with ⟨h1, rfl⟩ | ⟨x, h1, h2, h3⟩
  · exact ⟨false, .inl ⟨rfl, h1, rfl⟩, fun _ => by kernel_rfl, fun _ _ => by kernel_rfl⟩
  · obtain ⟨T, y, _, _, rfl, _⟩ := id h2
    exact ⟨true, .inr ⟨rfl, x, h1, h2, h3⟩, fun _ => by kernel_rfl, fun _ _ => by kernel_rfl⟩
def optP (k : Bg.Str) : Option Bg.Str → Bg.Str
  | some x => k ++ x
  | none => []
theorem selP_eq (f : Fl) (is fs gs : List Bg.Str) (w h : Option Bg.Str) : selP f is fs gs w h = q1 f ++ (if f.star then [42] else []) ++ (commas is ++ [32, 102, 114, 111, 109, 32] ++ commas fs) ++ optP [32, 119, 104, 101, 114, 101, 32] w ++ (if gs = [] then [] else [32, 103, 114, 111, 117, 112, 32, 98, 121, 32] ++ commas gs) ++ optP [32, 104, 97, 118, 105, 110, 103, 32] h := by
  unfold selP q1
  cases w <;> cases h <;> simp [optP]
def qd (d : Bool) : Bg.Str := [115, 101, 108, 101, 99, 116, 32] ++ (if d then [100, 105, 115, 116, 105, 110, 99, 116, 32] else [])
theorem new6 (w : World) (a b c d e f : Value) (ty : TypeId) : (w.alloc (.cells #[a, b, c, d, e, f] ty)).cell? ⟨w.heap.size, 0, none⟩ = some a ∧ (w.alloc (.cells #[a, b, c, d, e, f] ty)).cell? ⟨w.heap.size, 1, none⟩ = some b ∧ (w.alloc (.cells #[a, b, c, d, e, f] ty)).cell? ⟨w.heap.size, 2, none⟩ = some c ∧ (w.alloc (.cells #[a, b, c, d, e, f] ty)).cell? ⟨w.heap.size, 3, none⟩ = some d ∧ (w.alloc (.cells #[a, b, c, d, e, f] ty)).cell? ⟨w.heap.size, 4, none⟩ = some e ∧ (w.alloc (.cells #[a, b, c, d, e, f] ty)).cell? ⟨w.heap.size, 5, none⟩ = some f := by
  have h := heap_alloc_new w (.cells #[a, b, c, d, e, f] ty)
  exact ⟨by simp only [World.cell?, h]; rfl, by simp only [World.cell?, h]; rfl, by simp only [World.cell?, h]; rfl, by simp only [World.cell?, h]; rfl, by simp only [World.cell?, h]; rfl, by simp only [World.cell?, h]; rfl⟩
set_option maxRecDepth 10000 in
set_option maxHeartbeats 4000000 in
theorem w_select0 (W : World) (d c : Bool) (ai af ag : Option Addr) (capi capf capg ni nf ng : Nat) (w h : Value) (yi yf yg : Bg.Str) (ow oh : Option Bg.Str)
    (PI : Hid (∀ W', Below W.heap.size W W' → Says 308 #[.slice ai ni capi] yi W'))
    (PF : Hid (∀ W', Below W.heap.size W W' → Says 309 #[.slice af nf capf] yf W'))
    (PG : Hid (∀ W', Below W.heap.size W W' → Says 310 #[.slice ag ng capg] yg W'))
    (li : ni ≤ 400) (lg : ng ≤ 400) (ci : yi.length ≤ 400000) (cf : yf.length ≤ 400000) (cg : yg.length ≤ 400000)
    (HST : Hid (c = true ↔ ni = 0)) (hw : OptV W w ow) (hh : OptV W h oh) (W0 : World) (hB : Below W.heap.size W W0) :
    Says 307 #[.agg #[.bool d, .slice ai ni capi, .slice af nf capf, w, .slice ag ng capg, h]] (qd d ++ (if c then [42] else []) ++ (yi ++ [32, 102, 114, 111, 109, 32] ++ yf) ++ optP [32, 119, 104, 101, 114, 101, 32] ow ++ (if ng = 0 then [] else [32, 103, 114, 111, 117, 112, 32, 98, 121, 32] ++ yg) ++ optP [32, 104, 97, 118, 105, 110, 103, 32] oh) W0 := by
  have hap := Bg.app_mk
  obtain ⟨bw, HW, ew, ew2⟩ := opt_is hw
  obtain ⟨bh, HH, eh, eh2⟩ := opt_is hh
  clear hw hh
  obtain ⟨R, hR⟩ : ∃ R, R = qd d ++ (if c then [42] else []) ++ (yi ++ [32, 102, 114, 111, 109, 32] ++ yf) ++ optP [32, 119, 104, 101, 114, 101, 32] ow ++ (if ng = 0 then [] else [32, 103, 114, 111, 117, 112, 32, 98, 121, 32] ++ yg) ++ optP [32, 104, 97, 118, 105, 110, 103, 32] oh := ⟨_, rfl⟩
  rw [← hR]
  have HR : Hid (R = qd d ++ (if c then [42] else []) ++ (yi ++ [32, 102, 114, 111, 109, 32] ++ yf) ++ optP [32, 119, 104, 101, 114, 101, 32] ow ++ (if ng = 0 then [] else [32, 103, 114, 111, 117, 112, 32, 98, 121, 32] ++ yg) ++ optP [32, 104, 97, 118, 105, 110, 103, 32] oh) := hR
  clear hR
  unfold Says
  go_enter Tryz.func307, Tryz.ntmps307
  go_upto_if 5 with fail
  have hBa : Below W.heap.size W (W0.alloc (.cells #[.bool d, .slice ai ni capi, .slice af nf capf, w, .slice ag ng capg, h] 307)) := hB.alloc hB.size _
  have hB0 : Below W0.heap.size W0 (W0.alloc (.cells #[.bool d, .slice ai ni capi, .slice af nf capf, w, .slice ag ng capg, h] 307)) := wsum _
  obtain ⟨z0, z1, z2, z3, z4, z5⟩ := new6 W0 (.bool d) (.slice ai ni capi) (.slice af nf capf) w (.slice ag ng capg) h 307
  have hsz : W0.heap.size < (W0.alloc (.cells #[.bool d, .slice ai ni capi, .slice af nf capf, w, .slice ag ng capg, h] 307)).heap.size := by simp
  generalize W0.alloc (.cells #[.bool d, .slice ai ni capi, .slice af nf capf, w, .slice ag ng capg, h] 307) = A at hBa hB0 z0 z1 z2 z3 z4 z5 hsz ⊢
  have HK : Hid (A.cell? ⟨W0.heap.size, 3, none⟩ = some w ∧ A.cell? ⟨W0.heap.size, 4, none⟩ = some (.slice ag ng capg) ∧ A.cell? ⟨W0.heap.size, 5, none⟩ = some h) := ⟨z3, z4, z5⟩
  go_cut [3] (fun sv wx => sv = .string ⟨(qd d).toArray⟩ ∧ A = wx)
  case first =>
    cases d
    · go_wp2_with fail
      go_meet
      case rel => exact ⟨rfl, rfl⟩
    · go_wp2_with fail
      go_meet
      case rel => exact ⟨rfl, rfl⟩
  case rest =>
    obtain ⟨rfl, rfl⟩ := hcut
    have l1 : (qd d).length ≤ 100 := by cases d <;> decide
    generalize hq1 : (qd d) = s1 at l1 ⊢
    have HQ1 : Hid ((qd d) = s1) := hq1
    clear hq1
    go_upto_if 11 with fail
    go_cut [3] (fun sv wx => sv = .string ⟨(s1 ++ if c then [42] else []).toArray⟩ ∧ A = wx)
    case first =>
      by_cases h0 : ni = 0
      · have e : Hid (c = true) := HST.out.2 h0
        subst h0
        go_wp2_with fail
        go_meet
        case rel => exact ⟨by simp [e.out], rfl⟩
      · have e : Hid (c = false) := by
          show _ = _
          cases c
          · rfl
          · exact absurd (HST.out.1 rfl) h0
        have h0' : ((ni : Int) == 0) = false := by simpa using h0
        clear h0
        go_wp2_with fail
        go_meet
        case rel => exact ⟨by simp [e.out], rfl⟩
    case rest =>
      obtain ⟨rfl, rfl⟩ := hcut
      have l2 : (s1 ++ if c then [42] else []).length ≤ 200 := by rw [List.length_append]; split <;> simp <;> omega
      generalize hq2 : (s1 ++ if c then [42] else []) = s2 at l2 ⊢
      have HQ2 : Hid ((s1 ++ if c then [42] else []) = s2) := hq2
      clear hq2
      clear l1 z0 HST z3 z4 z5
      go_wp2_with fail
      refine wp_region_held_drew (S := fun w' => w'.cell? ⟨W0.heap.size, 1, none⟩ = some (.slice ai ni capi) ∧ w'.cell? ⟨W0.heap.size, 2, none⟩ = some (.slice af nf capf)) (by kernel_rfl) ⟨z1, z2⟩ (fun hHeld => ?_)
      refine wpAnyH_take (i := 0) (v := ?_) rfl (by kernel_rfl) (by kernel_rfl) (by kernel_rfl) (fun _ _ _ h => h) (Or.inl ⟨by rfl, ?_⟩) (by assumption) ?_
      rotate_left
      · intro w hSw; (try dsimp only at hSw); go_simp <;> with_reducible rfl
      try simp only [Act.put, List.setIfInBounds_toArray, List.set_cons_zero, List.set_cons_succ, List.getElem_toArray, List.getElem_cons_zero, List.getElem_cons_succ]
      refine wpAnyH_take (i := 1) (v := ?_) rfl (by kernel_rfl) (by kernel_rfl) (by kernel_rfl) (fun _ _ _ h => h) (Or.inl ⟨by rfl, ?_⟩) (by assumption) ?_
      rotate_left
      · intro w hSw; (try dsimp only at hSw); go_simp <;> with_reducible rfl
      try simp only [Act.put, List.setIfInBounds_toArray, List.set_cons_zero, List.set_cons_succ, List.getElem_toArray, List.getElem_cons_zero, List.getElem_cons_succ]
      refine wpAnyH_take (i := 2) (v := ?_) rfl (by kernel_rfl) (by kernel_rfl) (by kernel_rfl) (fun _ _ _ h => h) (Or.inl ⟨by rfl, ?_⟩) (by assumption) ?_
      rotate_left
      · intro w hSw; (try dsimp only at hSw); go_simp <;> with_reducible rfl
      try simp only [Act.put, List.setIfInBounds_toArray, List.set_cons_zero, List.set_cons_succ, List.getElem_toArray, List.getElem_cons_zero, List.getElem_cons_succ]
      refine wpAnyH_take (i := 5) (v := ?_) rfl (by kernel_rfl) (by kernel_rfl) (by kernel_rfl) (fun _ _ _ h => h) (Or.inl ⟨by rfl, ?_⟩) (by assumption) ?_
      rotate_left
      · intro w hSw; (try dsimp only at hSw); go_simp <;> with_reducible rfl
      try simp only [Act.put, List.setIfInBounds_toArray, List.set_cons_zero, List.set_cons_succ, List.getElem_toArray, List.getElem_cons_zero, List.getElem_cons_succ]
      refine wpAnyH_take (i := 6) (v := ?_) rfl (by kernel_rfl) (by kernel_rfl) (by kernel_rfl) (fun _ _ _ h => h) (Or.inl ⟨by rfl, ?_⟩) (by assumption) ?_
      rotate_left
      · intro w hSw; (try dsimp only at hSw); go_simp <;> with_reducible rfl
      try simp only [Act.put, List.setIfInBounds_toArray, List.set_cons_zero, List.set_cons_succ, List.getElem_toArray, List.getElem_cons_zero, List.getElem_cons_succ]
      refine wpAnyH_ready (rs := [3]) (by kernel_rfl) (by simp) (AllReadyH.cons rfl (fun K hK => ?_) AllReadyH.nil)
      go_simp
      refine (PI.out _ (below_drew hBa)).mono ?_
      rintro e w1 ⟨rfl, hB1⟩
      go_simp
      have hB1' := below_in hB1
      have p1 := (hB1'.cell (p := ⟨W0.heap.size, 1, none⟩) hsz).trans z1
      have p2 := (hB1'.cell (p := ⟨W0.heap.size, 2, none⟩) hsz).trans z2
      refine hK.out _ _ ⟨p1, p2⟩ (fun hHeld => ?_)
      clear hK K
      refine wpAnyH_take (i := 4) (v := .string ⟨(yi ++ [32, 102, 114, 111, 109, 32]).toArray⟩) rfl (by kernel_rfl) (by kernel_rfl) (by kernel_rfl) (fun _ _ _ h => h) (Or.inl ⟨by rfl, ?_⟩) (by assumption) ?_
      · intro w hSw; clear hSw; go_simp <;> (try simp only [List.length_append, List.length_cons, List.length_nil]) <;> omega
      try simp only [Act.put, List.setIfInBounds_toArray, List.set_cons_zero, List.set_cons_succ, List.getElem_toArray, List.getElem_cons_zero, List.getElem_cons_succ]
      refine wpAnyH_ready (rs := [7]) (by kernel_rfl) (by simp) (AllReadyH.cons rfl (fun K hK => ?_) AllReadyH.nil)
      go_simp
      have hBb := hBa.trans (hB1'.mono hBa.size)
      refine (PF.out _ hBb).mono ?_
      rintro e w2 ⟨rfl, hB2⟩
      go_simp
      have hsz1 := Nat.lt_of_lt_of_le hsz hB1'.size
      refine hK.out _ _ ⟨(hB2.cell (p := ⟨W0.heap.size, 1, none⟩) hsz1).trans p1, (hB2.cell (p := ⟨W0.heap.size, 2, none⟩) hsz1).trans p2⟩ (fun hHeld => ?_)
      clear hK K
      refine wpAnyH_take (i := 8) (v := .string ⟨(yi ++ [32, 102, 114, 111, 109, 32] ++ yf).toArray⟩) rfl (by kernel_rfl) (by kernel_rfl) (by kernel_rfl) (fun _ _ _ h => h) (Or.inl ⟨by rfl, ?_⟩) (by assumption) ?_
      · intro w hSw; clear hSw; go_simp <;> (try simp only [List.length_append, List.length_cons, List.length_nil]) <;> omega
      try simp only [Act.put, List.setIfInBounds_toArray, List.set_cons_zero, List.set_cons_succ, List.getElem_toArray, List.getElem_cons_zero, List.getElem_cons_succ]
      refine wpAnyH_take (i := 9) (v := .string ⟨(s2 ++ (yi ++ [32, 102, 114, 111, 109, 32] ++ yf)).toArray⟩) rfl (by kernel_rfl) (by kernel_rfl) (by kernel_rfl) (fun _ _ _ h => h) (Or.inl ⟨by rfl, ?_⟩) (by assumption) ?_
      · intro w hSw; clear hSw; go_simp <;> (try simp only [List.length_append, List.length_cons, List.length_nil]) <;> omega
      try simp only [Act.put, List.setIfInBounds_toArray, List.set_cons_zero, List.set_cons_succ, List.getElem_toArray, List.getElem_cons_zero, List.getElem_cons_succ]
      refine wpAnyH_take (i := 10) (v := .string ⟨(s2 ++ (yi ++ [32, 102, 114, 111, 109, 32] ++ yf)).toArray⟩) rfl (by kernel_rfl) (by kernel_rfl) (by kernel_rfl) (fun _ _ _ h => h) (Or.inl ⟨by rfl, ?_⟩) (by assumption) ?_
      · intro w hSw; clear hSw; go_simp <;> (try simp only [List.length_append, List.length_cons, List.length_nil]) <;> omega
      try simp only [Act.put, List.setIfInBounds_toArray, List.set_cons_zero, List.set_cons_succ, List.getElem_toArray, List.getElem_cons_zero, List.getElem_cons_succ]
      refine wpAnyH_done (by kernel_rfl) ?_ _
      have hBc : Below A.heap.size A w2 := hB1'.trans (hB2.mono hB1'.size)
      have l3 : (s2 ++ (yi ++ [32, 102, 114, 111, 109, 32] ++ yf)).length ≤ 900000 := by simp only [List.length_append, List.length_cons, List.length_nil]; omega
      generalize hq3 : (s2 ++ (yi ++ [32, 102, 114, 111, 109, 32] ++ yf)) = s3 at l3 ⊢
      have HQ3 : Hid ((s2 ++ (yi ++ [32, 102, 114, 111, 109, 32] ++ yf)) = s3) := hq3
      clear hq3
      have d3 := (hBc.cell (p := ⟨W0.heap.size, 3, none⟩) hsz).trans HK.out.1
      have hBd : Below W.heap.size W w2 := hBa.trans (hBc.mono hBa.size)
      clear l2 p1 p2 hB1 hB1' hB2 hBb hsz1 z1 z2 PI PF ci cf
      go_upto_if 26 with fail
      go_cut [3] (fun sv wx => sv = .string ⟨(s3 ++ optP [32, 119, 104, 101, 114, 101, 32] ow).toArray⟩ ∧ Below A.heap.size A wx)
      case first =>
        rcases HW.out with ⟨rfl, rfl, rfl⟩ | ⟨rfl, x, rfl, ⟨T1, x1, K1, y1, rfl, n1, m1, f1, hl⟩, lx⟩
        · go_wp2_with fail
          go_meet
          case rel => exact ⟨by simp [optP], hBc⟩
        · go_wp2_with fail
          refine (hl _ hBd).mono ?_
          rintro e w3 ⟨rfl, hB3⟩
          go_wp2_with fail
          go_meet
          case rel => exact ⟨by simp [optP], hBc.trans (hB3.mono hBc.size)⟩
      case rest =>
        obtain ⟨rfl, hBe⟩ := hcut
        have l4 : (s3 ++ optP [32, 119, 104, 101, 114, 101, 32] ow).length ≤ 1400000 := by
          have : (optP [32, 119, 104, 101, 114, 101, 32] ow).length ≤ 400100 := by
            rcases HW.out with ⟨_, rfl, _⟩ | ⟨_, x, rfl, _, lx⟩
            · simp [optP]
            · simp [optP]; omega
          rw [List.length_append]; omega
        generalize hq4 : (s3 ++ optP [32, 119, 104, 101, 114, 101, 32] ow) = s4 at l4 ⊢
        have HQ4 : Hid ((s3 ++ optP [32, 119, 104, 101, 114, 101, 32] ow) = s4) := hq4
        clear hq4
        clear d3 l3 hBd hBc HW
        have d4 := (hBe.cell (p := ⟨W0.heap.size, 4, none⟩) hsz).trans HK.out.2.1
        have hBf : Below W.heap.size W wc := hBa.trans (hBe.mono hBa.size)
        go_upto_if 36 with fail
        go_cut [3] (fun sv wx => sv = .string ⟨(s4 ++ if ng = 0 then [] else [32, 103, 114, 111, 117, 112, 32, 98, 121, 32] ++ yg).toArray⟩ ∧ Below A.heap.size A wx)
        case first =>
          by_cases h0 : ng = 0
          · subst h0
            go_wp2_with fail
            go_meet
            case rel => exact ⟨by simp, hBe⟩
          · have h0' : (0 : Int) < (ng : Int) := by omega
            have H0 : Hid (¬ ng = 0) := h0
            go_wp2_with fail
            refine (PG.out _ hBf).mono ?_
            rintro e w3 ⟨rfl, hB3⟩
            go_wp2_with fail
            go_meet
            case rel => exact ⟨by rw [if_neg H0.out]; simp, hBe.trans (hB3.mono hBe.size)⟩
        case rest =>
          rename_i wd
          obtain ⟨rfl, hBg⟩ := hcut
          have l5 : (s4 ++ if ng = 0 then [] else [32, 103, 114, 111, 117, 112, 32, 98, 121, 32] ++ yg).length ≤ 1900000 := by
            rw [List.length_append]
            split <;> simp <;> omega
          generalize hq5 : (s4 ++ if ng = 0 then [] else [32, 103, 114, 111, 117, 112, 32, 98, 121, 32] ++ yg) = s5 at l5 ⊢
          have HQ5 : Hid ((s4 ++ if ng = 0 then [] else [32, 103, 114, 111, 117, 112, 32, 98, 121, 32] ++ yg) = s5) := hq5
          clear hq5
          clear d4 l4 hBf PG
          have d5 := (hBg.cell (p := ⟨W0.heap.size, 5, none⟩) hsz).trans HK.out.2.2
          have hBh := hBa.trans (hBg.mono hBa.size)
          have hBi := hB0.trans (hBg.mono hB0.size)
          rcases HH.out with ⟨rfl, rfl, rfl⟩ | ⟨rfl, x, rfl, ⟨T1, x1, K1, y1, rfl, n1, m1, f1, hl⟩, lx⟩
          · go_wp2_with fail
            go_ret
            exact ⟨by rw [HR.out, HQ1.out, HQ2.out, HQ3.out, HQ4.out, HQ5.out]; simp [optP], hBi⟩
          · go_wp2_with fail
            refine (hl _ hBh).mono ?_
            rintro e w3 ⟨rfl, hB3⟩
            go_wp2_with fail
            go_ret
            exact ⟨by rw [HR.out, HQ1.out, HQ2.out, HQ3.out, HQ4.out, HQ5.out]; simp [optP], hBi.trans (hB3.mono hBi.size)⟩
theorem w_select (W : World) (f : Fl) (i fr w g h : Value) (is fs gs : List (Value × Value)) (xi xf xg : List Bg.Str) (ow oh : Option Bg.Str)
    (hi : LayW W i is) (hf : LayW W fr fs) (hg : LayW W g gs) (si : SaysL W 320 is xi) (sf : SaysL W 321 fs xf) (sg : SaysL W 323 gs xg)
    (fi : IfStr is) (ff : StrStr fs) (fg : StrStr gs) (li : is.length ≤ 400) (lf : fs.length ≤ 400) (lg : gs.length ≤ 400) (ci : (commas xi).length ≤ 400000) (cf : (commas xf).length ≤ 400000) (cg : (commas xg).length ≤ 400000)
    (hst : f.star = true ↔ is = []) (hw : OptV W w ow) (hh : OptV W h oh) (W0 : World) (hB : Below W.heap.size W W0) :
    Says 307 #[.agg #[.bool f.dist, i, fr, w, g, h]] (selP f xi xf xg ow oh) W0 := by
  have HGE : xg = [] ↔ gs.length = 0 := by rw [← sg.1, List.length_eq_zero_iff]
  have HST : Hid (f.star = true ↔ is.length = 0) := by
    show _ ↔ _
    rw [hst, List.length_eq_zero_iff]
  have PI : Hid (∀ W', Below W.heap.size W W' → Says 308 #[i] (commas xi) W') := fun W' hB => w_commasI W i is xi hi si fi li ci W' hB
  have PF : Hid (∀ W', Below W.heap.size W W' → Says 309 #[fr] (commas xf) W') := fun W' hB => w_commasS W fr fs xf hf sf ff lf cf W' hB
  have PG : Hid (∀ W', Below W.heap.size W W' → Says 310 #[g] (commas xg) W') := fun W' hB => w_commasC W g gs xg hg sg fg lg cg W' hB
  have e : (if xg = [] then [] else [32, 103, 114, 111, 117, 112, 32, 98, 121, 32] ++ commas xg) = (if gs.length = 0 then [] else [32, 103, 114, 111, 117, 112, 32, 98, 121, 32] ++ commas xg) := by
    by_cases h0 : xg = []
    · rw [if_pos h0, if_pos (HGE.1 h0)]
    · rw [if_neg h0, if_neg (fun x => h0 (HGE.2 x))]
  rw [selP_eq, e]
  obtain ⟨ai, capi, rfl, _⟩ := lay_cells hi
  obtain ⟨af, capf, rfl, _⟩ := lay_cells hf
  obtain ⟨ag, capg, rfl, _⟩ := lay_cells hg
  exact w_select0 W f.dist f.star ai af ag capi capf capg _ _ _ w h _ _ _ ow oh PI PF PG li lg ci cf cg HST hw hh W0 hB
end Gr
end Go.Proofs.YtamfmffdgidmgaaGreatDoor
end
section
namespace Go.Proofs.YtamfmffdgidmgaaGreatDoor
namespace Gr
set_option linter.unusedSimpArgs false
set_option linter.unusedVariables false
open T NT
theorem set_tabF : ∀ p ∈ keyToks ++ signToks, isSet p.2 = true → p.1 ∈ sets3 := by decide
theorem set_text {w : RW} (h : isSet (tok w) = true) : w.text ∈ sets3 := set_tabF _ (tok_mem rfl (set_ne h).2.1 (set_ne h).2.2) h
theorem mem3 {s : Bg.Str} (h : s ∈ sets3) : s = [117, 110, 105, 111, 110] ∨ s = [105, 110, 116, 101, 114, 115, 101, 99, 116] ∨ s = [101, 120, 99, 101, 112, 116] := by simpa [sets3] using h
theorem mem4 {s : Bg.Str} (h : s ∈ fns4) : s = [99, 111, 117, 110, 116] ∨ s = [115, 117, 109] ∨ s = [109, 105, 110] ∨ s = [109, 97, 120] := by simpa [fns4] using h
theorem mem7 {s : Bg.Str} (h : s ∈ ops7) : s = [97, 110, 100] ∨ s = [111, 114] := by simpa [ops7] using h
theorem mem5 {s : Bg.Str} (h : s ∈ ops5) : s = [43] ∨ s = [45] ∨ s = [42] ∨ s = [47] ∨ s = [37] := by simpa [ops5] using h
theorem memH {s : Bg.Str} (h : s ∈ hows) : s = [97, 110, 121] ∨ s = [97, 108, 108] := by simpa [hows] using h
theorem pr_sets {s : Bg.Str} (h : s ∈ sets3) (b : Bool) (x y : Tr) : pr (nd { kind := s, all := b } (l2 x y)) = [40] ++ (pr x ++ [32] ++ (s ++ allP b) ++ [32] ++ pr y) ++ [41] := by
  rw [pr_nd, pr_l2]
  rcases mem3 h with rfl | rfl | rfl <;> cases b <;> simp [prN, fns4, sets3, allP]
theorem pr_logic {s : Bg.Str} (h : s ∈ ops7) (x y : Tr) : pr (nd { kind := s } (l2 x y)) = [40] ++ (pr x ++ [32] ++ s ++ [32] ++ pr y) ++ [41] := by
  rw [pr_nd, pr_l2]
  rcases mem7 h with rfl | rfl <;> simp [prN, fns4, sets3]
theorem pr_arith {s : Bg.Str} (h : s ∈ ops5) (x y : Tr) : pr (nd { kind := s } (l2 x y)) = [40] ++ (pr x ++ [32] ++ s ++ [32] ++ pr y) ++ [41] := by
  rw [pr_nd, pr_l2]
  rcases mem5 h with rfl | rfl | rfl | rfl | rfl <;> simp [prN, fns4, sets3]
theorem pr_compare (s : Bg.Str) (x y : Tr) : pr (nd { kind := [99, 111, 109, 112, 97, 114, 101], sign := s } (l2 x y)) = pr x ++ [32] ++ s ++ [32] ++ pr y := by
  rw [pr_nd, pr_l2]; simp [prN, fns4, sets3]
theorem pr_not (x : Tr) : pr (nd { kind := [110, 111, 116] } (l1 x)) = [40, 110, 111, 116, 32] ++ pr x ++ [41] := by
  rw [pr_nd, pr_l1]; simp [prN, fns4, sets3]
theorem pr_neg (x : Tr) : pr (nd { kind := [110, 101, 103] } (l1 x)) = [40, 45] ++ pr x ++ [41] := by
  rw [pr_nd, pr_l1]; simp [prN, fns4, sets3]
theorem pr_versus {h : Bg.Str} (hh : h ∈ hows) (s : Bg.Str) (x y : Tr) : pr (nd { kind := h, sign := s } (l2 x y)) = pr x ++ [32] ++ s ++ [32] ++ h ++ ([32, 40] ++ pr y ++ [41]) := by
  rw [pr_nd, pr_l2]
  rcases memH hh with rfl | rfl <;> simp [prN, fns4, sets3]
theorem pr_in_t (x y : Tr) : pr (nd { kind := [105, 110], not_ := true } (l2 x y)) = pr x ++ [32, 110, 111, 116, 32, 105, 110] ++ ([32, 40] ++ pr y ++ [41]) := by
  rw [pr_nd, pr_l2]; simp [prN, fns4, sets3, notP]
theorem pr_in_f (x y : Tr) : pr (nd { kind := [105, 110], not_ := false } (l2 x y)) = pr x ++ [32, 105, 110] ++ ([32, 40] ++ pr y ++ [41]) := by
  rw [pr_nd, pr_l2]; simp [prN, fns4, sets3, notP]
theorem pr_exists (y : Tr) : pr (nd { kind := [101, 120, 105, 115, 116, 115] } (l1 y)) = [101, 120, 105, 115, 116, 115] ++ ([32, 40] ++ pr y ++ [41]) := by
  rw [pr_nd, pr_l1]; simp [prN, fns4, sets3]
theorem pr_isnull (b : Bool) (x : Tr) : pr (nd { kind := [105, 115, 110, 117, 108, 108], not_ := b } (l1 x)) = pr x ++ [32, 105, 115, 32] ++ notP b ++ [110, 117, 108, 108] := by
  rw [pr_nd, pr_l1]; simp [prN, fns4, sets3]
theorem pr_num (n : Int) : pr (nd { kind := kNum, num := n } .nil) = [] ++ dec n ++ [] := by
  rw [pr_nd]; simp [prN, kNum]
theorem pr_text (s : Bg.Str) : pr (nd { kind := kText, text := s } .nil) = [] ++ quote s ++ [] := by
  rw [pr_nd]; simp [prN, kText]
theorem pr_null : pr (nd { kind := [110, 117, 108, 108] } .nil) = [] ++ [110, 117, 108, 108] ++ [] := by
  rw [pr_nd]; simp [prN]
theorem pr_column (o s : Bg.Str) : pr (nd { kind := [99, 111, 108, 117, 109, 110], of_ := o, text := s } .nil) = if o = [] then s else o ++ [46] ++ s := by
  rw [pr_nd]; simp [prN]
theorem pr_star : pr (nd { kind := [99, 111, 117, 110, 116], star := true } .nil) = [99, 111, 117, 110, 116, 40, 42, 41] := by
  rw [pr_nd]; simp [prN, fns4]
theorem pr_agg {s : Bg.Str} (h : s ∈ fns4) (x : Tr) : pr (nd { kind := s } (l1 x)) = s ++ [40] ++ pr x ++ [41] := by
  rw [pr_nd, pr_l1]
  rcases mem4 h with rfl | rfl | rfl | rfl <;> simp [prN, fns4]
theorem pr_item (s : Bg.Str) (x : Tr) : pr (nd { kind := [105, 116, 101, 109], as_ := s } (l1 x)) = pr x ++ (if s = [] then [] else [32, 97, 115, 32] ++ s) := by
  rw [pr_nd, pr_l1]; by_cases h : s = [] <;> simp [prN, fns4, asP, h]
theorem pr_source (n s : Bg.Str) : pr (nd { kind := [115, 111, 117, 114, 99, 101], text := n, as_ := s } .nil) = n ++ (if s = [] then [] else [32, 97, 115, 32] ++ s) := by
  rw [pr_nd]; by_cases h : s = [] <;> simp [prN, fns4, asP, h]
theorem pr_sel (f : Fl) (hk : f.kind = [115, 101, 108, 101, 99, 116]) (k i fr g w h : Tr) : pr (.node f k i fr g w h) = selP f (prs i) (prs fr) (prs g) (if w.isNode then some (pr w) else none) (if h.isNode then some (pr h) else none) := by
  rw [pr]; simp [prN, hk, fns4]
theorem good_of1 {f : Fl} {x : Tr} (h : Good (nd f (l1 x))) : FlOk f ∧ Good x := by
  unfold nd l1 at h
  rw [Good, GoodL] at h
  exact ⟨h.1.fl, h.2.1.1⟩
theorem good_of2 {f : Fl} {x y : Tr} (h : Good (nd f (l2 x y))) : FlOk f ∧ Good x ∧ Good y := by
  unfold nd l2 at h
  rw [Good, GoodL, GoodL] at h
  exact ⟨h.1.fl, h.2.1.1, h.2.1.2.1⟩
theorem good_of0 {f : Fl} (h : Good (nd f .nil)) : FlOk f := by
  unfold nd at h
  rw [Good] at h
  exact h.1.fl
theorem pr_sets_ne {s : Bg.Str} (h : s ∈ sets3) (b : Bool) (x y : Tr) : pr (nd { kind := s, all := b } (l2 x y)) ≠ [] := by
  rw [pr_sets h]; simp
theorem pr_sel_ne (st di : Bool) (i t : Tr) : pr (selT st di i t) ≠ [] := by
  unfold selT
  cases t <;> (rw [pr_sel _ rfl]; simp [selP])
theorem pr_ne {k : NT} {l : List RW} {t : Tr} (h : D k l t) : (k = query ∨ k = core) → pr t ≠ [] := by
  induction h
  case qCore ih => intro _; exact ih (.inr rfl)
  case qJoin hu _ _ _ _ => intro _; exact pr_sets_ne (set_text hu) false _ _
  case qJoinAll hu _ _ _ _ _ => intro _; exact pr_sets_ne (set_text hu) true _ _
  case cRound ih => intro _; exact ih (.inl rfl)
  case cStar => intro _; exact pr_sel_ne _ _ _ _
  case cStarD => intro _; exact pr_sel_ne _ _ _ _
  case cSel => intro _; exact pr_sel_ne _ _ _ _
  case cSelD => intro _; exact pr_sel_ne _ _ _ _
  all_goals (intro h; rcases h with h | h <;> cases h)
theorem pr_query {l : List RW} {t : Tr} (h : D query l t) : pr t ≠ [] := pr_ne h (.inl rfl)
end Gr
end Go.Proofs.YtamfmffdgidmgaaGreatDoor
end
section
namespace Go.Proofs.YtamfmffdgidmgaaGreatDoor
open Go.RowKit
namespace Gr
set_option linter.unusedSimpArgs false
set_option linter.unusedVariables false
set_option maxRecDepth 10000
theorem sayV_of {W : World} {T : TypeId} {x x' : Value} {K : Nat} {s s' : Bg.Str} (e : s' = s) (h1 : ∀ w, (nilAhead 556 T x "Written").run Tryz.prog w = .ok (some false) w) (h2 : ∀ w, (method 556 T x "Written").run Tryz.prog w = .ok (K, x') w) (h3 : ∀ w, (callFunc K #[x']).run Tryz.prog w = .ok (.enter K #[x']) w)
    (h : ∀ W', Below W.heap.size W W' → Says K #[x'] s W') : SayV W (.iface T x) s' := by subst e; exact ⟨T, x, K, x', rfl, h1, h2, h3, h⟩
/-- what is known of a value, or of rows -/
def Pm (W : World) : RK → Tr → Prop
  | .v x, t => Good t → SayV W x (pr t)
  | .its l, t => GoodL t → SaysL W 320 l (prs t) ∧ IfStr l
  | .srs l, t => GoodL t → SaysL W 321 l (prs t) ∧ StrStr l
  | .cls l, t => GoodL t → SaysL W 323 l (prs t) ∧ StrStr l
theorem SaysL.cons {W : World} {g : Nat} {a b : Value} {s : Bg.Str} {l : List (Value × Value)} {xs : List Bg.Str} (h : ∀ W', Below W.heap.size W W' → Says g #[.agg #[a, b]] s W') (hl : SaysL W g l xs) : SaysL W g ((a, b) :: l) (s :: xs) := by
  refine ⟨by simp [hl.1], fun i h1 h2 W' hB => ?_⟩
  cases i with
  | zero => exact h W' hB
  | succ i => exact hl.2 i (by simpa using h1) (by simpa using h2) W' hB
theorem SaysL.nil {W : World} {g : Nat} : SaysL W g [] [] := ⟨rfl, fun i h => by simp at h⟩
theorem rep_pm {Pb n0 : Nat} {W : World} {r : RK} {t : Tr} (h : Rep Pb n0 W r t) (hp : Pows W) (hG : 13 ≤ W.heap.size) : Pm W r t := by
  induction h with
  | @joined l r x y s b hs _ _ ih1 ih2 =>
    intro hg
    obtain ⟨hf, g1, g2⟩ := good_of2 hg
    have hk : s.length ≤ 400 := hf.kind
    have h4 : (allP b).length ≤ 4 := by cases b <;> decide
    have h5 : (s ++ allP b).length ≤ 1000 := by rw [List.length_append]; omega
    exact sayV_of (K := 304) (pr_sets hs _ _ _) (fun _ => by kernel_rfl) (fun _ => by kernel_rfl) (fun _ => by kernel_rfl) fun W' hB => w_pairQ W _ _ _ _ _ (ih1 g1) (ih2 g2) (good_pr g1) (good_pr g2) h5 W' hB
  | logic hs _ _ ih1 ih2 =>
    intro hg
    obtain ⟨hf, g1, g2⟩ := good_of2 hg
    have hk := hf.kind
    exact sayV_of (K := 327) (pr_logic hs _ _) (fun _ => by kernel_rfl) (fun _ => by kernel_rfl) (fun _ => by kernel_rfl) fun W' hB => w_pairC W _ _ _ _ _ (ih1 g1) (ih2 g2) (good_pr g1) (good_pr g2) (Nat.le_trans hk (by omega)) W' hB
  | arith hs _ _ ih1 ih2 =>
    intro hg
    obtain ⟨hf, g1, g2⟩ := good_of2 hg
    have hk := hf.kind
    exact sayV_of (K := 330) (pr_arith hs _ _) (fun _ => by kernel_rfl) (fun _ => by kernel_rfl) (fun _ => by kernel_rfl) fun W' hB => w_pairE W _ _ _ _ _ (ih1 g1) (ih2 g2) (good_pr g1) (good_pr g2) (Nat.le_trans hk (by omega)) W' hB
  | compare _ _ ih1 ih2 =>
    intro hg
    obtain ⟨hf, g1, g2⟩ := good_of2 hg
    have hk := hf.sign
    exact sayV_of (K := 342) (pr_compare _ _ _) (fun _ => by kernel_rfl) (fun _ => by kernel_rfl) (fun _ => by kernel_rfl) fun W' hB => w_compare W _ _ _ _ _ (ih1 g1) (ih2 g2) (good_pr g1) (good_pr g2) (Nat.le_trans hk (by omega)) W' hB
  | not_ _ ih =>
    intro hg
    obtain ⟨hf, g1⟩ := good_of1 hg
    exact sayV_of (K := 332) (pr_not _) (fun _ => by kernel_rfl) (fun _ => by kernel_rfl) (fun _ => by kernel_rfl) fun W' hB => w_not W _ _ (ih g1) (good_pr g1) W' hB
  | neg _ ih =>
    intro hg
    obtain ⟨hf, g1⟩ := good_of1 hg
    exact sayV_of (K := 334) (pr_neg _) (fun _ => by kernel_rfl) (fun _ => by kernel_rfl) (fun _ => by kernel_rfl) fun W' hB => w_neg W _ _ (ih g1) (good_pr g1) W' hB
  | versus hs _ _ ih1 ih2 =>
    intro hg
    obtain ⟨hf, g1, g2⟩ := good_of2 hg
    have hk := hf.sign
    have hk2 := hf.kind
    exact sayV_of (K := 341) (pr_versus hs _ _ _) (fun _ => by kernel_rfl) (fun _ => by kernel_rfl) (fun _ => by kernel_rfl) fun W' hB => w_versus W _ _ _ _ _ _ (ih2 g2) (ih1 g1) (good_pr g1) (good_pr g2) (Nat.le_trans hk (by omega)) (Nat.le_trans hk2 (by omega)) W' hB
  | @in_ l q x y b _ _ ih1 ih2 =>
    intro hg
    obtain ⟨hf, g1, g2⟩ := good_of2 hg
    cases b
    · exact sayV_of (K := 340) (pr_in_f _ _) (fun _ => by kernel_rfl) (fun _ => by kernel_rfl) (fun _ => by kernel_rfl) fun W' hB => w_in_false W _ _ _ _ (ih2 g2) (ih1 g1) (good_pr g1) (good_pr g2) W' hB
    · exact sayV_of (K := 340) (pr_in_t _ _) (fun _ => by kernel_rfl) (fun _ => by kernel_rfl) (fun _ => by kernel_rfl) fun W' hB => w_in_true W _ _ _ _ (ih2 g2) (ih1 g1) (good_pr g1) (good_pr g2) W' hB
  | exists_ _ ih =>
    intro hg
    obtain ⟨hf, g1⟩ := good_of1 hg
    exact sayV_of (K := 336) (pr_exists _) (fun _ => by kernel_rfl) (fun _ => by kernel_rfl) (fun _ => by kernel_rfl) fun W' hB => w_exists W _ _ (ih g1) (good_pr g1) W' hB
  | isNull _ ih =>
    intro hg
    obtain ⟨hf, g1⟩ := good_of1 hg
    exact sayV_of (K := 339) (pr_isnull _ _) (fun _ => by kernel_rfl) (fun _ => by kernel_rfl) (fun _ => by kernel_rfl) fun W' hB => w_isnull W _ _ _ (ih g1) (good_pr g1) W' hB
  | @num n =>
    intro hg
    have hf := good_of0 hg
    have hv : SayV W (.iface 233 (.int .i64 n)) (dec n) := sayV_of (K := 126) rfl (fun _ => by kernel_rfl) (fun _ => by kernel_rfl) (fun _ => by kernel_rfl) fun W' hB => w_int n hf.lo hf.hi W' (hp.below hB hG)
    exact sayV_of (K := 335) (pr_num _) (fun _ => by kernel_rfl) (fun _ => by kernel_rfl) (fun _ => by kernel_rfl) fun W' hB => w_literal W _ _ hv (Nat.le_trans (dec_le hf.lo hf.hi) (by omega)) W' hB
  | @text s =>
    intro hg
    have hf := (good_of0 hg).text
    have hl : s.length ≤ 400 := hf
    have hv : SayV W (.iface 170 (strV s)) (quote s) := sayV_of (K := 127) rfl (fun _ => by kernel_rfl) (fun _ => by kernel_rfl) (fun _ => by kernel_rfl) fun W' hB => w_text s (by omega) W'
    exact sayV_of (K := 335) (pr_text _) (fun _ => by kernel_rfl) (fun _ => by kernel_rfl) (fun _ => by kernel_rfl) fun W' hB => w_literal W _ _ hv (Nat.le_trans (quote_le s) (by omega)) W' hB
  | null =>
    intro hg
    have hv : SayV W (.iface 232 (.agg #[])) [110, 117, 108, 108] := sayV_of (K := 125) rfl (fun _ => by kernel_rfl) (fun _ => by kernel_rfl) (fun _ => by kernel_rfl) fun W' hB => w_null W'
    exact sayV_of (K := 335) pr_null (fun _ => by kernel_rfl) (fun _ => by kernel_rfl) (fun _ => by kernel_rfl) fun W' hB => w_literal W _ _ hv (by decide) W' hB
  | column =>
    intro hg
    have hf := good_of0 hg
    exact sayV_of (K := 323) (pr_column _ _) (fun _ => by kernel_rfl) (fun _ => by kernel_rfl) (fun _ => by kernel_rfl) fun W' hB => w_column _ _ (Nat.le_trans hf.of_ (by omega)) (Nat.le_trans hf.text (by omega)) W'
  | star =>
    intro hg
    exact sayV_of (K := 338) pr_star (fun _ => by kernel_rfl) (fun _ => by kernel_rfl) (fun _ => by kernel_rfl) fun W' hB => w_star W'
  | agg hs _ ih =>
    intro hg
    obtain ⟨hf, g1⟩ := good_of1 hg
    exact sayV_of (K := 338) (pr_agg hs _) (fun _ => by kernel_rfl) (fun _ => by kernel_rfl) (fun _ => by kernel_rfl) fun W' hB => w_agg W _ _ _ (ih g1) (good_pr g1) (Nat.le_trans hf.kind (by omega)) W' hB
  | @select i f w g h is fs gs ti tf tw tg th b c hi hf hgr _ _ _ ow oh _ _ ihi ihf ihg ihw ihh =>
    intro hg
    rw [Good] at hg
    obtain ⟨hn, _, gi, gf, gg, gw, gh, _, _⟩ := hg
    have li : is.length ≤ 400 := by rw [← (ihi gi).1.1, prs_len _ gi]; exact hn.li
    have lf : fs.length ≤ 400 := by rw [← (ihf gf).1.1, prs_len _ gf]; exact hn.lf
    have lg : gs.length ≤ 400 := by rw [← (ihg gg).1.1, prs_len _ gg]; exact hn.lg
    refine sayV_of (K := 307) (pr_sel _ rfl _ _ _ _ _ _) (fun _ => by kernel_rfl) (fun _ => by kernel_rfl) (fun _ => by kernel_rfl) fun W' hB =>
      w_select W _ i f w g h is fs gs (prs ti) (prs tf) (prs tg) _ _ ?_ ?_ ?_ (ihi gi).1 (ihf gf).1 (ihg gg).1 (ihi gi).2 (ihf gf).2 (ihg gg).2 li lf lg hn.ci hn.cf hn.cg ?_ ?_ ?_ W' hB
    · rcases hi with ⟨_, h1, h2⟩ | ⟨_, _, h2⟩
      · exact .inl ⟨h1, h2⟩
      · exact .inr ⟨_, _, h2⟩
    · exact .inr ⟨_, _, hf.2⟩
    · rcases hgr with ⟨h1, h2⟩ | ⟨_, h2⟩
      · exact .inl ⟨h1, h2⟩
      · exact .inr ⟨_, _, h2⟩
    · rcases hi with ⟨h0, _, h2⟩ | ⟨h0, h2, _⟩
      · show c = true ↔ _; simp [h0, h2]
      · show c = true ↔ _; simp [h0, h2]
    · rcases ow with ⟨h1, h2⟩ | ⟨h1, h2⟩
      · left; rw [h2]; exact ⟨rfl, h1⟩
      · right; rw [if_pos h2]; exact ⟨_, rfl, ihw h1 (gw h2), good_pr (gw h2)⟩
    · rcases oh with ⟨h1, h2⟩ | ⟨h1, h2⟩
      · left; rw [h2]; exact ⟨rfl, h1⟩
      · right; rw [if_pos h2]; exact ⟨_, rfl, ihh h1 (gh h2), good_pr (gh h2)⟩
  | inil => intro _; exact ⟨by rw [prs]; exact SaysL.nil, fun p hp => by simp at hp⟩
  | @icons x s r t ts hx _ ih1 ih2 =>
    intro hg
    rw [GoodL] at hg
    obtain ⟨hf, g1⟩ := good_of1 hg.1
    obtain ⟨h2, h3⟩ := ih2 hg.2
    obtain ⟨n, y, rfl⟩ := hx.iface
    refine ⟨?_, fun p hp => ?_⟩
    · rw [prs, pr_item]
      exact SaysL.cons (fun W' hB => w_item W _ _ _ (ih1 g1) (good_pr g1) (Nat.le_trans hf.as_ (by omega)) W' hB) h2
    · rcases List.mem_cons.1 hp with rfl | hp
      · exact ⟨_, _, _, rfl⟩
      · exact h3 p hp
  | snil => intro _; exact ⟨by rw [prs]; exact SaysL.nil, fun p hp => by simp at hp⟩
  | scons _ ih =>
    intro hg
    rw [GoodL] at hg
    have hf := good_of0 hg.1
    obtain ⟨h2, h3⟩ := ih hg.2
    refine ⟨?_, fun p hp => ?_⟩
    · rw [prs, pr_source]
      exact SaysL.cons (fun W' hB => w_source _ _ (Nat.le_trans hf.text (by omega)) (Nat.le_trans hf.as_ (by omega)) W') h2
    · rcases List.mem_cons.1 hp with rfl | hp
      · exact ⟨_, _, rfl⟩
      · exact h3 p hp
  | cnil => intro _; exact ⟨by rw [prs]; exact SaysL.nil, fun p hp => by simp at hp⟩
  | ccons _ ih =>
    intro hg
    rw [GoodL] at hg
    have hf := good_of0 hg.1
    obtain ⟨h2, h3⟩ := ih hg.2
    refine ⟨?_, fun p hp => ?_⟩
    · rw [prs, pr_column]
      exact SaysL.cons (fun W' hB => w_column _ _ (Nat.le_trans hf.of_ (by omega)) (Nat.le_trans hf.text (by omega)) W') h2
    · rcases List.mem_cons.1 hp with rfl | hp
      · exact ⟨_, _, rfl⟩
      · exact h3 p hp
theorem rep_sayV {Pb n0 : Nat} {W : World} {x : Value} {t : Tr} (h : Rep Pb n0 W (.v x) t) (hp : Pows W) (hG : 13 ≤ W.heap.size) (hg : Good t) : SayV W x (pr t) := rep_pm h hp hG hg
end Gr
end Go.Proofs.YtamfmffdgidmgaaGreatDoor
end
