import Derived.Test.YtfkdfplnhlnnoaaGreatDoorBgJa31
namespace Go.Proofs.YtfkdfplnhlnnoaaGreatDoor
open Go.RowKit
namespace Gr
set_option linter.unusedSimpArgs false
set_option linter.unusedVariables false
/-- a condition that is there, or is not -/
def OptV (W : World) (v : Value) (o : Option Bg.Str) : Prop := (o = none ∧ v = .nilIface) ∨ ∃ x, o = some x ∧ SayV W v x ∧ x.length ≤ 400000
theorem opt_is {W : World} {v : Value} {o : Option Bg.Str} (h : OptV W v o) : ∃ b : Bool, Hid ((b = false ∧ o = none ∧ v = .nilIface) ∨ (b = true ∧ ∃ x, o = some x ∧ SayV W v x ∧ x.length ≤ 400000)) ∧ (∀ W', (binOp .neq 234 v .nilIface).run Tryz.prog W' = .ok (.bool b) W') ∧ ∀ n W', (eqGuard .neq 234 (.tmp n) (.const .nilIface) v .nilIface).run Tryz.prog W' = .ok () W' := by
  rcases h with ⟨h1, rfl⟩ | ⟨x, h1, h2, h3⟩
  · exact ⟨false, .inl ⟨rfl, h1, rfl⟩, fun _ => by kernel_rfl, fun _ _ => by kernel_rfl⟩
  · obtain ⟨T, y, _, _, rfl, _⟩ := id h2
    exact ⟨true, .inr ⟨rfl, x, h1, h2, h3⟩, fun _ => by kernel_rfl, fun _ _ => by kernel_rfl⟩
def optP (k : Bg.Str) : Option Bg.Str → Bg.Str
  | some x => k ++ x
  | none => []
theorem selP_eq (f : Fl) (is fs gs : List Bg.Str) (w h : Option Bg.Str) : selP f is fs gs w h = q1 f ++ (if f.star then [42] else []) ++ (commas is ++ [32, 102, 114, 111, 109, 32] ++ commas fs) ++ optP [32, 119, 104, 101, 114, 101, 32] w ++ (if gs = [] then [] else [32, 103, 114, 111, 117, 112, 32, 98, 121, 32] ++ commas gs) ++ optP [32, 104, 97, 118, 105, 110, 103, 32] h := by
  unfold selP q1
  cases w <;> cases h <;> simp [optP]
def qd (d : Bool) : Bg.Str := [115, 101, 108, 101, 99, 116, 32] ++ (if d then [100, 105, 115, 116, 105, 110, 99, 116, 32] else [])
theorem new6 (w : World) (a b c d e f : Value) (ty : TypeId) : (w.alloc (.cells #[a, b, c, d, e, f] ty)).cell? ⟨w.heap.size, 0, none⟩ = some a ∧ (w.alloc (.cells #[a, b, c, d, e, f] ty)).cell? ⟨w.heap.size, 1, none⟩ = some b ∧ (w.alloc (.cells #[a, b, c, d, e, f] ty)).cell? ⟨w.heap.size, 2, none⟩ = some c ∧ (w.alloc (.cells #[a, b, c, d, e, f] ty)).cell? ⟨w.heap.size, 3, none⟩ = some d ∧ (w.alloc (.cells #[a, b, c, d, e, f] ty)).cell? ⟨w.heap.size, 4, none⟩ = some e ∧ (w.alloc (.cells #[a, b, c, d, e, f] ty)).cell? ⟨w.heap.size, 5, none⟩ = some f := by
  have h := heap_alloc_new w (.cells #[a, b, c, d, e, f] ty)
  exact ⟨by simp only [World.cell?, h]; rfl, by simp only [World.cell?, h]; rfl, by simp only [World.cell?, h]; rfl, by simp only [World.cell?, h]; rfl, by simp only [World.cell?, h]; rfl, by simp only [World.cell?, h]; rfl⟩
set_option maxRecDepth 10000 in
set_option maxHeartbeats 4000000 in
theorem w_select0 (W : World) (d c : Bool) (ai af ag : Option Addr) (capi capf capg ni nf ng : Nat) (w h : Value) (yi yf yg : Bg.Str) (ow oh : Option Bg.Str)
    (PI : Hid (∀ W', Below W.heap.size W W' → Says 252 #[.slice ai ni capi] yi W'))
    (PF : Hid (∀ W', Below W.heap.size W W' → Says 253 #[.slice af nf capf] yf W'))
    (PG : Hid (∀ W', Below W.heap.size W W' → Says 254 #[.slice ag ng capg] yg W'))
    (li : ni ≤ 400) (lg : ng ≤ 400) (ci : yi.length ≤ 400000) (cf : yf.length ≤ 400000) (cg : yg.length ≤ 400000)
    (HST : Hid (c = true ↔ ni = 0)) (hw : OptV W w ow) (hh : OptV W h oh) (W0 : World) (hB : Below W.heap.size W W0) :
    Says 251 #[.agg #[.bool d, .slice ai ni capi, .slice af nf capf, w, .slice ag ng capg, h]] (qd d ++ (if c then [42] else []) ++ (yi ++ [32, 102, 114, 111, 109, 32] ++ yf) ++ optP [32, 119, 104, 101, 114, 101, 32] ow ++ (if ng = 0 then [] else [32, 103, 114, 111, 117, 112, 32, 98, 121, 32] ++ yg) ++ optP [32, 104, 97, 118, 105, 110, 103, 32] oh) W0 := by
  have hap := Bg.app_mk
  obtain ⟨bw, HW, ew, ew2⟩ := opt_is hw
  obtain ⟨bh, HH, eh, eh2⟩ := opt_is hh
  clear hw hh
  obtain ⟨R, hR⟩ : ∃ R, R = qd d ++ (if c then [42] else []) ++ (yi ++ [32, 102, 114, 111, 109, 32] ++ yf) ++ optP [32, 119, 104, 101, 114, 101, 32] ow ++ (if ng = 0 then [] else [32, 103, 114, 111, 117, 112, 32, 98, 121, 32] ++ yg) ++ optP [32, 104, 97, 118, 105, 110, 103, 32] oh := ⟨_, rfl⟩
  rw [← hR]
  have HR : Hid (R = qd d ++ (if c then [42] else []) ++ (yi ++ [32, 102, 114, 111, 109, 32] ++ yf) ++ optP [32, 119, 104, 101, 114, 101, 32] ow ++ (if ng = 0 then [] else [32, 103, 114, 111, 117, 112, 32, 98, 121, 32] ++ yg) ++ optP [32, 104, 97, 118, 105, 110, 103, 32] oh) := hR
  clear hR
  unfold Says
  go_enter Tryz.func251, Tryz.ntmps251
  go_upto_if 5 with fail
  have hBa : Below W.heap.size W (W0.alloc (.cells #[.bool d, .slice ai ni capi, .slice af nf capf, w, .slice ag ng capg, h] 237)) := hB.alloc hB.size _
  have hB0 : Below W0.heap.size W0 (W0.alloc (.cells #[.bool d, .slice ai ni capi, .slice af nf capf, w, .slice ag ng capg, h] 237)) := wsum _
  obtain ⟨z0, z1, z2, z3, z4, z5⟩ := new6 W0 (.bool d) (.slice ai ni capi) (.slice af nf capf) w (.slice ag ng capg) h 237
  have hsz : W0.heap.size < (W0.alloc (.cells #[.bool d, .slice ai ni capi, .slice af nf capf, w, .slice ag ng capg, h] 237)).heap.size := by simp
  generalize W0.alloc (.cells #[.bool d, .slice ai ni capi, .slice af nf capf, w, .slice ag ng capg, h] 237) = A at hBa hB0 z0 z1 z2 z3 z4 z5 hsz ⊢
  have HK : Hid (A.cell? ⟨W0.heap.size, 3, none⟩ = some w ∧ A.cell? ⟨W0.heap.size, 4, none⟩ = some (.slice ag ng capg) ∧ A.cell? ⟨W0.heap.size, 5, none⟩ = some h) := ⟨z3, z4, z5⟩
  go_cut [3] (fun sv wx => sv = .string ⟨(qd d).toArray⟩ ∧ A = wx)
  case first =>
    cases d
    · go_wp2_with fail
      go_meet
      case rel => exact ⟨rfl, rfl⟩
    · go_wp2_with fail
      go_meet
      case rel => exact ⟨rfl, rfl⟩
  case rest =>
    obtain ⟨rfl, rfl⟩ := hcut
    have l1 : (qd d).length ≤ 100 := by cases d <;> decide
    generalize hq1 : (qd d) = s1 at l1 ⊢
    have HQ1 : Hid ((qd d) = s1) := hq1
    clear hq1
    go_upto_if 11 with fail
    go_cut [3] (fun sv wx => sv = .string ⟨(s1 ++ if c then [42] else []).toArray⟩ ∧ A = wx)
    case first =>
      by_cases h0 : ni = 0
      · have e : Hid (c = true) := HST.out.2 h0
        subst h0
        go_wp2_with fail
        go_meet
        case rel => exact ⟨by simp [e.out], rfl⟩
      · have e : Hid (c = false) := by
          show _ = _
          cases c
          · rfl
          · exact absurd (HST.out.1 rfl) h0
        have h0' : ((ni : Int) == 0) = false := by simpa using h0
        clear h0
        go_wp2_with fail
        go_meet
        case rel => exact ⟨by simp [e.out], rfl⟩
    case rest =>
      obtain ⟨rfl, rfl⟩ := hcut
      have l2 : (s1 ++ if c then [42] else []).length ≤ 200 := by rw [List.length_append]; split <;> simp <;> omega
      generalize hq2 : (s1 ++ if c then [42] else []) = s2 at l2 ⊢
      have HQ2 : Hid ((s1 ++ if c then [42] else []) = s2) := hq2
      clear hq2
      clear l1 z0 HST z3 z4 z5
      go_wp2_with fail
      refine wp_region_held_drew (S := fun w' => w'.cell? ⟨W0.heap.size, 1, none⟩ = some (.slice ai ni capi) ∧ w'.cell? ⟨W0.heap.size, 2, none⟩ = some (.slice af nf capf)) (by kernel_rfl) ⟨z1, z2⟩ (fun hHeld => ?_)
      refine wpAnyH_take (i := 0) (v := ?_) rfl (by kernel_rfl) (by kernel_rfl) (by kernel_rfl) (fun _ _ _ h => h) (Or.inl ⟨by rfl, ?_⟩) (by assumption) ?_
      rotate_left
      · intro w hSw; (try dsimp only at hSw); go_simp <;> with_reducible rfl
      try simp only [Act.put, List.setIfInBounds_toArray, List.set_cons_zero, List.set_cons_succ, List.getElem_toArray, List.getElem_cons_zero, List.getElem_cons_succ]
      refine wpAnyH_take (i := 1) (v := ?_) rfl (by kernel_rfl) (by kernel_rfl) (by kernel_rfl) (fun _ _ _ h => h) (Or.inl ⟨by rfl, ?_⟩) (by assumption) ?_
      rotate_left
      · intro w hSw; (try dsimp only at hSw); go_simp <;> with_reducible rfl
      try simp only [Act.put, List.setIfInBounds_toArray, List.set_cons_zero, List.set_cons_succ, List.getElem_toArray, List.getElem_cons_zero, List.getElem_cons_succ]
      refine wpAnyH_take (i := 2) (v := ?_) rfl (by kernel_rfl) (by kernel_rfl) (by kernel_rfl) (fun _ _ _ h => h) (Or.inl ⟨by rfl, ?_⟩) (by assumption) ?_
      rotate_left
      · intro w hSw; (try dsimp only at hSw); go_simp <;> with_reducible rfl
      try simp only [Act.put, List.setIfInBounds_toArray, List.set_cons_zero, List.set_cons_succ, List.getElem_toArray, List.getElem_cons_zero, List.getElem_cons_succ]
      refine wpAnyH_take (i := 5) (v := ?_) rfl (by kernel_rfl) (by kernel_rfl) (by kernel_rfl) (fun _ _ _ h => h) (Or.inl ⟨by rfl, ?_⟩) (by assumption) ?_
      rotate_left
      · intro w hSw; (try dsimp only at hSw); go_simp <;> with_reducible rfl
      try simp only [Act.put, List.setIfInBounds_toArray, List.set_cons_zero, List.set_cons_succ, List.getElem_toArray, List.getElem_cons_zero, List.getElem_cons_succ]
      refine wpAnyH_take (i := 6) (v := ?_) rfl (by kernel_rfl) (by kernel_rfl) (by kernel_rfl) (fun _ _ _ h => h) (Or.inl ⟨by rfl, ?_⟩) (by assumption) ?_
      rotate_left
      · intro w hSw; (try dsimp only at hSw); go_simp <;> with_reducible rfl
      try simp only [Act.put, List.setIfInBounds_toArray, List.set_cons_zero, List.set_cons_succ, List.getElem_toArray, List.getElem_cons_zero, List.getElem_cons_succ]
      refine wpAnyH_ready (rs := [3]) (by kernel_rfl) (by simp) (AllReadyH.cons rfl (fun K hK => ?_) AllReadyH.nil)
      go_simp
      refine (PI.out _ (below_drew hBa)).mono ?_
      rintro e w1 ⟨rfl, hB1⟩
      go_simp
      have hB1' := below_in hB1
      have p1 := (hB1'.cell (p := ⟨W0.heap.size, 1, none⟩) hsz).trans z1
      have p2 := (hB1'.cell (p := ⟨W0.heap.size, 2, none⟩) hsz).trans z2
      refine hK.out _ _ ⟨p1, p2⟩ (fun hHeld => ?_)
      clear hK K
      refine wpAnyH_take (i := 4) (v := .string ⟨(yi ++ [32, 102, 114, 111, 109, 32]).toArray⟩) rfl (by kernel_rfl) (by kernel_rfl) (by kernel_rfl) (fun _ _ _ h => h) (Or.inl ⟨by rfl, ?_⟩) (by assumption) ?_
      · intro w hSw; clear hSw; go_simp <;> (try simp only [List.length_append, List.length_cons, List.length_nil]) <;> omega
      try simp only [Act.put, List.setIfInBounds_toArray, List.set_cons_zero, List.set_cons_succ, List.getElem_toArray, List.getElem_cons_zero, List.getElem_cons_succ]
      refine wpAnyH_ready (rs := [7]) (by kernel_rfl) (by simp) (AllReadyH.cons rfl (fun K hK => ?_) AllReadyH.nil)
      go_simp
      have hBb := hBa.trans (hB1'.mono hBa.size)
      refine (PF.out _ hBb).mono ?_
      rintro e w2 ⟨rfl, hB2⟩
      go_simp
      have hsz1 := Nat.lt_of_lt_of_le hsz hB1'.size
      refine hK.out _ _ ⟨(hB2.cell (p := ⟨W0.heap.size, 1, none⟩) hsz1).trans p1, (hB2.cell (p := ⟨W0.heap.size, 2, none⟩) hsz1).trans p2⟩ (fun hHeld => ?_)
      clear hK K
      refine wpAnyH_take (i := 8) (v := .string ⟨(yi ++ [32, 102, 114, 111, 109, 32] ++ yf).toArray⟩) rfl (by kernel_rfl) (by kernel_rfl) (by kernel_rfl) (fun _ _ _ h => h) (Or.inl ⟨by rfl, ?_⟩) (by assumption) ?_
      · intro w hSw; clear hSw; go_simp <;> (try simp only [List.length_append, List.length_cons, List.length_nil]) <;> omega
      try simp only [Act.put, List.setIfInBounds_toArray, List.set_cons_zero, List.set_cons_succ, List.getElem_toArray, List.getElem_cons_zero, List.getElem_cons_succ]
      refine wpAnyH_take (i := 9) (v := .string ⟨(s2 ++ (yi ++ [32, 102, 114, 111, 109, 32] ++ yf)).toArray⟩) rfl (by kernel_rfl) (by kernel_rfl) (by kernel_rfl) (fun _ _ _ h => h) (Or.inl ⟨by rfl, ?_⟩) (by assumption) ?_
      · intro w hSw; clear hSw; go_simp <;> (try simp only [List.length_append, List.length_cons, List.length_nil]) <;> omega
      try simp only [Act.put, List.setIfInBounds_toArray, List.set_cons_zero, List.set_cons_succ, List.getElem_toArray, List.getElem_cons_zero, List.getElem_cons_succ]
      refine wpAnyH_take (i := 10) (v := .string ⟨(s2 ++ (yi ++ [32, 102, 114, 111, 109, 32] ++ yf)).toArray⟩) rfl (by kernel_rfl) (by kernel_rfl) (by kernel_rfl) (fun _ _ _ h => h) (Or.inl ⟨by rfl, ?_⟩) (by assumption) ?_
      · intro w hSw; clear hSw; go_simp <;> (try simp only [List.length_append, List.length_cons, List.length_nil]) <;> omega
      try simp only [Act.put, List.setIfInBounds_toArray, List.set_cons_zero, List.set_cons_succ, List.getElem_toArray, List.getElem_cons_zero, List.getElem_cons_succ]
      refine wpAnyH_done (by kernel_rfl) ?_ _
      have hBc : Below A.heap.size A w2 := hB1'.trans (hB2.mono hB1'.size)
      have l3 : (s2 ++ (yi ++ [32, 102, 114, 111, 109, 32] ++ yf)).length ≤ 900000 := by simp only [List.length_append, List.length_cons, List.length_nil]; omega
      generalize hq3 : (s2 ++ (yi ++ [32, 102, 114, 111, 109, 32] ++ yf)) = s3 at l3 ⊢
      have HQ3 : Hid ((s2 ++ (yi ++ [32, 102, 114, 111, 109, 32] ++ yf)) = s3) := hq3
      clear hq3
      have d3 := (hBc.cell (p := ⟨W0.heap.size, 3, none⟩) hsz).trans HK.out.1
      have hBd : Below W.heap.size W w2 := hBa.trans (hBc.mono hBa.size)
      clear l2 p1 p2 hB1 hB1' hB2 hBb hsz1 z1 z2 PI PF ci cf
      go_upto_if 26 with fail
      go_cut [3] (fun sv wx => sv = .string ⟨(s3 ++ optP [32, 119, 104, 101, 114, 101, 32] ow).toArray⟩ ∧ Below A.heap.size A wx)
      case first =>
        rcases HW.out with ⟨rfl, rfl, rfl⟩ | ⟨rfl, x, rfl, ⟨T1, x1, K1, y1, rfl, n1, m1, f1, hl⟩, lx⟩
        · go_wp2_with fail
          go_meet
          case rel => exact ⟨by simp [optP], hBc⟩
        · go_wp2_with fail
          refine (hl _ hBd).mono ?_
          rintro e w3 ⟨rfl, hB3⟩
          go_wp2_with fail
          go_meet
          case rel => exact ⟨by simp [optP], hBc.trans (hB3.mono hBc.size)⟩
      case rest =>
        obtain ⟨rfl, hBe⟩ := hcut
        have l4 : (s3 ++ optP [32, 119, 104, 101, 114, 101, 32] ow).length ≤ 1400000 := by
          have : (optP [32, 119, 104, 101, 114, 101, 32] ow).length ≤ 400100 := by
            rcases HW.out with ⟨_, rfl, _⟩ | ⟨_, x, rfl, _, lx⟩
            · simp [optP]
            · simp [optP]; omega
          rw [List.length_append]; omega
        generalize hq4 : (s3 ++ optP [32, 119, 104, 101, 114, 101, 32] ow) = s4 at l4 ⊢
        have HQ4 : Hid ((s3 ++ optP [32, 119, 104, 101, 114, 101, 32] ow) = s4) := hq4
        clear hq4
        clear d3 l3 hBd hBc HW
        have d4 := (hBe.cell (p := ⟨W0.heap.size, 4, none⟩) hsz).trans HK.out.2.1
        have hBf : Below W.heap.size W wc := hBa.trans (hBe.mono hBa.size)
        go_upto_if 36 with fail
        go_cut [3] (fun sv wx => sv = .string ⟨(s4 ++ if ng = 0 then [] else [32, 103, 114, 111, 117, 112, 32, 98, 121, 32] ++ yg).toArray⟩ ∧ Below A.heap.size A wx)
        case first =>
          by_cases h0 : ng = 0
          · subst h0
            go_wp2_with fail
            go_meet
            case rel => exact ⟨by simp, hBe⟩
          · have h0' : (0 : Int) < (ng : Int) := by omega
            have H0 : Hid (¬ ng = 0) := h0
            go_wp2_with fail
            refine (PG.out _ hBf).mono ?_
            rintro e w3 ⟨rfl, hB3⟩
            go_wp2_with fail
            go_meet
            case rel => exact ⟨by rw [if_neg H0.out]; simp, hBe.trans (hB3.mono hBe.size)⟩
        case rest =>
          rename_i wd
          obtain ⟨rfl, hBg⟩ := hcut
          have l5 : (s4 ++ if ng = 0 then [] else [32, 103, 114, 111, 117, 112, 32, 98, 121, 32] ++ yg).length ≤ 1900000 := by
            rw [List.length_append]
            split <;> simp <;> omega
          generalize hq5 : (s4 ++ if ng = 0 then [] else [32, 103, 114, 111, 117, 112, 32, 98, 121, 32] ++ yg) = s5 at l5 ⊢
          have HQ5 : Hid ((s4 ++ if ng = 0 then [] else [32, 103, 114, 111, 117, 112, 32, 98, 121, 32] ++ yg) = s5) := hq5
          clear hq5
          clear d4 l4 hBf PG
          have d5 := (hBg.cell (p := ⟨W0.heap.size, 5, none⟩) hsz).trans HK.out.2.2
          have hBh := hBa.trans (hBg.mono hBa.size)
          have hBi := hB0.trans (hBg.mono hB0.size)
          rcases HH.out with ⟨rfl, rfl, rfl⟩ | ⟨rfl, x, rfl, ⟨T1, x1, K1, y1, rfl, n1, m1, f1, hl⟩, lx⟩
          · go_wp2_with fail
            go_ret
            exact ⟨by rw [HR.out, HQ1.out, HQ2.out, HQ3.out, HQ4.out, HQ5.out]; simp [optP], hBi⟩
          · go_wp2_with fail
            refine (hl _ hBh).mono ?_
            rintro e w3 ⟨rfl, hB3⟩
            go_wp2_with fail
            go_ret
            exact ⟨by rw [HR.out, HQ1.out, HQ2.out, HQ3.out, HQ4.out, HQ5.out]; simp [optP], hBi.trans (hB3.mono hBi.size)⟩
theorem w_select (W : World) (f : Fl) (i fr w g h : Value) (is fs gs : List (Value × Value)) (xi xf xg : List Bg.Str) (ow oh : Option Bg.Str)
    (hi : LayW W i is) (hf : LayW W fr fs) (hg : LayW W g gs) (si : SaysL W 264 is xi) (sf : SaysL W 265 fs xf) (sg : SaysL W 267 gs xg)
    (fi : IfStr is) (ff : StrStr fs) (fg : StrStr gs) (li : is.length ≤ 400) (lf : fs.length ≤ 400) (lg : gs.length ≤ 400) (ci : (commas xi).length ≤ 400000) (cf : (commas xf).length ≤ 400000) (cg : (commas xg).length ≤ 400000)
    (hst : f.star = true ↔ is = []) (hw : OptV W w ow) (hh : OptV W h oh) (W0 : World) (hB : Below W.heap.size W W0) :
    Says 251 #[.agg #[.bool f.dist, i, fr, w, g, h]] (selP f xi xf xg ow oh) W0 := by
  have HGE : xg = [] ↔ gs.length = 0 := by rw [← sg.1, List.length_eq_zero_iff]
  have HST : Hid (f.star = true ↔ is.length = 0) := by
    show _ ↔ _
    rw [hst, List.length_eq_zero_iff]
  have PI : Hid (∀ W', Below W.heap.size W W' → Says 252 #[i] (commas xi) W') := fun W' hB => w_commasI W i is xi hi si fi li ci W' hB
  have PF : Hid (∀ W', Below W.heap.size W W' → Says 253 #[fr] (commas xf) W') := fun W' hB => w_commasS W fr fs xf hf sf ff lf cf W' hB
  have PG : Hid (∀ W', Below W.heap.size W W' → Says 254 #[g] (commas xg) W') := fun W' hB => w_commasC W g gs xg hg sg fg lg cg W' hB
  have e : (if xg = [] then [] else [32, 103, 114, 111, 117, 112, 32, 98, 121, 32] ++ commas xg) = (if gs.length = 0 then [] else [32, 103, 114, 111, 117, 112, 32, 98, 121, 32] ++ commas xg) := by
    by_cases h0 : xg = []
    · rw [if_pos h0, if_pos (HGE.1 h0)]
    · rw [if_neg h0, if_neg (fun x => h0 (HGE.2 x))]
  rw [selP_eq, e]
  obtain ⟨ai, capi, rfl, _⟩ := lay_cells hi
  obtain ⟨af, capf, rfl, _⟩ := lay_cells hf
  obtain ⟨ag, capg, rfl, _⟩ := lay_cells hg
  exact w_select0 W f.dist f.star ai af ag capi capf capg _ _ _ w h _ _ _ ow oh PI PF PG li lg ci cf cg HST hw hh W0 hB
end Gr
end Go.Proofs.YtfkdfplnhlnnoaaGreatDoor
