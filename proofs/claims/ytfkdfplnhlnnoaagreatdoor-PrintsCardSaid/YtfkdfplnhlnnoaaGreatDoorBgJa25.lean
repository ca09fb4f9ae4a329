import Derived.Test.YtfkdfplnhlnnoaaGreatDoorBgPaV
section
namespace Go.Proofs.YtfkdfplnhlnnoaaGreatDoor
open Go.RowKit
namespace Gr
set_option linter.unusedSimpArgs false
set_option linter.unusedVariables false
open T NT PK
/-- what parse.Query answers: the fault that it throws, or a value for the query's tree -/
def QueryIs (W : World) : Except Nat (List RW) → Ending → World → Prop
  | .error n, e, w' => Bad W.heap.size 2 n W e w'
  | .ok l, e, w' => (¬ G query (l.map tok) ∧ Bad W.heap.size 3 0 W e w') ∨ (G query (l.map tok) ∧ deep l = true ∧ Bad W.heap.size 4 0 W e w') ∨ (G query (l.map tok) ∧ deep l = false ∧ Below W.heap.size W w' ∧ ∃ Pb n y t, e = .returned (.iface n y) ∧ D query l t ∧ Rep Pb W.heap.size w' (.v (.iface n y)) t)
theorem pcells_get : ∀ (l : List RW) (i : Nat) (h : i < l.length), (pcells l)[i * 3]? = some (.int .i64 (pKind l[i])) ∧ (pcells l)[i * 3 + 1]? = some (.string ⟨(pSpelt l[i]).toArray⟩) ∧ (pcells l)[i * 3 + 2]? = some (pVal l[i])
  | w :: l, 0, h => by simp [pcells, pcell]
  | w :: l, i + 1, h => by
    have ih := pcells_get l i (by simpa using h)
    have e : ∀ j, (pcells (w :: l))[j + 3]? = (pcells l)[j]? := fun j => by simp [pcells, pcell]
    rw [show (i + 1) * 3 = i * 3 + 3 from by omega, show i * 3 + 3 + 1 = i * 3 + 1 + 3 from by omega, show i * 3 + 3 + 2 = i * 3 + 2 + 3 from by omega, e, e, e]
    simpa using ih
/-- the words' slice -/
theorem own_pwords {W : World} {B : Nat} {v : Value} {l : List RW} (h : W.ownsRow B 139 3 v l.length (pcells l)) : ∃ a cap, v = .slice a l.length cap ∧ l.length ≤ cap ∧ PWords W.heap.size W a l := by
  rcases h.2 with ⟨rfl, h0⟩ | ⟨g, cap, cur, rfl, _, hh, hc, _⟩
  · exact ⟨none, 0, by rw [h0], by omega, fun i hi => by omega⟩
  · have hlt := (Array.getElem?_eq_some_iff.1 hh).1
    refine ⟨_, cap, rfl, hc, fun i hi => ⟨g, rfl, by omega, ?_⟩⟩
    obtain ⟨e1, e2, e3⟩ := pcells_get l i hi
    have h1 := h.cells (g := g) rfl _ _ e1
    have h2 := h.cells (g := g) rfl _ _ e2
    have h3 := h.cells (g := g) rfl _ _ e3
    rw [Addr.add_lit, Nat.zero_add] at h1 h2 h3
    exact ⟨h1, h2, h3⟩
theorem ps_start {W : World} {a : Option Addr} {l : List RW} {cap : Nat} (hw : PWords W.heap.size W a l) (hc : l.length ≤ cap) (hok : ∀ w ∈ l, Ok1 w) (hl : l.length ≤ 400) : PS W.heap.size l 0 (W.alloc (.cells #[.slice a l.length cap, .int .i64 0] 133)) := by
  have hn := heap_alloc_new W (.cells #[.slice a l.length cap, .int .i64 0] 133)
  refine ⟨hl, hok, Nat.zero_le _, ⟨a, cap, hn, fun i hi => ?_⟩, fun a' cap' e => ?_⟩
  · obtain ⟨g, e, hg, c1, c2, c3⟩ := hw i hi
    have hk := Keep.alloc W.heap.size W (.cells #[.slice a l.length cap, .int .i64 0] 133)
    exact ⟨g, e, hg, hk.cell hg c1, hk.cell hg c2, hk.cell hg c3⟩
  · rw [hn] at e
    simp at e
    omega
theorem below_keep {n0 Pb : Nat} {W w w' : World} (h : Below n0 W w) (hK : Keep Pb w w') (hP : n0 ≤ Pb) (hn : n0 ≤ w.heap.size) : Below n0 W w' :=
  ⟨hK.os.trans h.os, hK.tape.trans h.tape, hK.output.trans h.output, Nat.le_trans h.size hK.size, fun g hg => (hK.block g (by omega) (by omega)).trans (h.block g hg)⟩
theorem bad_of {Pb n0 : Nat} {W w : World} {e : Ending} {w' : World} (h : Below n0 W w) (hP : n0 ≤ Pb) (hn : n0 ≤ w.heap.size) (hb : BadP Pb w e w') : Bad n0 3 0 W e w' := by
  obtain ⟨b, h1, h2, h3, h4⟩ := hb
  exact ⟨b, h1, h2, h3, below_keep h h4 hP hn⟩
theorem PS.slice {Pb : Nat} {ws : List RW} {k : Nat} {W : World} (h : PS Pb ws k W) : ∃ wa cap, W.cell? ⟨Pb, 0, none⟩ = some (.slice wa ws.length cap) ∧ PWords Pb W wa ws := by
  obtain ⟨wa, cap, h1, _, _, h4⟩ := h.cells
  exact ⟨wa, cap, h1, h4⟩
set_option maxRecDepth 10000 in
set_option maxHeartbeats 1000000 in
theorem p_Query (s : Bg.Str) (W : World) (hs : s.length ≤ 90000) (hE : WEnv W) (hSp : Spaces W) :
    Calls Tryz.prog 39 #[.string ⟨s.toArray⟩] W (QueryIs W (rWords s)) := by
  have hrd := fun w hE hSp => w_Read s w hs hE hSp
  have HOK : Hid (∀ l, rWords s = .ok l → (∀ w ∈ l, Ok1 w) ∧ l.length ≤ 400) := fun l h => by
    obtain ⟨h1, h2, h3⟩ := rWords_ok h; exact ⟨h1, by omega⟩
  generalize rWords s = R at HOK hrd ⊢
  go_enter Tryz.func39, Tryz.ntmps39
  go_wp2_with fail
  refine (hrd _ hE hSp).mono ?_
  cases R with
  | error n =>
    rintro e w1 ⟨b, rfl, h1, h2, h3⟩
    go_wp2
    exact ⟨rfl, b, rfl, h1, h2, h3⟩
  | ok l =>
    rintro e w1 ⟨v, rfl, hown, hB1⟩
    obtain ⟨hok, hlen⟩ := HOK.out l rfl
    obtain ⟨a, cap, rfl, hcap, hw⟩ := own_pwords hown
    have hP0 := ps_start hw hcap hok hlen
    have hsz := hB1.size
    have hBa : Below W.heap.size W (w1.alloc (.cells #[.slice a l.length cap, .int .i64 0] 133)) := hB1.alloc hsz _
    clear hrd HOK hown hw
    generalize hPb : w1.heap.size = Pb at hP0 hsz
    go_wp2_with fail
    generalize w1.alloc (.cells #[.slice a l.length cap, .int .i64 0] 133) = w2 at hP0 hBa ⊢
    have hsz2 := hBa.size
    refine ((all_read Pb l).query 0 w2 (Nat.le_refl _) hP0).mono ?_
    rintro e w3 (⟨k, x, _, hA, rfl, ⟨t, hD, hR⟩, hP3, hK3⟩ | ⟨hA, hb⟩)
    · obtain ⟨n, y, rfl⟩ := hR.iface
      have HA : Hid (ans (P query) (tk l 0) = some (tk l k)) := hA
      have HD : Hid (D query (sl l 0 k) t) := hD
      clear hA hD
      have hB3 := below_keep hBa hK3 hsz hsz2
      go_wp2_with fail
      refine (p_next Pb l k _ hP3).mono ?_
      rintro e w4 ⟨rfl, hB4⟩
      have hP4 := hP3.keep hB4
      have hB4' := hB3.trans (hB4.mono hB3.size)
      unfold nextV
      have f0 := fun w => fld0 (nKind l k) ⟨(nSpelt l k).toArray⟩ (nVal l k) (nVal_is l k) w
      by_cases hk : k < l.length
      · have hne : (nKind l k == 0) = false := by
          have : nKind l k ≠ 0 := by
            rw [(n_in hk).1]; unfold pKind
            split
            · decide
            · split <;> decide
          simpa using this
        have HN : Hid (¬ G query (l.map tok)) := fun hG => by
          have h1 := (ans_iff _).2 hG
          have h2 : ans (P query) (tk l 0) = some [] := h1
          rw [HA.out] at h2
          have h3 := congrArg List.length (Option.some.inj h2)
          rw [tk_len] at h3
          simp at h3; omega
        go_wp2_with fail
        refine (p_fail Pb _).mono ?_
        rintro e w5 hb
        obtain ⟨b, rfl, h1, h2, h3⟩ := bad_of hB4' hsz hB4'.size hb
        go_wp2
        exact ⟨rfl, .inl ⟨HN.out, b, rfl, h1, h2, h3⟩⟩
      · have hkl : k = l.length := by have := hP3.le; omega
        have he : (nKind l k == 0) = true := by rw [(n_out hk).1]; rfl
        have HG : Hid (G query (l.map tok)) := by
          refine (ans_iff _).1 ?_
          have h2 := HA.out
          rw [tk_nil hk] at h2
          exact h2
        have HD2 : Hid (D query l t) := by
          have h2 := HD.out
          rw [hkl, sl_all] at h2
          exact h2
        obtain ⟨wa, cap', c0, hw'⟩ := hP4.slice
        have hR4 := (hR.low hsz2).keep (Keep.of Pb hB4)
        clear hk hkl HA HD
        go_wp2_with fail
        refine (p_checkDepth l Pb wa cap' _ hw' hok hlen).mono ?_
        rintro e w5 (⟨hd, rfl, hB5⟩ | ⟨hd, hb⟩)
        · have Hd : Hid (deep l = false) := hd
          clear hd
          go_wp2_with fail
          go_ret
          exact .inr (.inr ⟨HG.out, Hd.out, hB4'.trans (hB5.mono hB4'.size), Pb, n, y, t, rfl, HD2.out, hR4.keep (Keep.of Pb hB5)⟩)
        · have Hd : Hid (deep l = true) := hd
          clear hd
          obtain ⟨b, rfl, h1, h2, h3⟩ := hb
          go_wp2
          exact ⟨rfl, .inr (.inl ⟨HG.out, Hd.out, b, rfl, h1, h2, hB4'.trans (h3.mono hB4'.size)⟩)⟩
    · have HN : Hid (¬ G query (l.map tok)) := fun hG => by
        have h1 := (ans_iff _).2 hG
        have h2 : ans (P query) (tk l 0) = some [] := h1
        rw [hA] at h2; cases h2
      clear hA
      obtain ⟨b, rfl, h1, h2, h3⟩ := bad_of hBa hsz hsz2 hb
      go_wp2
      exact ⟨rfl, .inl ⟨HN.out, b, rfl, h1, h2, h3⟩⟩
end Gr
end Go.Proofs.YtfkdfplnhlnnoaaGreatDoor
end
section
namespace Go.Proofs.YtfkdfplnhlnnoaaGreatDoor
open Go.RowKit
namespace Gr
set_option linter.unusedSimpArgs false
set_option linter.unusedVariables false
/-- a call that answers this text, and leaves all that was there -/
def Says (f : Nat) (args : Array Value) (s : Bg.Str) (W : World) : Prop := Calls Tryz.prog f args W fun e w' => e = .returned (.string ⟨s.toArray⟩) ∧ Below W.heap.size W w'
/-- the value's Written answers this text, in every world that holds what W holds -/
def SayV (W : World) (v : Value) (s : Bg.Str) : Prop := ∃ T x K x', v = .iface T x ∧ (∀ w, (nilAhead 499 T x "Written").run Tryz.prog w = .ok (some false) w) ∧ (∀ w, (method 499 T x "Written").run Tryz.prog w = .ok (K, x') w) ∧ (∀ w, (callFunc K #[x']).run Tryz.prog w = .ok (.enter K #[x']) w) ∧ ∀ W', Below W.heap.size W W' → Says K #[x'] s W'
theorem below_drew {n : Nat} {w w' : World} (h : Below n w w') : Below n w w'.drew := ⟨h.os, h.tape, h.output, h.size, h.block⟩
theorem below_in {w w' : World} (h : Below w.drew.heap.size w.drew w') : Below w.heap.size w w' := ⟨h.os, h.tape, h.output, h.size, h.block⟩
set_option maxRecDepth 10000 in
set_option maxHeartbeats 2000000 in
theorem w_sidesE (W : World) (l r : Value) (s a b : Bg.Str) (hl : SayV W l a) (hr : SayV W r b) (la : a.length ≤ 400000) (lb : b.length ≤ 400000) (ls : s.length ≤ 1000) (W0 : World) (hB : Below W.heap.size W W0) :
    Says 275 #[.agg #[l, .string ⟨s.toArray⟩, r]] (a ++ [32] ++ s ++ [32] ++ b) W0 := by
  have hex := Bg.ext_mk
  have hap := Bg.app_mk
  obtain ⟨T1, x1, K1, y1, rfl, n1, m1, f1, hl⟩ := hl
  obtain ⟨T2, x2, K2, y2, rfl, n2, m2, f2, hr⟩ := hr
  unfold Says
  go_enter Tryz.func275, Tryz.ntmps275
  go_wp2_with fail
  have hBa : Below W.heap.size W (W0.alloc (.cells #[.iface T1 x1, .string ⟨s.toArray⟩, .iface T2 x2] 305)) := hB.alloc hB.size _
  have hB0 : Below W0.heap.size W0 (W0.alloc (.cells #[.iface T1 x1, .string ⟨s.toArray⟩, .iface T2 x2] 305)) := wsum _
  obtain ⟨q0, q1, q2, _⟩ := cells3 (heap_alloc_new W0 (.cells #[.iface T1 x1, .string ⟨s.toArray⟩, .iface T2 x2] 305))
  have hsz : W0.heap.size < (W0.alloc (.cells #[.iface T1 x1, .string ⟨s.toArray⟩, .iface T2 x2] 305)).heap.size := by simp
  generalize W0.alloc (.cells #[.iface T1 x1, .string ⟨s.toArray⟩, .iface T2 x2] 305) = A at hBa hB0 q0 q1 q2 hsz ⊢
  refine wp_region_held_drew (S := fun w' => w'.cell? ⟨W0.heap.size, 0, none⟩ = some (.iface T1 x1) ∧ w'.cell? ⟨W0.heap.size, 1, none⟩ = some (.string ⟨s.toArray⟩) ∧ w'.cell? ⟨W0.heap.size, 2, none⟩ = some (.iface T2 x2)) (by kernel_rfl) ⟨q0, q1, q2⟩ (fun hHeld => ?_)
  refine wpAnyH_take (i := 0) (v := ?_) rfl (by kernel_rfl) (by kernel_rfl) (by kernel_rfl) (fun _ _ _ h => h) (Or.inl ⟨by rfl, ?_⟩) (by assumption) ?_
  rotate_left
  · intro w hSw; (try dsimp only at hSw); go_simp <;> with_reducible rfl
  try simp only [Act.put, List.setIfInBounds_toArray, List.set_cons_zero, List.set_cons_succ, List.getElem_toArray, List.getElem_cons_zero, List.getElem_cons_succ]
  refine wpAnyH_take (i := 1) (v := ?_) rfl (by kernel_rfl) (by kernel_rfl) (by kernel_rfl) (fun _ _ _ h => h) (Or.inl ⟨by rfl, ?_⟩) (by assumption) ?_
  rotate_left
  · intro w hSw; (try dsimp only at hSw); go_simp <;> with_reducible rfl
  try simp only [Act.put, List.setIfInBounds_toArray, List.set_cons_zero, List.set_cons_succ, List.getElem_toArray, List.getElem_cons_zero, List.getElem_cons_succ]
  refine wpAnyH_take (i := 4) (v := ?_) rfl (by kernel_rfl) (by kernel_rfl) (by kernel_rfl) (fun _ _ _ h => h) (Or.inl ⟨by rfl, ?_⟩) (by assumption) ?_
  rotate_left
  · intro w hSw; (try dsimp only at hSw); go_simp <;> with_reducible rfl
  try simp only [Act.put, List.setIfInBounds_toArray, List.set_cons_zero, List.set_cons_succ, List.getElem_toArray, List.getElem_cons_zero, List.getElem_cons_succ]
  refine wpAnyH_take (i := 5) (v := ?_) rfl (by kernel_rfl) (by kernel_rfl) (by kernel_rfl) (fun _ _ _ h => h) (Or.inl ⟨by rfl, ?_⟩) (by assumption) ?_
  rotate_left
  · intro w hSw; (try dsimp only at hSw); go_simp <;> with_reducible rfl
  try simp only [Act.put, List.setIfInBounds_toArray, List.set_cons_zero, List.set_cons_succ, List.getElem_toArray, List.getElem_cons_zero, List.getElem_cons_succ]
  refine wpAnyH_take (i := 8) (v := ?_) rfl (by kernel_rfl) (by kernel_rfl) (by kernel_rfl) (fun _ _ _ h => h) (Or.inl ⟨by rfl, ?_⟩) (by assumption) ?_
  rotate_left
  · intro w hSw; (try dsimp only at hSw); go_simp <;> with_reducible rfl
  try simp only [Act.put, List.setIfInBounds_toArray, List.set_cons_zero, List.set_cons_succ, List.getElem_toArray, List.getElem_cons_zero, List.getElem_cons_succ]
  refine wpAnyH_take (i := 9) (v := ?_) rfl (by kernel_rfl) (by kernel_rfl) (by kernel_rfl) (fun _ _ _ h => h) (Or.inl ⟨by rfl, ?_⟩) (by assumption) ?_
  rotate_left
  · intro w hSw; (try dsimp only at hSw); go_simp <;> with_reducible rfl
  try simp only [Act.put, List.setIfInBounds_toArray, List.set_cons_zero, List.set_cons_succ, List.getElem_toArray, List.getElem_cons_zero, List.getElem_cons_succ]
  refine wpAnyH_ready (rs := [2]) (by kernel_rfl) (by simp) (AllReadyH.cons rfl (fun K hK => ?_) AllReadyH.nil)
  go_simp
  refine (hl _ (below_drew hBa)).mono ?_
  rintro e w1 ⟨rfl, hB1⟩
  go_simp
  have hB1' := below_in hB1
  refine hK.out _ _ ⟨(hB1'.cell (p := ⟨W0.heap.size, 0, none⟩) hsz).trans q0, (hB1'.cell (p := ⟨W0.heap.size, 1, none⟩) hsz).trans q1, (hB1'.cell (p := ⟨W0.heap.size, 2, none⟩) hsz).trans q2⟩ (fun hHeld => ?_)
  clear hK K
  refine wpAnyH_take (i := 3) (v := .string ⟨(a ++ [32]).toArray⟩) rfl (by kernel_rfl) (by kernel_rfl) (by kernel_rfl) (fun _ _ _ h => h) (Or.inl ⟨by rfl, ?_⟩) (by assumption) ?_
  · intro w hSw; clear hSw; go_simp <;> (try simp only [List.length_append, List.length_cons, List.length_nil]) <;> omega
  try simp only [Act.put, List.setIfInBounds_toArray, List.set_cons_zero, List.set_cons_succ, List.getElem_toArray, List.getElem_cons_zero, List.getElem_cons_succ]
  refine wpAnyH_take (i := 6) (v := .string ⟨(a ++ [32] ++ s).toArray⟩) rfl (by kernel_rfl) (by kernel_rfl) (by kernel_rfl) (fun _ _ _ h => h) (Or.inl ⟨by rfl, ?_⟩) (by assumption) ?_
  · intro w hSw; clear hSw; go_simp <;> (try simp only [List.length_append, List.length_cons, List.length_nil]) <;> omega
  try simp only [Act.put, List.setIfInBounds_toArray, List.set_cons_zero, List.set_cons_succ, List.getElem_toArray, List.getElem_cons_zero, List.getElem_cons_succ]
  refine wpAnyH_take (i := 7) (v := .string ⟨(a ++ [32] ++ s ++ [32]).toArray⟩) rfl (by kernel_rfl) (by kernel_rfl) (by kernel_rfl) (fun _ _ _ h => h) (Or.inl ⟨by rfl, ?_⟩) (by assumption) ?_
  · intro w hSw; clear hSw; go_simp <;> (try simp only [List.length_append, List.length_cons, List.length_nil]) <;> omega
  try simp only [Act.put, List.setIfInBounds_toArray, List.set_cons_zero, List.set_cons_succ, List.getElem_toArray, List.getElem_cons_zero, List.getElem_cons_succ]
  refine wpAnyH_ready (rs := [10]) (by kernel_rfl) (by simp) (AllReadyH.cons rfl (fun K hK => ?_) AllReadyH.nil)
  go_simp
  have hBb := hBa.trans (hB1'.mono hBa.size)
  refine (hr _ hBb).mono ?_
  rintro e w2 ⟨rfl, hB2⟩
  go_simp
  refine hK.out _ _ ⟨((hB2.cell (p := ⟨W0.heap.size, 0, none⟩) (Nat.lt_of_lt_of_le hsz hB1'.size)).trans ((hB1'.cell (p := ⟨W0.heap.size, 0, none⟩) hsz).trans q0)), ((hB2.cell (p := ⟨W0.heap.size, 1, none⟩) (Nat.lt_of_lt_of_le hsz hB1'.size)).trans ((hB1'.cell (p := ⟨W0.heap.size, 1, none⟩) hsz).trans q1)), ((hB2.cell (p := ⟨W0.heap.size, 2, none⟩) (Nat.lt_of_lt_of_le hsz hB1'.size)).trans ((hB1'.cell (p := ⟨W0.heap.size, 2, none⟩) hsz).trans q2))⟩ (fun hHeld => ?_)
  clear hK K
  refine wpAnyH_take (i := 11) (v := .string ⟨(a ++ [32] ++ s ++ [32] ++ b).toArray⟩) rfl (by kernel_rfl) (by kernel_rfl) (by kernel_rfl) (fun _ _ _ h => h) (Or.inl ⟨by rfl, ?_⟩) (by assumption) ?_
  · intro w hSw; clear hSw; go_simp <;> (try simp only [List.length_append, List.length_cons, List.length_nil]) <;> omega
  try simp only [Act.put, List.setIfInBounds_toArray, List.set_cons_zero, List.set_cons_succ, List.getElem_toArray, List.getElem_cons_zero, List.getElem_cons_succ]
  refine wpAnyH_take (i := 12) (v := ?_) rfl (by kernel_rfl) (by kernel_rfl) (by kernel_rfl) (fun _ _ _ h => h) (Or.inl ⟨by rfl, ?_⟩) (by assumption) ?_
  rotate_left
  · intro w hSw; (try dsimp only at hSw); go_simp <;> with_reducible rfl
  try simp only [Act.put, List.setIfInBounds_toArray, List.set_cons_zero, List.set_cons_succ, List.getElem_toArray, List.getElem_cons_zero, List.getElem_cons_succ]
  refine wpAnyH_done (by kernel_rfl) ?_ _
  go_wp2_with fail
  go_ret

  exact ⟨by first | rfl | simp, hB0.trans ((hB1'.trans (hB2.mono hB1'.size)).mono hB0.size)⟩
set_option maxRecDepth 10000 in
set_option maxHeartbeats 2000000 in
theorem w_sidesQ (W : World) (l r : Value) (s a b : Bg.Str) (hl : SayV W l a) (hr : SayV W r b) (la : a.length ≤ 400000) (lb : b.length ≤ 400000) (ls : s.length ≤ 1000) (W0 : World) (hB : Below W.heap.size W W0) :
    Says 245 #[.agg #[l, .string ⟨s.toArray⟩, r]] (a ++ [32] ++ s ++ [32] ++ b) W0 := by
  have hex := Bg.ext_mk
  have hap := Bg.app_mk
  obtain ⟨T1, x1, K1, y1, rfl, n1, m1, f1, hl⟩ := hl
  obtain ⟨T2, x2, K2, y2, rfl, n2, m2, f2, hr⟩ := hr
  unfold Says
  go_enter Tryz.func245, Tryz.ntmps245
  go_wp2_with fail
  have hBa : Below W.heap.size W (W0.alloc (.cells #[.iface T1 x1, .string ⟨s.toArray⟩, .iface T2 x2] 167)) := hB.alloc hB.size _
  have hB0 : Below W0.heap.size W0 (W0.alloc (.cells #[.iface T1 x1, .string ⟨s.toArray⟩, .iface T2 x2] 167)) := wsum _
  obtain ⟨q0, q1, q2, _⟩ := cells3 (heap_alloc_new W0 (.cells #[.iface T1 x1, .string ⟨s.toArray⟩, .iface T2 x2] 167))
  have hsz : W0.heap.size < (W0.alloc (.cells #[.iface T1 x1, .string ⟨s.toArray⟩, .iface T2 x2] 167)).heap.size := by simp
  generalize W0.alloc (.cells #[.iface T1 x1, .string ⟨s.toArray⟩, .iface T2 x2] 167) = A at hBa hB0 q0 q1 q2 hsz ⊢
  refine wp_region_held_drew (S := fun w' => w'.cell? ⟨W0.heap.size, 0, none⟩ = some (.iface T1 x1) ∧ w'.cell? ⟨W0.heap.size, 1, none⟩ = some (.string ⟨s.toArray⟩) ∧ w'.cell? ⟨W0.heap.size, 2, none⟩ = some (.iface T2 x2)) (by kernel_rfl) ⟨q0, q1, q2⟩ (fun hHeld => ?_)
  refine wpAnyH_take (i := 0) (v := ?_) rfl (by kernel_rfl) (by kernel_rfl) (by kernel_rfl) (fun _ _ _ h => h) (Or.inl ⟨by rfl, ?_⟩) (by assumption) ?_
  rotate_left
  · intro w hSw; (try dsimp only at hSw); go_simp <;> with_reducible rfl
  try simp only [Act.put, List.setIfInBounds_toArray, List.set_cons_zero, List.set_cons_succ, List.getElem_toArray, List.getElem_cons_zero, List.getElem_cons_succ]
  refine wpAnyH_take (i := 1) (v := ?_) rfl (by kernel_rfl) (by kernel_rfl) (by kernel_rfl) (fun _ _ _ h => h) (Or.inl ⟨by rfl, ?_⟩) (by assumption) ?_
  rotate_left
  · intro w hSw; (try dsimp only at hSw); go_simp <;> with_reducible rfl
  try simp only [Act.put, List.setIfInBounds_toArray, List.set_cons_zero, List.set_cons_succ, List.getElem_toArray, List.getElem_cons_zero, List.getElem_cons_succ]
  refine wpAnyH_take (i := 4) (v := ?_) rfl (by kernel_rfl) (by kernel_rfl) (by kernel_rfl) (fun _ _ _ h => h) (Or.inl ⟨by rfl, ?_⟩) (by assumption) ?_
  rotate_left
  · intro w hSw; (try dsimp only at hSw); go_simp <;> with_reducible rfl
  try simp only [Act.put, List.setIfInBounds_toArray, List.set_cons_zero, List.set_cons_succ, List.getElem_toArray, List.getElem_cons_zero, List.getElem_cons_succ]
  refine wpAnyH_take (i := 5) (v := ?_) rfl (by kernel_rfl) (by kernel_rfl) (by kernel_rfl) (fun _ _ _ h => h) (Or.inl ⟨by rfl, ?_⟩) (by assumption) ?_
  rotate_left
  · intro w hSw; (try dsimp only at hSw); go_simp <;> with_reducible rfl
  try simp only [Act.put, List.setIfInBounds_toArray, List.set_cons_zero, List.set_cons_succ, List.getElem_toArray, List.getElem_cons_zero, List.getElem_cons_succ]
  refine wpAnyH_take (i := 8) (v := ?_) rfl (by kernel_rfl) (by kernel_rfl) (by kernel_rfl) (fun _ _ _ h => h) (Or.inl ⟨by rfl, ?_⟩) (by assumption) ?_
  rotate_left
  · intro w hSw; (try dsimp only at hSw); go_simp <;> with_reducible rfl
  try simp only [Act.put, List.setIfInBounds_toArray, List.set_cons_zero, List.set_cons_succ, List.getElem_toArray, List.getElem_cons_zero, List.getElem_cons_succ]
  refine wpAnyH_take (i := 9) (v := ?_) rfl (by kernel_rfl) (by kernel_rfl) (by kernel_rfl) (fun _ _ _ h => h) (Or.inl ⟨by rfl, ?_⟩) (by assumption) ?_
  rotate_left
  · intro w hSw; (try dsimp only at hSw); go_simp <;> with_reducible rfl
  try simp only [Act.put, List.setIfInBounds_toArray, List.set_cons_zero, List.set_cons_succ, List.getElem_toArray, List.getElem_cons_zero, List.getElem_cons_succ]
  refine wpAnyH_ready (rs := [2]) (by kernel_rfl) (by simp) (AllReadyH.cons rfl (fun K hK => ?_) AllReadyH.nil)
  go_simp
  refine (hl _ (below_drew hBa)).mono ?_
  rintro e w1 ⟨rfl, hB1⟩
  go_simp
  have hB1' := below_in hB1
  refine hK.out _ _ ⟨(hB1'.cell (p := ⟨W0.heap.size, 0, none⟩) hsz).trans q0, (hB1'.cell (p := ⟨W0.heap.size, 1, none⟩) hsz).trans q1, (hB1'.cell (p := ⟨W0.heap.size, 2, none⟩) hsz).trans q2⟩ (fun hHeld => ?_)
  clear hK K
  refine wpAnyH_take (i := 3) (v := .string ⟨(a ++ [32]).toArray⟩) rfl (by kernel_rfl) (by kernel_rfl) (by kernel_rfl) (fun _ _ _ h => h) (Or.inl ⟨by rfl, ?_⟩) (by assumption) ?_
  · intro w hSw; clear hSw; go_simp <;> (try simp only [List.length_append, List.length_cons, List.length_nil]) <;> omega
  try simp only [Act.put, List.setIfInBounds_toArray, List.set_cons_zero, List.set_cons_succ, List.getElem_toArray, List.getElem_cons_zero, List.getElem_cons_succ]
  refine wpAnyH_take (i := 6) (v := .string ⟨(a ++ [32] ++ s).toArray⟩) rfl (by kernel_rfl) (by kernel_rfl) (by kernel_rfl) (fun _ _ _ h => h) (Or.inl ⟨by rfl, ?_⟩) (by assumption) ?_
  · intro w hSw; clear hSw; go_simp <;> (try simp only [List.length_append, List.length_cons, List.length_nil]) <;> omega
  try simp only [Act.put, List.setIfInBounds_toArray, List.set_cons_zero, List.set_cons_succ, List.getElem_toArray, List.getElem_cons_zero, List.getElem_cons_succ]
  refine wpAnyH_take (i := 7) (v := .string ⟨(a ++ [32] ++ s ++ [32]).toArray⟩) rfl (by kernel_rfl) (by kernel_rfl) (by kernel_rfl) (fun _ _ _ h => h) (Or.inl ⟨by rfl, ?_⟩) (by assumption) ?_
  · intro w hSw; clear hSw; go_simp <;> (try simp only [List.length_append, List.length_cons, List.length_nil]) <;> omega
  try simp only [Act.put, List.setIfInBounds_toArray, List.set_cons_zero, List.set_cons_succ, List.getElem_toArray, List.getElem_cons_zero, List.getElem_cons_succ]
  refine wpAnyH_ready (rs := [10]) (by kernel_rfl) (by simp) (AllReadyH.cons rfl (fun K hK => ?_) AllReadyH.nil)
  go_simp
  have hBb := hBa.trans (hB1'.mono hBa.size)
  refine (hr _ hBb).mono ?_
  rintro e w2 ⟨rfl, hB2⟩
  go_simp
  refine hK.out _ _ ⟨((hB2.cell (p := ⟨W0.heap.size, 0, none⟩) (Nat.lt_of_lt_of_le hsz hB1'.size)).trans ((hB1'.cell (p := ⟨W0.heap.size, 0, none⟩) hsz).trans q0)), ((hB2.cell (p := ⟨W0.heap.size, 1, none⟩) (Nat.lt_of_lt_of_le hsz hB1'.size)).trans ((hB1'.cell (p := ⟨W0.heap.size, 1, none⟩) hsz).trans q1)), ((hB2.cell (p := ⟨W0.heap.size, 2, none⟩) (Nat.lt_of_lt_of_le hsz hB1'.size)).trans ((hB1'.cell (p := ⟨W0.heap.size, 2, none⟩) hsz).trans q2))⟩ (fun hHeld => ?_)
  clear hK K
  refine wpAnyH_take (i := 11) (v := .string ⟨(a ++ [32] ++ s ++ [32] ++ b).toArray⟩) rfl (by kernel_rfl) (by kernel_rfl) (by kernel_rfl) (fun _ _ _ h => h) (Or.inl ⟨by rfl, ?_⟩) (by assumption) ?_
  · intro w hSw; clear hSw; go_simp <;> (try simp only [List.length_append, List.length_cons, List.length_nil]) <;> omega
  try simp only [Act.put, List.setIfInBounds_toArray, List.set_cons_zero, List.set_cons_succ, List.getElem_toArray, List.getElem_cons_zero, List.getElem_cons_succ]
  refine wpAnyH_take (i := 12) (v := ?_) rfl (by kernel_rfl) (by kernel_rfl) (by kernel_rfl) (fun _ _ _ h => h) (Or.inl ⟨by rfl, ?_⟩) (by assumption) ?_
  rotate_left
  · intro w hSw; (try dsimp only at hSw); go_simp <;> with_reducible rfl
  try simp only [Act.put, List.setIfInBounds_toArray, List.set_cons_zero, List.set_cons_succ, List.getElem_toArray, List.getElem_cons_zero, List.getElem_cons_succ]
  refine wpAnyH_done (by kernel_rfl) ?_ _
  go_wp2_with fail
  go_ret

  exact ⟨by first | rfl | simp, hB0.trans ((hB1'.trans (hB2.mono hB1'.size)).mono hB0.size)⟩
set_option maxRecDepth 10000 in
set_option maxHeartbeats 2000000 in
theorem w_sidesC (W : World) (l r : Value) (s a b : Bg.Str) (hl : SayV W l a) (hr : SayV W r b) (la : a.length ≤ 400000) (lb : b.length ≤ 400000) (ls : s.length ≤ 1000) (W0 : World) (hB : Below W.heap.size W W0) :
    Says 272 #[.agg #[l, .string ⟨s.toArray⟩, r]] (a ++ [32] ++ s ++ [32] ++ b) W0 := by
  have hex := Bg.ext_mk
  have hap := Bg.app_mk
  obtain ⟨T1, x1, K1, y1, rfl, n1, m1, f1, hl⟩ := hl
  obtain ⟨T2, x2, K2, y2, rfl, n2, m2, f2, hr⟩ := hr
  unfold Says
  go_enter Tryz.func272, Tryz.ntmps272
  go_wp2_with fail
  have hBa : Below W.heap.size W (W0.alloc (.cells #[.iface T1 x1, .string ⟨s.toArray⟩, .iface T2 x2] 296)) := hB.alloc hB.size _
  have hB0 : Below W0.heap.size W0 (W0.alloc (.cells #[.iface T1 x1, .string ⟨s.toArray⟩, .iface T2 x2] 296)) := wsum _
  obtain ⟨q0, q1, q2, _⟩ := cells3 (heap_alloc_new W0 (.cells #[.iface T1 x1, .string ⟨s.toArray⟩, .iface T2 x2] 296))
  have hsz : W0.heap.size < (W0.alloc (.cells #[.iface T1 x1, .string ⟨s.toArray⟩, .iface T2 x2] 296)).heap.size := by simp
  generalize W0.alloc (.cells #[.iface T1 x1, .string ⟨s.toArray⟩, .iface T2 x2] 296) = A at hBa hB0 q0 q1 q2 hsz ⊢
  refine wp_region_held_drew (S := fun w' => w'.cell? ⟨W0.heap.size, 0, none⟩ = some (.iface T1 x1) ∧ w'.cell? ⟨W0.heap.size, 1, none⟩ = some (.string ⟨s.toArray⟩) ∧ w'.cell? ⟨W0.heap.size, 2, none⟩ = some (.iface T2 x2)) (by kernel_rfl) ⟨q0, q1, q2⟩ (fun hHeld => ?_)
  refine wpAnyH_take (i := 0) (v := ?_) rfl (by kernel_rfl) (by kernel_rfl) (by kernel_rfl) (fun _ _ _ h => h) (Or.inl ⟨by rfl, ?_⟩) (by assumption) ?_
  rotate_left
  · intro w hSw; (try dsimp only at hSw); go_simp <;> with_reducible rfl
  try simp only [Act.put, List.setIfInBounds_toArray, List.set_cons_zero, List.set_cons_succ, List.getElem_toArray, List.getElem_cons_zero, List.getElem_cons_succ]
  refine wpAnyH_take (i := 1) (v := ?_) rfl (by kernel_rfl) (by kernel_rfl) (by kernel_rfl) (fun _ _ _ h => h) (Or.inl ⟨by rfl, ?_⟩) (by assumption) ?_
  rotate_left
  · intro w hSw; (try dsimp only at hSw); go_simp <;> with_reducible rfl
  try simp only [Act.put, List.setIfInBounds_toArray, List.set_cons_zero, List.set_cons_succ, List.getElem_toArray, List.getElem_cons_zero, List.getElem_cons_succ]
  refine wpAnyH_take (i := 4) (v := ?_) rfl (by kernel_rfl) (by kernel_rfl) (by kernel_rfl) (fun _ _ _ h => h) (Or.inl ⟨by rfl, ?_⟩) (by assumption) ?_
  rotate_left
  · intro w hSw; (try dsimp only at hSw); go_simp <;> with_reducible rfl
  try simp only [Act.put, List.setIfInBounds_toArray, List.set_cons_zero, List.set_cons_succ, List.getElem_toArray, List.getElem_cons_zero, List.getElem_cons_succ]
  refine wpAnyH_take (i := 5) (v := ?_) rfl (by kernel_rfl) (by kernel_rfl) (by kernel_rfl) (fun _ _ _ h => h) (Or.inl ⟨by rfl, ?_⟩) (by assumption) ?_
  rotate_left
  · intro w hSw; (try dsimp only at hSw); go_simp <;> with_reducible rfl
  try simp only [Act.put, List.setIfInBounds_toArray, List.set_cons_zero, List.set_cons_succ, List.getElem_toArray, List.getElem_cons_zero, List.getElem_cons_succ]
  refine wpAnyH_take (i := 8) (v := ?_) rfl (by kernel_rfl) (by kernel_rfl) (by kernel_rfl) (fun _ _ _ h => h) (Or.inl ⟨by rfl, ?_⟩) (by assumption) ?_
  rotate_left
  · intro w hSw; (try dsimp only at hSw); go_simp <;> with_reducible rfl
  try simp only [Act.put, List.setIfInBounds_toArray, List.set_cons_zero, List.set_cons_succ, List.getElem_toArray, List.getElem_cons_zero, List.getElem_cons_succ]
  refine wpAnyH_take (i := 9) (v := ?_) rfl (by kernel_rfl) (by kernel_rfl) (by kernel_rfl) (fun _ _ _ h => h) (Or.inl ⟨by rfl, ?_⟩) (by assumption) ?_
  rotate_left
  · intro w hSw; (try dsimp only at hSw); go_simp <;> with_reducible rfl
  try simp only [Act.put, List.setIfInBounds_toArray, List.set_cons_zero, List.set_cons_succ, List.getElem_toArray, List.getElem_cons_zero, List.getElem_cons_succ]
  refine wpAnyH_ready (rs := [2]) (by kernel_rfl) (by simp) (AllReadyH.cons rfl (fun K hK => ?_) AllReadyH.nil)
  go_simp
  refine (hl _ (below_drew hBa)).mono ?_
  rintro e w1 ⟨rfl, hB1⟩
  go_simp
  have hB1' := below_in hB1
  refine hK.out _ _ ⟨(hB1'.cell (p := ⟨W0.heap.size, 0, none⟩) hsz).trans q0, (hB1'.cell (p := ⟨W0.heap.size, 1, none⟩) hsz).trans q1, (hB1'.cell (p := ⟨W0.heap.size, 2, none⟩) hsz).trans q2⟩ (fun hHeld => ?_)
  clear hK K
  refine wpAnyH_take (i := 3) (v := .string ⟨(a ++ [32]).toArray⟩) rfl (by kernel_rfl) (by kernel_rfl) (by kernel_rfl) (fun _ _ _ h => h) (Or.inl ⟨by rfl, ?_⟩) (by assumption) ?_
  · intro w hSw; clear hSw; go_simp <;> (try simp only [List.length_append, List.length_cons, List.length_nil]) <;> omega
  try simp only [Act.put, List.setIfInBounds_toArray, List.set_cons_zero, List.set_cons_succ, List.getElem_toArray, List.getElem_cons_zero, List.getElem_cons_succ]
  refine wpAnyH_take (i := 6) (v := .string ⟨(a ++ [32] ++ s).toArray⟩) rfl (by kernel_rfl) (by kernel_rfl) (by kernel_rfl) (fun _ _ _ h => h) (Or.inl ⟨by rfl, ?_⟩) (by assumption) ?_
  · intro w hSw; clear hSw; go_simp <;> (try simp only [List.length_append, List.length_cons, List.length_nil]) <;> omega
  try simp only [Act.put, List.setIfInBounds_toArray, List.set_cons_zero, List.set_cons_succ, List.getElem_toArray, List.getElem_cons_zero, List.getElem_cons_succ]
  refine wpAnyH_take (i := 7) (v := .string ⟨(a ++ [32] ++ s ++ [32]).toArray⟩) rfl (by kernel_rfl) (by kernel_rfl) (by kernel_rfl) (fun _ _ _ h => h) (Or.inl ⟨by rfl, ?_⟩) (by assumption) ?_
  · intro w hSw; clear hSw; go_simp <;> (try simp only [List.length_append, List.length_cons, List.length_nil]) <;> omega
  try simp only [Act.put, List.setIfInBounds_toArray, List.set_cons_zero, List.set_cons_succ, List.getElem_toArray, List.getElem_cons_zero, List.getElem_cons_succ]
  refine wpAnyH_ready (rs := [10]) (by kernel_rfl) (by simp) (AllReadyH.cons rfl (fun K hK => ?_) AllReadyH.nil)
  go_simp
  have hBb := hBa.trans (hB1'.mono hBa.size)
  refine (hr _ hBb).mono ?_
  rintro e w2 ⟨rfl, hB2⟩
  go_simp
  refine hK.out _ _ ⟨((hB2.cell (p := ⟨W0.heap.size, 0, none⟩) (Nat.lt_of_lt_of_le hsz hB1'.size)).trans ((hB1'.cell (p := ⟨W0.heap.size, 0, none⟩) hsz).trans q0)), ((hB2.cell (p := ⟨W0.heap.size, 1, none⟩) (Nat.lt_of_lt_of_le hsz hB1'.size)).trans ((hB1'.cell (p := ⟨W0.heap.size, 1, none⟩) hsz).trans q1)), ((hB2.cell (p := ⟨W0.heap.size, 2, none⟩) (Nat.lt_of_lt_of_le hsz hB1'.size)).trans ((hB1'.cell (p := ⟨W0.heap.size, 2, none⟩) hsz).trans q2))⟩ (fun hHeld => ?_)
  clear hK K
  refine wpAnyH_take (i := 11) (v := .string ⟨(a ++ [32] ++ s ++ [32] ++ b).toArray⟩) rfl (by kernel_rfl) (by kernel_rfl) (by kernel_rfl) (fun _ _ _ h => h) (Or.inl ⟨by rfl, ?_⟩) (by assumption) ?_
  · intro w hSw; clear hSw; go_simp <;> (try simp only [List.length_append, List.length_cons, List.length_nil]) <;> omega
  try simp only [Act.put, List.setIfInBounds_toArray, List.set_cons_zero, List.set_cons_succ, List.getElem_toArray, List.getElem_cons_zero, List.getElem_cons_succ]
  refine wpAnyH_take (i := 12) (v := ?_) rfl (by kernel_rfl) (by kernel_rfl) (by kernel_rfl) (fun _ _ _ h => h) (Or.inl ⟨by rfl, ?_⟩) (by assumption) ?_
  rotate_left
  · intro w hSw; (try dsimp only at hSw); go_simp <;> with_reducible rfl
  try simp only [Act.put, List.setIfInBounds_toArray, List.set_cons_zero, List.set_cons_succ, List.getElem_toArray, List.getElem_cons_zero, List.getElem_cons_succ]
  refine wpAnyH_done (by kernel_rfl) ?_ _
  go_wp2_with fail
  go_ret

  exact ⟨by first | rfl | simp, hB0.trans ((hB1'.trans (hB2.mono hB1'.size)).mono hB0.size)⟩
end Gr
end Go.Proofs.YtfkdfplnhlnnoaaGreatDoor
end
