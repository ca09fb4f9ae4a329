/- package tables: what the reader knows, and row. -/
import Derived.Test.YtfkdfplnhlnnoaaGreatDoorBgReadD
import Derived.Test.YtfkdfplnhlnnoaaGreatDoorBgRefD
import Derived.Test.YtfkdfplnhlnnoaaGreatDoorBgVals
import Derived.Deep.OwnRows
namespace Go.Proofs.YtfkdfplnhlnnoaaGreatDoor
open Go.RowKit
set_option linter.unusedSimpArgs false
set_option linter.unusedVariables false

/-- the last table: its columns' names and types, how many rows it has -/
structure Tab where
  cols : List (Bg.Str × Int)
  rows : Nat
/-- what the reader knows: the tables' names, the last table -/
structure St where
  names : List Bg.Str
  last : Option Tab
  tabs : List (Bg.Str × List (Bg.Str × Int))
def colCells (cs : List (Bg.Str × Int)) : List Value := cs.flatMap fun c => [strV c.1, .int .i64 c.2]

/-- the last table in memory, at or beyond B -/
def tabIn (B : Nat) (W : World) (v : Value) : Option Tab → Prop
  | none => v = .pointer none
  | some t => ∃ T cv pv rv rs, v = .pointer (some ⟨T, 0, none⟩) ∧ B ≤ T ∧ W.heap[T]? = some (.cells #[cv, pv, rv] 189 (0, 0)) ∧
      W.ownsRow B 195 2 cv t.cols.length (colCells t.cols) ∧ W.ownsRow B 197 1 rv t.rows rs ∧ t.cols.length ≤ 6 ∧ t.rows ≤ 12 ∧ 1 ≤ t.cols.length
/-- a table in memory, at or beyond B -/
structure TabM (B : Nat) (W : World) (T : Nat) (cols : List (Bg.Str × Int)) : Prop where
  ge : B ≤ T
  obj : ∃ cv P rv, B ≤ P ∧ W.heap[T]? = some (.cells #[cv, .map (some P), rv] 189 (0, 0)) ∧ W.ownsRow B 195 2 cv cols.length (colCells cols) ∧ valset W P cols.length (placesOf (cols.map (·.1))) ∧ ∃ a n c, rv = .slice a n c
  le : cols.length ≤ 6
  pos : 1 ≤ cols.length
def tabKvs (tl : List (Bg.Str × List (Bg.Str × Int))) (Ts : List Nat) : List (Bg.Str × DataW Unit) := (tl.zip Ts).map fun p => (p.1.1, nP p.2)
/-- all tables in memory, in the map M by their names -/
def TabsM (B : Nat) (W : World) (M : Nat) (names : List Bg.Str) (tl : List (Bg.Str × List (Bg.Str × Int))) : Prop :=
  tl.map (·.1) = names ∧ ∃ Ts : List Nat, tl.length = Ts.length ∧ valset W M tl.length (tabKvs tl Ts) ∧ ∀ p ∈ tl.zip Ts, TabM B W p.2 p.1.2
theorem own_at {W W' : World} {B e sz n : Nat} {v : Value} {xs : List Value} (h : W.ownsRow B e sz v n xs) (hb : ∀ g cu fr, B ≤ g → W.heap[g]? = some (.cells cu e fr) → W'.heap[g]? = some (.cells cu e fr)) : W'.ownsRow B e sz v n xs := by
  refine ⟨h.1, ?_⟩
  rcases h.2 with h0 | ⟨g, cap, cu, rfl, hg, hh, r⟩
  · exact .inl h0
  · exact .inr ⟨g, cap, cu, rfl, hg, hb g _ _ hg hh, r⟩
theorem TabM.typed {B T : Nat} {W W' : World} {cols : List (Bg.Str × Int)} (h : TabM B W T cols) (h1 : ∀ g es ck, B ≤ g → W.heap[g]? = some (.map es ck) → W'.heap[g]? = some (.map es ck)) (h2 : ∀ g cu fr, B ≤ g → W.heap[g]? = some (.cells cu 195 fr) → W'.heap[g]? = some (.cells cu 195 fr))
    (h3 : ∀ g a b c, B ≤ g → W.heap[g]? = some (.cells #[a, b, c] 189 (0, 0)) → ∃ c', W'.heap[g]? = some (.cells #[a, b, c'] 189 (0, 0)) ∧ (c' = c ∨ ∃ x y z, c' = .slice x y z)) : TabM B W' T cols := by
  obtain ⟨cv, P, rv, hP, ho, hc, hp, hr⟩ := h.obj
  obtain ⟨c', ho', hc'⟩ := h3 T _ _ _ h.ge ho
  refine ⟨h.ge, ⟨cv, P, c', hP, ho', own_at hc h2, ?_, ?_⟩, h.le, h.pos⟩
  · obtain ⟨es, ck, hm⟩ := hp.obj
    exact valset_block hp ((h1 P es ck hP hm).trans hm.symm)
  · rcases hc' with rfl | hc'
    · exact hr
    · exact hc'
theorem TabsM.typed {B M : Nat} {W W' : World} {names : List Bg.Str} {tl : List (Bg.Str × List (Bg.Str × Int))} (h : TabsM B W M names tl) (h0 : W'.heap[M]? = W.heap[M]?) (h1 : ∀ g es ck, B ≤ g → W.heap[g]? = some (.map es ck) → W'.heap[g]? = some (.map es ck)) (h2 : ∀ g cu fr, B ≤ g → W.heap[g]? = some (.cells cu 195 fr) → W'.heap[g]? = some (.cells cu 195 fr))
    (h3 : ∀ g a b c, B ≤ g → W.heap[g]? = some (.cells #[a, b, c] 189 (0, 0)) → ∃ c', W'.heap[g]? = some (.cells #[a, b, c'] 189 (0, 0)) ∧ (c' = c ∨ ∃ x y z, c' = .slice x y z)) : TabsM B W' M names tl := by
  obtain ⟨hn, Ts, hl, hv, ht⟩ := h
  exact ⟨hn, Ts, hl, valset_block hv h0, fun p hp => (ht p hp).typed h1 h2 h3⟩
theorem TabsM.keep {B M : Nat} {W W' : World} {names : List Bg.Str} {tl : List (Bg.Str × List (Bg.Str × Int))} (h : TabsM B W M names tl) (h0 : W'.heap[M]? = W.heap[M]?) (hb : ∀ b, b < W.heap.size → B ≤ b → W'.heap[b]? = W.heap[b]?) : TabsM B W' M names tl :=
  have hx : ∀ g o, B ≤ g → W.heap[g]? = some o → W'.heap[g]? = some o := fun g o hg e => (hb g (Array.getElem?_eq_some_iff.1 e).1 hg).trans e
  h.typed h0 (fun g _ _ hg e => hx g _ hg e) (fun g _ _ hg e => hx g _ hg e) (fun g _ _ c hg e => ⟨c, hx g _ hg e, .inl rfl⟩)
/-- the reader in memory -/
structure RInv (B R M Kb : Nat) (kws : List Bg.Str) (line : Int) (st : St) (W : World) : Prop where
  hR : R < B
  hM : M < B
  hK : Kb < B
  hRM : R ≠ M
  hMK : M ≠ Kb
  hRK : R ≠ Kb
  hB : B ≤ W.heap.size
  nd : st.names.Nodup
  names : keyset W M st.names.length st.names
  keys : keyset W Kb 100 kws
  tabs : TabsM B W M st.names st.tabs
  last : ∃ v, W.heap[R]? = some (.cells #[.int .i64 line, .map (some M), v, .map (some Kb)] 108 (0, 0)) ∧ tabIn B W v st.last

set_option maxRecDepth 100000 in
set_option maxHeartbeats 1000000 in
theorem r_row_none (B R M Kb : Nat) (kws : List Bg.Str) (line : Int) (st : St) (fv : Value) (l : List Bg.Str) (W : World) (hI : RInv B R M Kb kws line st W) (hn : st.last = none) (hv : viewS W fv l) :
    Calls Tryz.prog 69 #[.pointer (some ⟨R, 0, none⟩), fv] W fun e W' => bad B line W e W' := by
  obtain ⟨v, hR, hv0⟩ := hI.last
  rw [hn] at hv0
  obtain rfl : v = .pointer none := hv0
  have c0 : W.cell? ⟨R, 0, none⟩ = some (.int .i64 line) := by simp [World.cell?, hR]
  have c2 : W.cell? ⟨R, 2, none⟩ = some (.pointer none) := by simp [World.cell?, hR]
  obtain ⟨a, cap, rfl, _⟩ := hv
  go_enter Tryz.func69, Tryz.ntmps69
  go_wp2_with fail
  refine (r_must_false R line _ c0).mono ?_
  rintro e w3 ⟨b, rfl, hb0, hb1, hB3⟩
  go_wp2
  exact ⟨rfl, b, rfl, hb0, hb1, hB3.mono hI.hB⟩

theorem cells3 {w : World} {T : Nat} {cv pv rv : Value} {ty : TypeId} (h : w.heap[T]? = some (.cells #[cv, pv, rv] ty (0, 0))) :
    w.cell? ⟨T, 0, none⟩ = some cv ∧ w.cell? ⟨T, 1, none⟩ = some pv ∧ w.cell? ⟨T, 2, none⟩ = some rv ∧ (∀ k, w.frozen? ⟨T, k, none⟩ = false) :=
  ⟨by simp [World.cell?, h], by simp [World.cell?, h], by simp [World.cell?, h], fun k => by simp [World.frozen?, h]⟩
theorem own_succ {W : World} {B e sz n : Nat} {v : Value} {xs : List Value} (h : W.ownsRow B e sz v (n + 1) xs) : ∃ g cap, v = .slice (some ⟨g, 0, none⟩) (n + 1) cap := by
  rcases h.2 with ⟨_, h0⟩ | ⟨g, cap, cur, rfl, _⟩
  · cases h0
  · exact ⟨g, cap, rfl⟩
theorem own_slice {W : World} {B e sz n : Nat} {v : Value} {xs : List Value} (h : W.ownsRow B e sz v n xs) : ∃ a cap, v = .slice a n cap := by
  rcases h.2 with ⟨rfl, rfl⟩ | ⟨g, cap, cur, rfl, _⟩
  · exact ⟨none, 0, rfl⟩
  · exact ⟨_, cap, rfl⟩

set_option maxRecDepth 100000 in
set_option maxHeartbeats 1000000 in
theorem r_row_bad (B R M Kb : Nat) (kws : List Bg.Str) (line : Int) (st : St) (t : Tab) (fv : Value) (l : List Bg.Str) (W : World) (hl : l.length ≤ 90000) (hI : RInv B R M Kb kws line st W) (hn : st.last = some t) (hv : viewS W fv l)
    (hbad : l.length ≠ t.cols.length ∨ t.rows = 12) :
    Calls Tryz.prog 69 #[.pointer (some ⟨R, 0, none⟩), fv] W fun e W' => bad B line W e W' := by
  obtain ⟨v, hR, hv0⟩ := hI.last
  rw [hn] at hv0
  obtain ⟨T, cv, pv, rv, rs, rfl, hT, hTW, hcv, hrv, hcl, hrl, hc1⟩ := hv0
  have c0 : W.cell? ⟨R, 0, none⟩ = some (.int .i64 line) := by simp [World.cell?, hR]
  have c2 : W.cell? ⟨R, 2, none⟩ = some (.pointer (some ⟨T, 0, none⟩)) := by simp [World.cell?, hR]
  have t0 : W.cell? ⟨T, 0, none⟩ = some cv := by simp [World.cell?, hTW]
  have t2 : W.cell? ⟨T, 2, none⟩ = some rv := by simp [World.cell?, hTW]
  obtain ⟨a, cap, rfl, _⟩ := hv
  obtain ⟨a1, cap1, rfl⟩ := own_slice hcv
  obtain ⟨a2, cap2, rfl⟩ := own_slice hrv
  have hBW := hI.hB
  clear hI hR hTW hcv hrv
  by_cases h1 : l.length = t.cols.length
  · have h12 : t.rows = 12 := by omega
    have hb1 : ((l.length : Int) == (t.cols.length : Int)) = true := by simp [h1]
    have HH : Hid (t.rows = 12) := h12
    have hrr : 12 ≤ t.rows := by omega
    have hdec : decide ((t.rows : Int) < 12) = false := by simp; omega
    clear h1 h12 hbad
    go_enter Tryz.func69, Tryz.ntmps69
    go_wp2_with fail
    refine (r_must_false R line _ c0).mono ?_
    rintro e w3 ⟨b, rfl, hb0, hb1, hB3⟩
    go_wp2
    exact ⟨rfl, b, rfl, hb0, hb1, hB3.mono hBW⟩
  · have hb1 : ((l.length : Int) == (t.cols.length : Int)) = false := by simp; omega
    clear h1 hbad
    go_enter Tryz.func69, Tryz.ntmps69
    go_wp2_with fail
    refine (r_must_false R line _ c0).mono ?_
    rintro e w3 ⟨b, rfl, hb0, hb1, hB3⟩
    go_wp2
    exact ⟨rfl, b, rfl, hb0, hb1, hB3.mono hBW⟩

theorem colCells_get : ∀ (cs : List (Bg.Str × Int)) (k : Nat) (h : k < cs.length), (colCells cs)[2 * k + 1]? = some (.int .i64 cs[k].2)
  | c :: cs, 0, _ => by simp [colCells]
  | c :: cs, k + 1, h => by
    have ih := colCells_get cs k (by simpa using h)
    have e : colCells (c :: cs) = strV c.1 :: .int .i64 c.2 :: colCells cs := rfl
    rw [e, show 2 * (k + 1) + 1 = (2 * k + 1) + 2 from by omega]
    simpa using ih
theorem setCell_heap {w : World} {b k : Nat} {u : Value} {cur : Array Value} {e : TypeId} {fr : Nat × Nat} (h : w.heap[b]? = some (.cells cur e fr)) : (w.setCell ⟨b, k, none⟩ u).heap[b]? = some (.cells (cur.setIfInBounds k u) e fr) := by
  simp [World.setCell, Array.getElem?_modify, h]
theorem own_setCell {w : World} {B e sz n : Nat} {v : Value} {xs : List Value} (h : w.ownsRow B e sz v n xs) {b k : Nat} {u : Value} {cur : Array Value} {e' : TypeId} {fr : Nat × Nat} (hb : w.heap[b]? = some (.cells cur e' fr)) (hne : e ≠ e') :
    (w.setCell ⟨b, k, none⟩ u).ownsRow B e sz v n xs := by
  refine ⟨h.1, ?_⟩
  rcases h.2 with h0 | ⟨g, cap, cu, rfl, hg, hh, r⟩
  · exact .inl h0
  · have hgb : g ≠ b := by
      intro e1; subst e1; rw [hb] at hh
      exact hne (by injection hh with h1; injection h1 with _ h2; exact h2.symm)
    exact .inr ⟨g, cap, cu, rfl, hg, (Below.heap_setCell w ⟨b, k, none⟩ u g hgb).trans hh, r⟩
theorem own_grown {w w' : World} {B e sz n : Nat} {v : Value} {xs : List Value} (h : w.ownsRow B e sz v n xs) {row : Option Nat} (hg : w.grownBy w' row) (hne : ∀ g, v.ownBlock = some g → some g ≠ row) : w'.ownsRow B e sz v n xs := by
  refine ⟨h.1, ?_⟩
  rcases h.2 with h0 | ⟨g, cap, cu, rfl, hb, hh, r⟩
  · exact .inl h0
  · exact .inr ⟨g, cap, cu, rfl, hb, (hg.block g (Array.getElem?_eq_some_iff.1 hh).1 (hne g rfl)).trans hh, r⟩
theorem own_types {w : World} {B B' e e' sz sz' n n' : Nat} {v v' : Value} {xs xs' : List Value} (h : w.ownsRow B e sz v n xs) (h' : w.ownsRow B' e' sz' v' n' xs') (hne : e ≠ e') : ∀ g, v.ownBlock = some g → some g ≠ v'.ownBlock := by
  intro g hg e1
  rcases h.2 with ⟨rfl, _⟩ | ⟨g1, cap, cu, rfl, hb, hh, r⟩
  · cases hg
  · cases hg
    rcases h'.2 with ⟨rfl, _⟩ | ⟨g2, cap2, cu2, rfl, hb2, hh2, r2⟩
    · cases e1
    · cases e1
      rw [hh] at hh2
      exact hne (by injection hh2 with h1; injection h1)
theorem keyset_block {w w' : World} {b n : Nat} {ks : List Bg.Str} (h : keyset w b n ks) (hB : w'.heap[b]? = w.heap[b]?) : keyset w' b n ks := by
  obtain ⟨es, clock, hb, r⟩ := h
  exact ⟨es, clock, hB.trans hb, r⟩
/-- is a row's every field a value of its column? -/
def rowOk (l : List Bg.Str) (cs : List (Bg.Str × Int)) : Bool := (l.zip cs).all fun x => valOk x.1 x.2.2

theorem rowOk_false : ∀ {l : List Bg.Str} {cs : List (Bg.Str × Int)} (k : Nat) (h : k < l.length) (h' : k < cs.length), valOk l[k] cs[k].2 = false → rowOk l cs = false
  | x :: l, c :: cs, 0, _, _, hv => by
    simp only [List.getElem_cons_zero] at hv
    simp [rowOk, hv]
  | x :: l, c :: cs, k + 1, h, h', hv => by
    have ih := rowOk_false k (by simpa using h) (by simpa using h') hv
    unfold rowOk at ih ⊢
    rw [List.zip_cons_cons, List.all_cons, ih, Bool.and_false]
theorem rowOk_true : ∀ {l : List Bg.Str} {cs : List (Bg.Str × Int)}, (∀ j, (h : j < l.length) → (h' : j < cs.length) → valOk l[j] cs[j].2 = true) → rowOk l cs = true
  | [], _, _ => rfl
  | _ :: _, [], _ => rfl
  | x :: l, c :: cs, hv => by
    have h0 := hv 0 (by simp) (by simp)
    simp only [List.getElem_cons_zero] at h0
    have ih := rowOk_true (l := l) (cs := cs) (fun j h h' => by have := hv (j + 1) (by simpa using h) (by simpa using h'); simpa using this)
    unfold rowOk at ih ⊢
    rw [List.zip_cons_cons, List.all_cons, ih, Bool.and_true]
    exact h0
theorem Tryz.infoVal : (Tryz.prog.info? 137).map (fun i => (i.zero, i.size, i.bytes)) = some (some .nilIface, 1, 16) := by kernel_rfl
theorem Tryz.infoRowT : (Tryz.prog.info? 197).map (fun i => (i.zero, i.size, i.bytes)) = some (some (.slice none 0 0), 1, 24) := by kernel_rfl

set_option maxRecDepth 100000 in
set_option maxHeartbeats 1000000 in
theorem r_row_go (B R M Kb : Nat) (kws : List Bg.Str) (line : Int) (st : St) (t : Tab) (fv : Value) (l : List Bg.Str) (W : World) (hl : ∀ x ∈ l, x.length ≤ 90000 ∧ x ≠ []) (hI : RInv B R M Kb kws line st W) (hn : st.last = some t) (hv : viewS W fv l) (hnv : NumVars W) (hG : 13 ≤ B)
    (h1 : l.length = t.cols.length) (h2 : t.rows < 12) :
    Calls Tryz.prog 69 #[.pointer (some ⟨R, 0, none⟩), fv] W fun e W' =>
      (rowOk l t.cols = true ∧ e = .returned (.tuple #[]) ∧ RInv B R M Kb kws line { st with last := some { t with rows := t.rows + 1 } } W' ∧ Below B W W') ∨ (rowOk l t.cols = false ∧ bad B line W e W') := by
  obtain ⟨v, hR, hv0⟩ := hI.last
  rw [hn] at hv0
  obtain ⟨T, cv, pv, rv, rs, rfl, hT, hTW, hcv, hrv, hcl, hrl, hc1⟩ := hv0
  have c0 : W.cell? ⟨R, 0, none⟩ = some (.int .i64 line) := by simp [World.cell?, hR]
  have c2 : W.cell? ⟨R, 2, none⟩ = some (.pointer (some ⟨T, 0, none⟩)) := by simp [World.cell?, hR]
  have t0 : W.cell? ⟨T, 0, none⟩ = some cv := by simp [World.cell?, hTW]
  have t2 : W.cell? ⟨T, 2, none⟩ = some rv := by simp [World.cell?, hTW]
  obtain ⟨a, cap, rfl, hca⟩ := hv
  obtain ⟨g0, o0, rfl, hx0⟩ := hca 0 (by omega)
  clear hx0
  obtain ⟨gc, cap1, ecv, hgcB, hgc⟩ : ∃ gc cap1, cv = .slice (some ⟨gc, 0, none⟩) t.cols.length cap1 ∧ gc < W.heap.size ∧ ∀ j u, (colCells t.cols)[j]? = some u → W.cell? ⟨gc, j, none⟩ = some u := by
    rcases hcv.2 with ⟨_, h0⟩ | ⟨gc, cap1, cur, rfl, _, hh, _⟩
    · omega
    · exact ⟨gc, cap1, rfl, (Array.getElem?_eq_some_iff.1 hh).1, fun j u hj => by have := hcv.cells (g := gc) rfl j u hj; rw [Addr.add_lit] at this; simpa using this⟩
  obtain ⟨a2, cap2, erv⟩ := own_slice hrv
  rw [ecv, ← h1] at t0
  rw [erv] at t2
  have hBW := hI.hB
  have HH1 : Hid (l.length = t.cols.length) := h1
  have hdec : decide ((t.rows : Int) < 12) = true := by simp; omega
  have hll : l.length ≤ 6 := by omega
  clear h1
  have hmk := fun w : World => run_make_row' (P := Tryz.prog) 197 137 .nilIface 16 Tryz.underlying197 Tryz.infoVal rfl .i64 .i64 l.length (by omega) (by omega) w
  go_enter Tryz.func69, Tryz.ntmps69
  go_wp2_with fail
  refine (r_must_true _ _).mono ?_
  rintro e w3 ⟨rfl, rfl⟩
  go_wp2_with fail
  go_loopw [6, 7, 39] (fun _ _ i wr => ∃ k : Nat, k ≤ l.length ∧ i = .int .i64 k ∧ Below W.heap.size W wr ∧ (∃ cur : Array Value, cur.size = l.length ∧ wr.heap[W.heap.size]? = some (.cells cur 137 (0, 0))) ∧ Hid (∀ j, j < k → (h : j < l.length) → (h' : j < t.cols.length) → valOk l[j] t.cols[j].2 = true))
    (fun _ _ i _ => l.length - (intOf i).toNat)
  case atStart => exact ⟨0, by omega, rfl, (Below.refl _ W).alloc (Nat.le_refl _) _, ⟨_, by simp [madeCells], heap_alloc_new W _⟩, by intro j hj; omega⟩
  case round =>
    obtain ⟨k, hk, rfl, hB, ⟨cur, hcs, hcw⟩, hok⟩ := hrel
    by_cases hlt : k < l.length
    · obtain ⟨g1, o1, e1, hcf⟩ := hca k hlt
      cases e1
      have hkc : k < t.cols.length := by have := HH1.out; omega
      have hg0l : g0 < W.heap.size := World.block_lt_of_cell? W _ hcf
      have hTl : T < W.heap.size := (Array.getElem?_eq_some_iff.1 hTW).1
      have hRl : R < W.heap.size := (Array.getElem?_eq_some_iff.1 hR).1
      have tw0 : wr.cell? ⟨T, 0, none⟩ = some (.slice (some ⟨gc, 0, none⟩) l.length cap1) := (hB.cell (p := ⟨T, 0, none⟩) hTl).trans t0
      have cw0 : wr.cell? ⟨R, 0, none⟩ = some (.int .i64 line) := (hB.cell (p := ⟨R, 0, none⟩) hRl).trans c0
      have cf : wr.cell? ⟨g0, o0 + k, none⟩ = some (.string ⟨l[k].toArray⟩) := (hB.cell (p := ⟨g0, o0 + k, none⟩) hg0l).trans hcf
      have ct : wr.cell? ⟨gc, k * 2 + 1, none⟩ = some (.int .i64 t.cols[k].2) := (hB.cell (p := ⟨gc, k * 2 + 1, none⟩) hgcB).trans (hgc _ _ (by rw [Nat.mul_comm k 2]; exact colCells_get t.cols k hkc))
      have hmem := hl l[k] (List.getElem_mem hlt)
      go_wp2_with fail
      refine (r_value R line t.cols[k].2 l[k] _ hmem.1 hmem.2 (hnv.below hB (by omega)) cw0).mono ?_
      rintro e w1 (⟨hvo, ⟨tt, xx, rfl⟩, hB1⟩ | ⟨hvo, b, rfl, hb0, hb1, hB3⟩)
      · have HV : Hid (valOk l[k] t.cols[k].2 = true) := hvo
        have hcw1 : w1.heap[W.heap.size]? = some (.cells cur 137 (0, 0)) := (hB1.block W.heap.size (Array.getElem?_eq_some_iff.1 hcw).1).trans hcw
        have hst : w1.cell? ⟨W.heap.size, k, none⟩ = some cur[k] := by simp [World.cell?, hcw1, hcs, hlt]
        have hfr : w1.frozen? ⟨W.heap.size, k, none⟩ = false := by simp [World.frozen?, hcw1]
        clear hvo cf ct tw0 cw0 hmem
        go_wp2
        refine ⟨⟨k + 1, by omega, by go_num, ?_, ⟨_, ?_, setCell_heap hcw1⟩, ?_⟩, by simp [intOf] <;> omega⟩
        · exact (hB.trans (hB1.mono hB.size)).setCell (p := ⟨W.heap.size, k, none⟩) (Nat.le_refl _) _
        · rw [Array.size_setIfInBounds]; exact hcs
        · intro j hj hjl hjc
          by_cases hjk : j = k
          · subst hjk; exact HV.out
          · exact hok.out j (by omega) hjl hjc
      · have HR : Hid (rowOk l t.cols = false) := rowOk_false k hlt hkc hvo
        clear hvo cf ct tw0 cw0 hmem
        go_wp2
        exact ⟨rfl, .inr ⟨HR.out, b, rfl, hb0, hb1, (hB.mono hBW).trans (hB3.mono (by have := hB.size; omega))⟩⟩
    · have hkl : k = l.length := by omega
      have HOK : Hid (rowOk l t.cols = true) := rowOk_true (fun j h h' => hok.out j (by omega) h h')
      have hTl : T < W.heap.size := (Array.getElem?_eq_some_iff.1 hTW).1
      have tw2 : wr.cell? ⟨T, 2, none⟩ = some (.slice a2 t.rows cap2) := (hB.cell (p := ⟨T, 2, none⟩) hTl).trans t2
      have hTw : wr.heap[T]? = some (.cells #[cv, pv, rv] 189 (0, 0)) := (hB.block T hTl).trans hTW
      have hrw := own_below hrv hB
      have hcvw := own_below hcv hB
      rw [erv] at hrw
      clear hkl
      obtain ⟨i0, hi, hz0, hz1, hz2⟩ := info_parts Tryz.infoRowT
      have hTnot : ∀ o : Obj, (wr.alloc o).heap[T]? = some (.cells #[cv, pv, rv] 189 (0, 0)) := fun o => (Below.heap_alloc wr o T (Array.getElem?_eq_some_iff.1 hTw).1).trans hTw
      have hTne : some T ≠ (Value.slice a2 t.rows cap2).ownBlock := by
        intro e
        rcases hrw.2 with ⟨e1, _⟩ | ⟨g, cp, cu, e1, _, hh, _⟩
        · rw [e1] at e; cases e
        · rw [e1] at e; cases e
          rw [hTw] at hh; injection hh with h1; injection h1 with _ h2; cases h2
      have HTn : Hid (∀ o : Obj, (wr.alloc o).heap[T]? = some (.cells #[cv, pv, rv] 189 (0, 0))) := hTnot
      have HTne : Hid (some T ≠ (Value.slice a2 t.rows cap2).ownBlock) := hTne
      clear hTnot hTne
      go_wp2_with (at_builtin; go_must (refine wpList_append_own _ rfl _ _ 187 rfl B 197 i0 (.slice none 0 0) 1 24 Tryz.underlying187 hi hz0 hz1 hz2 rfl (by decide) _ _ _ rfl (hrw.alloc _) ⟨wr.heap.size, 0, none⟩ 1 1 [.slice (some ⟨W.heap.size, 0, none⟩) l.length l.length] rfl rfl (cell_one_new _ _ _) (by simp [Value.oneCell']) (by unfold maxLen; omega) (by omega) (by have := hB.size; simp; omega) ?_); intro v' w1 hown' hgrow _; go_must (obtain ⟨g', cap', rfl⟩ := own_succ hown'); go_must (have hT1 := (hgrow.block T (by simp; have := hB.size; omega) HTne.out).trans (HTn.out _)); go_must (obtain ⟨_, _, q2, f2⟩ := cells3 hT1); go_must (have f22 := f2 2))
      go_end0
      have hBW1 := below_append (hB.mono hBW) (by have := hB.size; omega) hrw hgrow
      have hBF := hBW1.setCell (p := ⟨T, 2, none⟩) hT (.slice (some ⟨g', 0, none⟩) (t.rows + 1) cap')
      have hcv1 := own_setCell (k := 2) (u := .slice (some ⟨g', 0, none⟩) (t.rows + 1) cap') (own_grown (hcvw.alloc _) hgrow (own_types hcvw hrw (by decide))) hT1 (by decide)
      have hrv1 := own_setCell (k := 2) (u := .slice (some ⟨g', 0, none⟩) (t.rows + 1) cap') hown' hT1 (by decide)
      have hsz : B ≤ (w1.setCell ⟨T, 2, none⟩ (.slice (some ⟨g', 0, none⟩) (t.rows + 1) cap')).heap.size := Nat.le_trans hBW hBF.size
      have hown2 : ∀ g, some g = (Value.slice a2 t.rows cap2).ownBlock → ∃ cu fr, wr.heap[g]? = some (.cells cu 197 fr) := fun g e => by
        rcases hrw.2 with ⟨e1, _⟩ | ⟨g1, cp, cu, e1, _, hh, _⟩
        · rw [e1] at e; cases e
        · rw [e1] at e; cases e; exact ⟨cu, _, hh⟩
      have hmv : ∀ (g : Nat) (ob : Obj), W.heap[g]? = some ob → (∀ cu fr, ob ≠ .cells cu 197 fr) → w1.heap[g]? = some ob := fun g ob h hne => by
        have hl := (Array.getElem?_eq_some_iff.1 h).1
        have hw : wr.heap[g]? = some ob := (hB.block g hl).trans h
        have hl2 := (Array.getElem?_eq_some_iff.1 hw).1
        refine (hgrow.block g (by simp; omega) (fun e => ?_)).trans ((Below.heap_alloc wr _ g hl2).trans hw)
        obtain ⟨cu, fr, e2⟩ := hown2 g e
        rw [hw] at e2
        exact hne cu fr (Option.some.inj e2)
      have htabs : TabsM B (w1.setCell ⟨T, 2, none⟩ (.slice (some ⟨g', 0, none⟩) (t.rows + 1) cap')) M st.names st.tabs := by
        refine hI.tabs.typed (hBF.block M hI.hM) (fun g es ck hg e => ?_) (fun g cu fr hg e => ?_) (fun g a b c hg e => ?_)
        · have hne : g ≠ T := fun h => by rw [h, hTW] at e; cases e
          exact (Below.heap_setCell w1 ⟨T, 2, none⟩ _ g hne).trans (hmv g _ e (fun _ _ h => by cases h))
        · have hne : g ≠ T := fun h => by rw [h, hTW] at e; cases e
          exact (Below.heap_setCell w1 ⟨T, 2, none⟩ _ g hne).trans (hmv g _ e (fun _ _ h => by cases h))
        · by_cases hne : g = T
          · subst hne
            rw [hTW] at e
            cases e
            exact ⟨_, setCell_heap hT1, .inr ⟨_, _, _, rfl⟩⟩
          · exact ⟨c, (Below.heap_setCell w1 ⟨T, 2, none⟩ _ g hne).trans (hmv g _ e (fun _ _ h => by cases h)), .inl rfl⟩
      refine .inl ⟨HOK.out, rfl, ⟨hI.hR, hI.hM, hI.hK, hI.hRM, hI.hMK, hI.hRK, hsz, hI.nd, keyset_block hI.names (hBF.block M hI.hM), keyset_block hI.keys (hBF.block Kb hI.hK), htabs, _, (hBF.block R hI.hR).trans hR, T, cv, pv, _, _, rfl, hT, setCell_heap hT1, hcv1, hrv1, hcl, by show t.rows + 1 ≤ 12; omega, hc1⟩, hBF⟩
end Go.Proofs.YtfkdfplnhlnnoaaGreatDoor
