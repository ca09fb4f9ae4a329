import Derived.LaidEqlPtr
import Derived.Test.YtfkdfplnhlnnoaaGreatDoorBgJa05
namespace Go.Proofs.YtfkdfplnhlnnoaaGreatDoor
open Go.RowKit
namespace Gr
set_option linter.unusedSimpArgs false
set_option linter.unusedVariables false
open NT
abbrev NTree : TypeId := 64
/-- all but block M is as it was -/
structure Keep (M : Nat) (w w' : World) : Prop where
  os : w'.os = w.os
  tape : w'.tape = w.tape
  output : w'.output = w.output
  size : w.heap.size ≤ w'.heap.size
  block : ∀ g, g ≠ M → g < w.heap.size → w'.heap[g]? = w.heap[g]?
theorem Keep.refl (M : Nat) (w : World) : Keep M w w := ⟨rfl, rfl, rfl, Nat.le_refl _, fun _ _ _ => rfl⟩
theorem Keep.trans {M : Nat} {a b c : World} (h : Keep M a b) (k : Keep M b c) : Keep M a c :=
  ⟨k.os.trans h.os, k.tape.trans h.tape, k.output.trans h.output, Nat.le_trans h.size k.size, fun g hg hl => (k.block g hg (Nat.lt_of_lt_of_le hl h.size)).trans (h.block g hg hl)⟩
theorem Keep.of_below {M : Nat} {w w' : World} (h : Below w.heap.size w w') : Keep M w w' := ⟨h.os, h.tape, h.output, h.size, fun g _ hl => h.block g hl⟩
theorem Keep.alloc (M : Nat) (w : World) (o : Obj) : Keep M w (w.alloc o) := Keep.of_below ((Below.refl _ _).alloc (Nat.le_refl _) o)
theorem Keep.drew (M : Nat) (w : World) (n : Nat) : Keep M w (w.drewN n) := ⟨rfl, rfl, rfl, Nat.le_refl _, fun _ _ _ => rfl⟩
theorem Keep.set (M : Nat) (w : World) (o : Nat) (v : Value) : Keep M w (w.setCell ⟨M, o, none⟩ v) :=
  ⟨rfl, rfl, rfl, by simp [World.setCell], fun g hg _ => Below.heap_setCell _ _ _ _ hg⟩
theorem Keep.cell {M : Nat} {w w' : World} (h : Keep M w w') {g o : Nat} {v : Value} (hg : g ≠ M) (hc : w.cell? ⟨g, o, none⟩ = some v) : w'.cell? ⟨g, o, none⟩ = some v :=
  (World.cell?_of_block (w := w) (h.block g hg (World.block_lt_of_cell? _ _ hc))).trans hc
theorem Keep.obj {M : Nat} {w w' : World} (h : Keep M w w') {g : Nat} {o : Obj} (hg : g ≠ M) (hc : w.heap[g]? = some o) : w'.heap[g]? = some o :=
  (h.block g hg (Array.getElem?_eq_some_iff.1 hc).1).trans hc
/-- the cells of a part -/
def cellsT (f : Fl) (k i fr g w h : Value) : Array Value :=
  #[.string ⟨f.kind.toArray⟩, .string ⟨f.sign.toArray⟩, .string ⟨f.text.toArray⟩, .string ⟨f.of_.toArray⟩, .string ⟨f.as_.toArray⟩, .int .i64 f.num, .bool f.star, .bool f.not_, .bool f.all, .bool f.dist, k, i, fr, g, w, h]
mutual
/-- a part lies at a pointer; nil: no pointer -/
def PtrAt (M N : Nat) (W : World) : Tr → Value → Prop
  | .nil, v => v = .pointer none
  | .cons _ _, _ => False
  | .node f k i fr g w h, v => ∃ b vk vi vf vg vw vh, v = .pointer (some ⟨b, 0, none⟩) ∧ b ≠ M ∧ b ≠ N ∧ W.heap[b]? = some (.cells (cellsT f vk vi vf vg vw vh) NTree (0, 0)) ∧
      (∃ a c, vk = .slice a k.len c ∧ RowAt M N W k a 0) ∧ (∃ a c, vi = .slice a i.len c ∧ RowAt M N W i a 0) ∧ (∃ a c, vf = .slice a fr.len c ∧ RowAt M N W fr a 0) ∧ (∃ a c, vg = .slice a g.len c ∧ RowAt M N W g a 0) ∧ PtrAt M N W w vw ∧ PtrAt M N W h vh
/-- parts lie one behind the other -/
def RowAt (M N : Nat) (W : World) : Tr → Option Addr → Nat → Prop
  | .nil, _, _ => True
  | .cons h t, a, o => (∃ g v, a = some ⟨g, 0, none⟩ ∧ g ≠ M ∧ g ≠ N ∧ W.cell? ⟨g, o, none⟩ = some v ∧ PtrAt M N W h v) ∧ RowAt M N W t a (o + 1)
  | .node _ _ _ _ _ _ _, _, _ => False
end
def SlAt (M N : Nat) (W : World) (t : Tr) (v : Value) : Prop := ∃ a c, v = .slice a t.len c ∧ RowAt M N W t a 0
theorem ptr_node {M N : Nat} {W : World} {f : Fl} {k i fr g w h : Tr} {v : Value} : PtrAt M N W (.node f k i fr g w h) v ↔ ∃ b vk vi vf vg vw vh, v = .pointer (some ⟨b, 0, none⟩) ∧ b ≠ M ∧ b ≠ N ∧ W.heap[b]? = some (.cells (cellsT f vk vi vf vg vw vh) NTree (0, 0)) ∧
      SlAt M N W k vk ∧ SlAt M N W i vi ∧ SlAt M N W fr vf ∧ SlAt M N W g vg ∧ PtrAt M N W w vw ∧ PtrAt M N W h vh := by
  rw [PtrAt]; rfl
theorem keep_both {M N : Nat} {W W' : World} (h : Keep M W W') (t : Tr) : (∀ v, PtrAt M N W t v → PtrAt M N W' t v) ∧ (∀ a o, RowAt M N W t a o → RowAt M N W' t a o) := by
  induction t with
  | nil => exact ⟨fun v hv => by simpa [PtrAt] using hv, fun a o _ => by simp [RowAt]⟩
  | cons x t ih1 ih2 =>
    refine ⟨fun v hv => by simp [PtrAt] at hv, fun a o hr => ?_⟩
    rw [RowAt] at hr ⊢
    obtain ⟨⟨g, v, h1, h2, h3, h4, h5⟩, h6⟩ := hr
    exact ⟨⟨g, v, h1, h2, h3, h.cell h2 h4, ih1.1 v h5⟩, ih2.2 a _ h6⟩
  | node f k i fr g w hh ik ii ifr ig iw ih =>
    refine ⟨fun v hv => ?_, fun a o hr => by simp [RowAt] at hr⟩
    rw [ptr_node] at hv ⊢
    obtain ⟨b, vk, vi, vf, vg, vw, vh, e, h1, h2, h3, ⟨a1, c1, e1, r1⟩, ⟨a2, c2, e2, r2⟩, ⟨a3, c3, e3, r3⟩, ⟨a4, c4, e4, r4⟩, p1, p2⟩ := hv
    exact ⟨b, vk, vi, vf, vg, vw, vh, e, h1, h2, h.obj h1 h3, ⟨a1, c1, e1, ik.2 _ _ r1⟩, ⟨a2, c2, e2, ii.2 _ _ r2⟩, ⟨a3, c3, e3, ifr.2 _ _ r3⟩, ⟨a4, c4, e4, ig.2 _ _ r4⟩, iw.1 _ p1, ih.1 _ p2⟩
theorem PtrAt.keep {M N : Nat} {W W' : World} {t : Tr} {v : Value} (hv : PtrAt M N W t v) (h : Keep M W W') : PtrAt M N W' t v := (keep_both h t).1 v hv
theorem RowAt.keep {M N : Nat} {W W' : World} {t : Tr} {a : Option Addr} {o : Nat} (hv : RowAt M N W t a o) (h : Keep M W W') : RowAt M N W' t a o := (keep_both h t).2 a o hv
theorem SlAt.keep {M N : Nat} {W W' : World} {t : Tr} {v : Value} (hv : SlAt M N W t v) (h : Keep M W W') : SlAt M N W' t v := by
  obtain ⟨a, c, e, r⟩ := hv; exact ⟨a, c, e, r.keep h⟩
theorem SlAt.nil (M N : Nat) (W : World) : SlAt M N W .nil (.slice none 0 0) := ⟨none, 0, rfl, by simp [RowAt]⟩
theorem PtrAt.nil (M N : Nat) (W : World) : PtrAt M N W .nil (.pointer none) := by simp [PtrAt]
/-- a stretch of words -/
def sw (ws : List RW) (i j : Nat) : List RW := (ws.drop i).take (j - i)
theorem sw_cons (w : List RW) {i j : Nat} (hi : i < j) (hj : j ≤ w.length) : sw w i j = w[i]'(by omega) :: sw w (i + 1) j := by
  unfold sw
  rw [List.drop_eq_getElem_cons (by omega : i < w.length), show j - i = (j - (i + 1)) + 1 from by omega, List.take_succ_cons]
theorem sw_nil (w : List RW) {i j : Nat} (h : j ≤ i) : sw w i j = [] := by
  unfold sw; rw [show j - i = 0 from by omega]; rfl
theorem sw_app (w : List RW) {i p j : Nat} (hi : i ≤ p) (hp : p ≤ j) : sw w i j = sw w i p ++ sw w p j := by
  unfold sw
  rw [show j - i = (p - i) + (j - p) from by omega, List.take_add, List.drop_drop, show i + (p - i) = p from by omega]
theorem sw_split (w : List RW) {i p j : Nat} (hi : i ≤ p) (hp : p < j) (hj : j ≤ w.length) : sw w i j = sw w i p ++ w[p]'(by omega) :: sw w (p + 1) j := by
  rw [sw_app w hi (Nat.le_of_lt hp), sw_cons w hp hj]
/-- a kind's number -/
def num : NT → Nat
  | query => 0 | core => 1 | tail => 2 | after => 3 | grouped => 4 | items => 5 | NT.item => 6 | sources => 7 | source => 8 | columns => 9 | column => 10 | cnd => 11 | conj => 12 | neg => 13 | basic => 14 | expr => 15 | term => 16 | factor => 17
theorem num_lt (k : NT) : num k < 18 := by cases k <;> decide
theorem num_inj {k k' : NT} (h : num k = num k') : k = k' := by cases k <;> cases k' <;> first | rfl | (simp [num] at h)
/-- where a stretch's find is written down -/
def spot (n : Nat) (k : NT) (i j : Nat) : Nat := (num k * (n + 1) + i) * (n + 1) + j
theorem spot_lt {n i j : Nat} (k : NT) (hi : i ≤ n) (hj : j ≤ n) : spot n k i j < 18 * (n + 1) * (n + 1) := by
  unfold spot
  have h1 : num k * (n + 1) + i + 1 ≤ 18 * (n + 1) := by
    have := Nat.mul_le_mul_right (n + 1) (show num k + 1 ≤ 18 from num_lt k)
    rw [Nat.succ_mul] at this; omega
  have h2 := Nat.mul_le_mul_right (n + 1) h1
  rw [Nat.succ_mul] at h2; omega
theorem spot_inj {n i j i' j' : Nat} {k k' : NT} (hi : i ≤ n) (hj : j ≤ n) (hi' : i' ≤ n) (hj' : j' ≤ n) (h : spot n k i j = spot n k' i' j') : k = k' ∧ i = i' ∧ j = j' := by
  unfold spot at h
  have e1 : j = j' := by
    have := congrArg (· % (n + 1)) h
    simp only [Nat.mul_add_mod_self_right, Nat.mod_eq_of_lt (show j < n + 1 by omega), Nat.mod_eq_of_lt (show j' < n + 1 by omega)] at this
    exact this
  subst e1
  have h2 : num k * (n + 1) + i = num k' * (n + 1) + i' := Nat.eq_of_mul_eq_mul_right (by omega : 0 < n + 1) (by omega)
  have e2 : i = i' := by
    have := congrArg (· % (n + 1)) h2
    simp only [Nat.mul_add_mod_self_right, Nat.mod_eq_of_lt (show i < n + 1 by omega), Nat.mod_eq_of_lt (show i' < n + 1 by omega)] at this
    exact this
  subst e2
  exact ⟨num_inj (Nat.eq_of_mul_eq_mul_right (by omega : 0 < n + 1) (by omega)), rfl, rfl⟩
/-- what was found of a stretch -/
def Found (M N : Nat) (ws : List RW) (W : World) (k : NT) (i j : Nat) (v : Value) : Prop :=
  (v = .pointer none ∧ ¬ G k (st (ws.map tok) i j)) ∨ ∃ b t, v = .pointer (some ⟨b, 0, none⟩) ∧ b ≠ N ∧ PtrAt M N W t v ∧ D k (sw ws i j) t
theorem Found.keep {M N : Nat} {ws : List RW} {W W' : World} {k : NT} {i j : Nat} {v : Value} (h : Found M N ws W k i j v) (hk : Keep M W W') : Found M N ws W' k i j v := by
  rcases h with h | ⟨b, t, h1, h2, h3, h4⟩
  · exact .inl h
  · exact .inr ⟨b, t, h1, h2, h3.keep hk, h4⟩
/-- what stands in the memory of finds -/
def Memo (M N : Nat) (ws : List RW) (W : World) (k : NT) (i j : Nat) (v : Value) : Prop :=
  v = .pointer none ∨ (v = .pointer (some ⟨N, 0, none⟩) ∧ ¬ G k (st (ws.map tok) i j)) ∨ ∃ b t, v = .pointer (some ⟨b, 0, none⟩) ∧ b ≠ N ∧ PtrAt M N W t v ∧ D k (sw ws i j) t
theorem Memo.keep {M N : Nat} {ws : List RW} {W W' : World} {k : NT} {i j : Nat} {v : Value} (h : Memo M N ws W k i j v) (hk : Keep M W W') : Memo M N ws W' k i j v := by
  rcases h with h | h | ⟨b, t, h1, h2, h3, h4⟩
  · exact .inl h
  · exact .inr (.inl h)
  · exact .inr (.inr ⟨b, t, h1, h2, h3.keep hk, h4⟩)
/-- the cutter at C: its words, what it has found (in block M), the mark for nothing (block N) -/
structure Cut (C M N : Nat) (ws : List RW) (W : World) : Prop where
  len : ws.length ≤ 400
  ok : ∀ w ∈ ws, Ok1 w
  cm : C ≠ M
  nm : N ≠ M
  nobj : ∃ cs, W.heap[N]? = some (.cells cs NTree (0, 0))
  obj : ∃ wa cap capm, W.heap[C]? = some (.cells #[.slice wa ws.length cap, .int .i64 ws.length, .slice (some ⟨M, 0, none⟩) (18 * (ws.length + 1) * (ws.length + 1)) capm, .pointer (some ⟨N, 0, none⟩)] 99 (0, 0)) ∧
    ∀ i (h : i < ws.length), ∃ g, wa = some ⟨g, 0, none⟩ ∧ g ≠ M ∧ W.cell? ⟨g, i * 3, none⟩ = some (.string ⟨ws[i].sort.toArray⟩) ∧ W.cell? ⟨g, i * 3 + 1, none⟩ = some (.string ⟨ws[i].text.toArray⟩) ∧ W.cell? ⟨g, i * 3 + 2, none⟩ = some (.int .i64 ws[i].num)
  memo : ∀ k i j, i ≤ ws.length → j ≤ ws.length → ∃ v, W.cell? ⟨M, spot ws.length k i j, none⟩ = some v ∧ Memo M N ws W k i j v
  frozen : ∀ o, W.frozen? ⟨M, o, none⟩ = false
/-- the cutter stays where nothing turns but new blocks -/
theorem Cut.below {C M N : Nat} {ws : List RW} {W W' : World} (h : Cut C M N ws W) (hb : Below W.heap.size W W') : Cut C M N ws W' := by
  have hk : Keep M W W' := Keep.of_below hb
  obtain ⟨wa, cap, capm, h1, h2⟩ := h.obj
  refine ⟨h.len, h.ok, h.cm, h.nm, h.nobj.imp (fun cs hc => hk.obj h.nm hc), ⟨wa, cap, capm, hk.obj h.cm h1, fun i hi => ?_⟩, fun k i j hi hj => ?_, fun o => ?_⟩
  · obtain ⟨g, e, hg, c1, c2, c3⟩ := h2 i hi
    exact ⟨g, e, hg, hk.cell hg c1, hk.cell hg c2, hk.cell hg c3⟩
  · obtain ⟨v, hc, hm⟩ := h.memo k i j hi hj
    exact ⟨v, (hb.cell (p := ⟨M, _, none⟩) (World.block_lt_of_cell? _ _ hc)).trans hc, hm.keep hk⟩
  · obtain ⟨v, hc, _⟩ := h.memo query 0 0 (by omega) (by omega)
    have hlt : M < W.heap.size := World.block_lt_of_cell? _ _ hc
    exact (hb.frozen (p := ⟨M, o, none⟩) hlt).trans (h.frozen o)
theorem Cut.drew {C M N : Nat} {ws : List RW} {W : World} (h : Cut C M N ws W) (n : Nat) : Cut C M N ws (W.drewN n) := h.below ⟨rfl, rfl, rfl, Nat.le_refl _, fun _ _ => rfl⟩
theorem Cut.alloc {C M N : Nat} {ws : List RW} {W : World} (h : Cut C M N ws W) (o : Obj) : Cut C M N ws (W.alloc o) := h.below ((Below.refl _ _).alloc (Nat.le_refl _) o)
/-- a find written down -/
theorem Cut.set {C M N : Nat} {ws : List RW} {W : World} (h : Cut C M N ws W) {k : NT} {i j : Nat} (hi : i ≤ ws.length) (hj : j ≤ ws.length) {v : Value} (hv : Memo M N ws W k i j v) : Cut C M N ws (W.setCell ⟨M, spot ws.length k i j, none⟩ v) := by
  have hk := Keep.set M W (spot ws.length k i j) v
  obtain ⟨wa, cap, capm, h1, h2⟩ := h.obj
  refine ⟨h.len, h.ok, h.cm, h.nm, h.nobj.imp (fun cs hc => hk.obj h.nm hc), ⟨wa, cap, capm, hk.obj h.cm h1, fun i hi => ?_⟩, fun k' i' j' hi' hj' => ?_, fun o => by simp [h.frozen]⟩
  · obtain ⟨g, e, hg, c1, c2, c3⟩ := h2 i hi
    exact ⟨g, e, hg, hk.cell hg c1, hk.cell hg c2, hk.cell hg c3⟩
  · obtain ⟨u, hc, hm⟩ := h.memo k' i' j' hi' hj'
    by_cases e : spot ws.length k i j = spot ws.length k' i' j'
    · obtain ⟨rfl, rfl, rfl⟩ := spot_inj hi hj hi' hj' e
      exact ⟨v, World.cell?_setCell_same _ _ _ hc, hv.keep hk⟩
    · refine ⟨u, ?_, hm.keep hk⟩
      rw [World.cell?_setCell_other _ _ _ _ (fun e' => e (congrArg Addr.off e'))]
      exact hc
theorem Cut.nlt {C M N : Nat} {ws : List RW} {W : World} (h : Cut C M N ws W) : N < W.heap.size := by
  obtain ⟨cs, hc⟩ := h.nobj
  exact (Array.getElem?_eq_some_iff.1 hc).1
theorem Cut.mlt {C M N : Nat} {ws : List RW} {W : World} (h : Cut C M N ws W) : M < W.heap.size := by
  obtain ⟨v, hc, _⟩ := h.memo query 0 0 (by omega) (by omega)
  exact World.block_lt_of_cell? _ _ hc
/-- a new part -/
theorem mk_node {M N : Nat} {W : World} (hM : M < W.heap.size) (hN : N < W.heap.size) {f : Fl} {k i fr g w h : Tr} {vk vi vf vg vw vh : Value} (h1 : SlAt M N W k vk) (h2 : SlAt M N W i vi) (h3 : SlAt M N W fr vf) (h4 : SlAt M N W g vg) (h5 : PtrAt M N W w vw) (h6 : PtrAt M N W h vh) :
    PtrAt M N (W.alloc (.cells (cellsT f vk vi vf vg vw vh) NTree)) (.node f k i fr g w h) (.pointer (some ⟨W.heap.size, 0, none⟩)) := by
  have hk := Keep.alloc M W (.cells (cellsT f vk vi vf vg vw vh) NTree)
  rw [ptr_node]
  exact ⟨_, vk, vi, vf, vg, vw, vh, rfl, by omega, by omega, heap_alloc_new _ _, h1.keep hk, h2.keep hk, h3.keep hk, h4.keep hk, h5.keep hk, h6.keep hk⟩
theorem mk_nd {M N : Nat} {W : World} (hM : M < W.heap.size) (hN : N < W.heap.size) {f : Fl} {k : Tr} {vk : Value} (h1 : SlAt M N W k vk) :
    PtrAt M N (W.alloc (.cells (cellsT f vk (.slice none 0 0) (.slice none 0 0) (.slice none 0 0) (.pointer none) (.pointer none)) NTree)) (nd f k) (.pointer (some ⟨W.heap.size, 0, none⟩)) :=
  mk_node hM hN h1 (SlAt.nil _ _ _) (SlAt.nil _ _ _) (SlAt.nil _ _ _) (PtrAt.nil _ _ _) (PtrAt.nil _ _ _)
theorem mk_l1 {M N : Nat} {W : World} (hM : M < W.heap.size) (hN : N < W.heap.size) {x : Tr} {a : Value} (h1 : PtrAt M N W x a) :
    SlAt M N (W.alloc (.cells #[a] 30)) (l1 x) (.slice (some ⟨W.heap.size, 0, none⟩) 1 1) := by
  have hk := Keep.alloc M W (.cells #[a] 30)
  refine ⟨_, _, rfl, ?_⟩
  unfold l1
  rw [RowAt, RowAt]
  exact ⟨⟨_, a, rfl, by omega, by omega, by simp, h1.keep hk⟩, trivial⟩
theorem mk_l2 {M N : Nat} {W : World} (hM : M < W.heap.size) (hN : N < W.heap.size) {x y : Tr} {a b : Value} (h1 : PtrAt M N W x a) (h2 : PtrAt M N W y b) :
    SlAt M N (W.alloc (.cells #[a, b] 30)) (l2 x y) (.slice (some ⟨W.heap.size, 0, none⟩) 2 2) := by
  have hk := Keep.alloc M W (.cells #[a, b] 30)
  refine ⟨_, _, rfl, ?_⟩
  unfold l2
  rw [RowAt, RowAt, RowAt]
  exact ⟨⟨_, a, rfl, by omega, by omega, by simp, h1.keep hk⟩, ⟨_, b, rfl, by omega, by omega, by simp, h2.keep hk⟩, trivial⟩
theorem mk_nd0 {M N : Nat} {W : World} (hM : M < W.heap.size) (hN : N < W.heap.size) (f : Fl) :
    PtrAt M N (W.alloc (.cells (cellsT f (.slice none 0 0) (.slice none 0 0) (.slice none 0 0) (.slice none 0 0) (.pointer none) (.pointer none)) NTree)) (nd f .nil) (.pointer (some ⟨W.heap.size, 0, none⟩)) := mk_nd hM hN (SlAt.nil _ _ _)
theorem mk_nd1 {M N : Nat} {W : World} (hM : M < W.heap.size) (hN : N < W.heap.size) (f : Fl) {x : Tr} {a : Value} (h1 : PtrAt M N W x a) :
    PtrAt M N ((W.alloc (.cells #[a] 30)).alloc (.cells (cellsT f (.slice (some ⟨W.heap.size, 0, none⟩) 1 1) (.slice none 0 0) (.slice none 0 0) (.slice none 0 0) (.pointer none) (.pointer none)) NTree)) (nd f (l1 x)) (.pointer (some ⟨W.heap.size + 1, 0, none⟩)) := by
  have := mk_nd (f := f) (by simp; omega) (by simp; omega) (mk_l1 hM hN h1)
  simpa using this
theorem mk_nd2 {M N : Nat} {W : World} (hM : M < W.heap.size) (hN : N < W.heap.size) (f : Fl) {x y : Tr} {a b : Value} (h1 : PtrAt M N W x a) (h2 : PtrAt M N W y b) :
    PtrAt M N ((W.alloc (.cells #[a, b] 30)).alloc (.cells (cellsT f (.slice (some ⟨W.heap.size, 0, none⟩) 2 2) (.slice none 0 0) (.slice none 0 0) (.slice none 0 0) (.pointer none) (.pointer none)) NTree)) (nd f (l2 x y)) (.pointer (some ⟨W.heap.size + 1, 0, none⟩)) := by
  have := mk_nd (f := f) (by simp; omega) (by simp; omega) (mk_l2 hM hN h1 h2)
  simpa using this
theorem Tryz.infoTree : (Tryz.prog.info? 64).map (fun i => (i.zero, i.size, i.bytes)) = some (some (.agg (cellsT {} (.slice none 0 0) (.slice none 0 0) (.slice none 0 0) (.slice none 0 0) (.pointer none) (.pointer none))), 16, 208) := by kernel_rfl
/-- a part's address -/
theorem PtrAt.obj {M N : Nat} {W : World} {t : Tr} {b : Nat} (h : PtrAt M N W t (.pointer (some ⟨b, 0, none⟩))) : ∃ cs, W.heap[b]? = some (.cells cs NTree (0, 0)) := by
  cases t with
  | nil => simp [PtrAt] at h
  | cons x t => simp [PtrAt] at h
  | node f k i fr g w hh =>
    rw [ptr_node] at h
    obtain ⟨b', vk, vi, vf, vg, vw, vh, e, h1, h2, h3, _⟩ := h
    cases e
    exact ⟨_, h3⟩
theorem eql_mark (N : Nat) (w : World) : (binOp .eql 30 (.pointer (some ⟨N, 0, none⟩)) (.pointer (some ⟨N, 0, none⟩))).run Tryz.prog w = .ok (.bool true) w := by
  obtain ⟨i0, hi, _⟩ := info_parts Tryz.infoTree
  exact run_eql_ptr_same w _ Tryz.underlying30 hi
theorem eql_part {b N : Nat} {w : World} (hne : b ≠ N) (hb : ∃ cs, w.heap[b]? = some (.cells cs NTree (0, 0))) (hN : ∃ cs, w.heap[N]? = some (.cells cs NTree (0, 0))) : (binOp .eql 30 (.pointer (some ⟨b, 0, none⟩)) (.pointer (some ⟨N, 0, none⟩))).run Tryz.prog w = .ok (.bool false) w := by
  obtain ⟨i0, hi, _, hz, _⟩ := info_parts Tryz.infoTree
  obtain ⟨c1, h1⟩ := hb
  obtain ⟨c2, h2⟩ := hN
  exact run_eql_ptr_other w Tryz.underlying30 hi (by rw [hz]; decide) (by intro e; exact hne (congrArg Addr.block e)) h1 h2
theorem eql_none (N : Nat) (w : World) : (binOp .eql 30 (.pointer none) (.pointer (some ⟨N, 0, none⟩))).run Tryz.prog w = .ok (.bool false) w := by
  have h : ∀ d : Nat, (Op.equalIn (d + 1) 30 (.pointer none) (.pointer (some ⟨N, 0, none⟩))).run Tryz.prog w = .ok false w := fun d => by
    simp [Op.equalIn, run_underlying Tryz.underlying30]
  simp only [binOp]
  simp [Op.equal, Op.maxDepth, h 9999]
end Gr
end Go.Proofs.YtfkdfplnhlnnoaaGreatDoor
