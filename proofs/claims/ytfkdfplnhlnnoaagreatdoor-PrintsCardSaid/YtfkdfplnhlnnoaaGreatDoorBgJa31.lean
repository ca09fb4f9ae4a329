import Derived.Test.YtfkdfplnhlnnoaaGreatDoorBgJa30
section
namespace Go.Proofs.YtfkdfplnhlnnoaaGreatDoor
open Go.RowKit
namespace Gr
set_option linter.unusedSimpArgs false
set_option linter.unusedVariables false
theorem commas_join : ∀ l : List Bg.Str, commas l = Lib.join l [44, 32]
  | [] => rfl
  | [a] => by rw [Lib.join_one]; rfl
  | a :: b :: l => by
    have ih := commas_join (b :: l)
    have e : commas (a :: b :: l) = a ++ [44, 32] ++ commas (b :: l) := by rw [commas]; simp
    rw [e, ih, Lib.join_cons, Lib.join_cons]
    simp [Lib.joinTail]
/-- each row's print says the text that stands with it -/
def SaysL (W : World) (g : Nat) (l : List (Value × Value)) (xs : List Bg.Str) : Prop :=
  xs.length = l.length ∧ ∀ i (h : i < l.length) (h2 : i < xs.length) W', Below W.heap.size W W' → Says g #[.agg #[l[i].1, l[i].2]] xs[i] W'
/-- rows of two cells in a slice -/
def LayW (W : World) (x : Value) (l : List (Value × Value)) : Prop := (x = .slice none 0 0 ∧ l = []) ∨ ∃ Pb n0, Lay Pb n0 W x l
def strC (s : Bg.Str) : Value := .string ⟨s.toArray⟩
/-- rows of an interface value and a text; of two texts -/
def IfStr (l : List (Value × Value)) : Prop := ∀ p ∈ l, ∃ n y s, p = (.iface n y, .string s)
def StrStr (l : List (Value × Value)) : Prop := ∀ p ∈ l, ∃ a s, p = (.string a, .string s)
theorem lay_cells {W : World} {v : Value} {l : List (Value × Value)} (hv : LayW W v l) : ∃ a cap, v = .slice a l.length cap ∧ l.length ≤ cap ∧ ∀ i (h : i < l.length), ∃ g, a = some ⟨g, 0, none⟩ ∧ W.cell? ⟨g, i * 2, none⟩ = some l[i].1 ∧ W.cell? ⟨g, i * 2 + 1, none⟩ = some l[i].2 := by
  rcases hv with ⟨rfl, rfl⟩ | ⟨_, _, g, cap, rfl, h1, _, _, h2⟩
  · exact ⟨none, 0, rfl, Nat.le_refl _, fun i h => by simp at h⟩
  · exact ⟨_, cap, rfl, h1, fun i h => ⟨g, rfl, h2 i h⟩⟩
theorem own_strs {w : World} {B : Nat} {v : Value} {xs : List Bg.Str} (h : w.ownsRow B 9 1 v xs.length (xs.map strC)) : (v = .slice none 0 0 ∧ xs = []) ∨ ∃ g cap, v = .slice (some ⟨g, 0, none⟩) xs.length cap ∧ xs.length ≤ cap ∧ g < w.heap.size ∧ ∀ (j : Nat) x, (xs.map fun s => (⟨s.toArray⟩ : ByteArray))[j]? = some x → w.cell? ⟨g, 0 + j, none⟩ = some (.string x) := by
  rcases h.2 with ⟨rfl, h0⟩ | ⟨g, cap, cur, rfl, _, hh, hc, _⟩
  · exact .inl ⟨rfl, List.length_eq_zero_iff.1 h0⟩
  · refine .inr ⟨g, cap, rfl, hc, (Array.getElem?_eq_some_iff.1 hh).1, fun j x hx => ?_⟩
    have := h.cells (g := g) rfl j (.string x) (by
      rw [List.getElem?_map] at hx ⊢
      obtain ⟨s, hs, rfl⟩ := Option.map_eq_some_iff.1 hx
      rw [hs]; rfl)
    rwa [Addr.add_lit] at this
theorem data_map (xs : List Bg.Str) : (xs.map fun s => (⟨s.toArray⟩ : ByteArray)).map (·.data.toList) = xs := by
  rw [List.map_map]
  conv => rhs; rw [← List.map_id xs]
  rfl
set_option maxRecDepth 10000 in
set_option maxHeartbeats 1000000 in
theorem w_commasI (W : World) (v : Value) (l : List (Value × Value)) (xs : List Bg.Str) (hv : LayW W v l) (hx : SaysL W 264 l xs) (hf : IfStr l) (hl : l.length ≤ 400) (hc : (commas xs).length ≤ 400000) (W0 : World) (hB0 : Below W.heap.size W W0) :
    Says 252 #[v] (commas xs) W0 := by
  obtain ⟨i0, hi, hz0, hz1, hz2⟩ := info_parts Tryz.infoStr
  obtain ⟨hxl, hx⟩ := hx
  have HJ : Hid (commas xs = Lib.join xs [44, 32]) := commas_join xs
  obtain ⟨a, cap, rfl, hcap, hcell⟩ := lay_cells hv
  clear hv
  unfold Says
  go_enter Tryz.func252, Tryz.ntmps252
  go_wp2_with fail
  go_loopg [3, 8] (l.length + 1) (fun gk pv iv wr => ∃ k : Nat, k ≤ l.length ∧ gk = l.length - k + 1 ∧ iv = .int .i64 k ∧ wr.ownsRow W0.heap.size 9 1 pv (xs.take k).length ((xs.take k).map strC) ∧ Below W0.heap.size W0 wr)
  case atStart => exact ⟨0, by omega, by omega, rfl, World.ownsRow_nil _ _ _ _, Below.refl _ _⟩
  case round =>
    obtain ⟨k, hk, rfl, rfl, hown, hB⟩ := hrel
    by_cases hlt : k < l.length
    · obtain ⟨g, rfl, q1, q2⟩ := hcell k hlt
      have hgl : g < W.heap.size := World.block_lt_of_cell? _ _ q1
      have hBW : Below W.heap.size W wr := hB0.trans (hB.mono hB0.size)
      have p1 := (hBW.cell (p := ⟨g, k * 2, none⟩) hgl).trans q1
      have p2 := (hBW.cell (p := ⟨g, k * 2 + 1, none⟩) hgl).trans q2
      have hlx : k < xs.length := by omega
      have hcall := hx k hlt hlx
      have HT : Hid (xs.take (k + 1) = xs.take k ++ [xs[k]]) := List.take_succ_eq_append_getElem hlx
      obtain ⟨n, y, s, e⟩ := hf _ (List.getElem_mem hlt)
      rw [e] at p1 p2 hcall
      dsimp only at p1 p2 hcall
      clear e q1 q2
      generalize xs[k] = x at hcall HT
      have hlen : (xs.take k).length = k := by rw [List.length_take]; omega
      have HL : Hid ((xs.take k ++ [x]).length = (xs.take k).length + 1) := by show _ = _; simp
      have HM : Hid ((xs.take k ++ [x]).map strC = (xs.take k).map strC ++ [.string ⟨x.toArray⟩]) := by show _ = _; simp [strC]
      go_wp2_with fail
      refine (hcall _ (hBW.alloc hBW.size _)).mono ?_
      rintro e w1 ⟨rfl, hB1⟩
      have hown1 := own_below (hown.alloc _) hB1
      have hBa : Below W0.heap.size W0 w1 := (hB.alloc hB.size _).trans (hB1.mono (hB.alloc hB.size _).size)
      go_wp2_with (at_builtin; go_must (refine wpList_append_own _ rfl _ _ 40 rfl W0.heap.size 9 i0 (.string ⟨#[]⟩) 1 16 Tryz.underlying40 hi hz0 hz1 hz2 rfl (by decide) _ _ _ rfl (hown1.alloc _) ⟨w1.heap.size, 0, none⟩ 1 1 [.string ⟨x.toArray⟩] rfl rfl (cell_one_new _ _ _) (by simp [Value.oneCell']) (by unfold maxLen; omega) (by omega) (by have := hBa.size; simp; omega) ?_); intro v' w5 hown' hgrow _)
      go_roundg (l.length - (k + 1) + 1)
      case measure => omega
      case rel => exact ⟨k + 1, by omega, rfl, by exact vint (by omega), by rw [HT.out, HL.out, HM.out]; exact hown', below_append hBa hBa.size hown1 hgrow⟩
    · have hkl : k = l.length := by omega
      subst hkl
      have HX : xs.take l.length = xs := List.take_of_length_le (by omega)
      rw [HX] at hown
      clear HX
      rcases own_strs hown with ⟨rfl, hx0⟩ | ⟨g, cap', rfl, hcap', hgs, hcells⟩
      · have HE : Hid (commas xs = []) := by show _ = _; rw [hx0]; rfl
        clear hown
        go_wp2_with fail
        refine (Tryz.strings_Join_none _ _ _ _).mono ?_
        rintro e w2 ⟨rfl, rfl⟩
        go_wp2_with fail
        go_ret
        exact ⟨by rw [HE.out]; rfl, hB⟩
      · have hJ := Tryz.strings_Join g 0 cap' (xs.map fun s => (⟨s.toArray⟩ : ByteArray)) ⟨#[44, 32]⟩ wr hcells hgs (by rw [List.length_map]; omega) (by rw [List.length_map]; exact hcap') (by rw [data_map, show (ByteArray.mk #[44, 32]).data.toList = [44, 32] from rfl, ← HJ.out]; omega)
        rw [List.length_map, data_map, show (ByteArray.mk #[44, 32]).data.toList = [44, 32] from rfl, ← HJ.out, hxl] at hJ
        clear hown hcells
        go_wp2_with fail
        refine hJ.mono ?_
        rintro e w2 ⟨rfl, hB2⟩
        go_wp2_with fail
        go_ret
        exact ⟨rfl, hB.trans (hB2.mono hB.size)⟩
set_option maxRecDepth 10000 in
set_option maxHeartbeats 1000000 in
theorem w_commasS (W : World) (v : Value) (l : List (Value × Value)) (xs : List Bg.Str) (hv : LayW W v l) (hx : SaysL W 265 l xs) (hf : StrStr l) (hl : l.length ≤ 400) (hc : (commas xs).length ≤ 400000) (W0 : World) (hB0 : Below W.heap.size W W0) :
    Says 253 #[v] (commas xs) W0 := by
  obtain ⟨i0, hi, hz0, hz1, hz2⟩ := info_parts Tryz.infoStr
  obtain ⟨hxl, hx⟩ := hx
  have HJ : Hid (commas xs = Lib.join xs [44, 32]) := commas_join xs
  obtain ⟨a, cap, rfl, hcap, hcell⟩ := lay_cells hv
  clear hv
  unfold Says
  go_enter Tryz.func253, Tryz.ntmps253
  go_wp2_with fail
  go_loopg [3, 8] (l.length + 1) (fun gk pv iv wr => ∃ k : Nat, k ≤ l.length ∧ gk = l.length - k + 1 ∧ iv = .int .i64 k ∧ wr.ownsRow W0.heap.size 9 1 pv (xs.take k).length ((xs.take k).map strC) ∧ Below W0.heap.size W0 wr)
  case atStart => exact ⟨0, by omega, by omega, rfl, World.ownsRow_nil _ _ _ _, Below.refl _ _⟩
  case round =>
    obtain ⟨k, hk, rfl, rfl, hown, hB⟩ := hrel
    by_cases hlt : k < l.length
    · obtain ⟨g, rfl, q1, q2⟩ := hcell k hlt
      have hgl : g < W.heap.size := World.block_lt_of_cell? _ _ q1
      have hBW : Below W.heap.size W wr := hB0.trans (hB.mono hB0.size)
      have p1 := (hBW.cell (p := ⟨g, k * 2, none⟩) hgl).trans q1
      have p2 := (hBW.cell (p := ⟨g, k * 2 + 1, none⟩) hgl).trans q2
      have hlx : k < xs.length := by omega
      have hcall := hx k hlt hlx
      have HT : Hid (xs.take (k + 1) = xs.take k ++ [xs[k]]) := List.take_succ_eq_append_getElem hlx
      obtain ⟨o, s, e⟩ := hf _ (List.getElem_mem hlt)
      rw [e] at p1 p2 hcall
      dsimp only at p1 p2 hcall
      clear e q1 q2
      generalize xs[k] = x at hcall HT
      have hlen : (xs.take k).length = k := by rw [List.length_take]; omega
      have HL : Hid ((xs.take k ++ [x]).length = (xs.take k).length + 1) := by show _ = _; simp
      have HM : Hid ((xs.take k ++ [x]).map strC = (xs.take k).map strC ++ [.string ⟨x.toArray⟩]) := by show _ = _; simp [strC]
      go_wp2_with fail
      refine (hcall _ (hBW.alloc hBW.size _)).mono ?_
      rintro e w1 ⟨rfl, hB1⟩
      have hown1 := own_below (hown.alloc _) hB1
      have hBa : Below W0.heap.size W0 w1 := (hB.alloc hB.size _).trans (hB1.mono (hB.alloc hB.size _).size)
      go_wp2_with (at_builtin; go_must (refine wpList_append_own _ rfl _ _ 40 rfl W0.heap.size 9 i0 (.string ⟨#[]⟩) 1 16 Tryz.underlying40 hi hz0 hz1 hz2 rfl (by decide) _ _ _ rfl (hown1.alloc _) ⟨w1.heap.size, 0, none⟩ 1 1 [.string ⟨x.toArray⟩] rfl rfl (cell_one_new _ _ _) (by simp [Value.oneCell']) (by unfold maxLen; omega) (by omega) (by have := hBa.size; simp; omega) ?_); intro v' w5 hown' hgrow _)
      go_roundg (l.length - (k + 1) + 1)
      case measure => omega
      case rel => exact ⟨k + 1, by omega, rfl, by exact vint (by omega), by rw [HT.out, HL.out, HM.out]; exact hown', below_append hBa hBa.size hown1 hgrow⟩
    · have hkl : k = l.length := by omega
      subst hkl
      have HX : xs.take l.length = xs := List.take_of_length_le (by omega)
      rw [HX] at hown
      clear HX
      rcases own_strs hown with ⟨rfl, hx0⟩ | ⟨g, cap', rfl, hcap', hgs, hcells⟩
      · have HE : Hid (commas xs = []) := by show _ = _; rw [hx0]; rfl
        clear hown
        go_wp2_with fail
        refine (Tryz.strings_Join_none _ _ _ _).mono ?_
        rintro e w2 ⟨rfl, rfl⟩
        go_wp2_with fail
        go_ret
        exact ⟨by rw [HE.out]; rfl, hB⟩
      · have hJ := Tryz.strings_Join g 0 cap' (xs.map fun s => (⟨s.toArray⟩ : ByteArray)) ⟨#[44, 32]⟩ wr hcells hgs (by rw [List.length_map]; omega) (by rw [List.length_map]; exact hcap') (by rw [data_map, show (ByteArray.mk #[44, 32]).data.toList = [44, 32] from rfl, ← HJ.out]; omega)
        rw [List.length_map, data_map, show (ByteArray.mk #[44, 32]).data.toList = [44, 32] from rfl, ← HJ.out, hxl] at hJ
        clear hown hcells
        go_wp2_with fail
        refine hJ.mono ?_
        rintro e w2 ⟨rfl, hB2⟩
        go_wp2_with fail
        go_ret
        exact ⟨rfl, hB.trans (hB2.mono hB.size)⟩
set_option maxRecDepth 10000 in
set_option maxHeartbeats 1000000 in
theorem w_commasC (W : World) (v : Value) (l : List (Value × Value)) (xs : List Bg.Str) (hv : LayW W v l) (hx : SaysL W 267 l xs) (hf : StrStr l) (hl : l.length ≤ 400) (hc : (commas xs).length ≤ 400000) (W0 : World) (hB0 : Below W.heap.size W W0) :
    Says 254 #[v] (commas xs) W0 := by
  obtain ⟨i0, hi, hz0, hz1, hz2⟩ := info_parts Tryz.infoStr
  obtain ⟨hxl, hx⟩ := hx
  have HJ : Hid (commas xs = Lib.join xs [44, 32]) := commas_join xs
  obtain ⟨a, cap, rfl, hcap, hcell⟩ := lay_cells hv
  clear hv
  unfold Says
  go_enter Tryz.func254, Tryz.ntmps254
  go_wp2_with fail
  go_loopg [3, 8] (l.length + 1) (fun gk pv iv wr => ∃ k : Nat, k ≤ l.length ∧ gk = l.length - k + 1 ∧ iv = .int .i64 k ∧ wr.ownsRow W0.heap.size 9 1 pv (xs.take k).length ((xs.take k).map strC) ∧ Below W0.heap.size W0 wr)
  case atStart => exact ⟨0, by omega, by omega, rfl, World.ownsRow_nil _ _ _ _, Below.refl _ _⟩
  case round =>
    obtain ⟨k, hk, rfl, rfl, hown, hB⟩ := hrel
    by_cases hlt : k < l.length
    · obtain ⟨g, rfl, q1, q2⟩ := hcell k hlt
      have hgl : g < W.heap.size := World.block_lt_of_cell? _ _ q1
      have hBW : Below W.heap.size W wr := hB0.trans (hB.mono hB0.size)
      have p1 := (hBW.cell (p := ⟨g, k * 2, none⟩) hgl).trans q1
      have p2 := (hBW.cell (p := ⟨g, k * 2 + 1, none⟩) hgl).trans q2
      have hlx : k < xs.length := by omega
      have hcall := hx k hlt hlx
      have HT : Hid (xs.take (k + 1) = xs.take k ++ [xs[k]]) := List.take_succ_eq_append_getElem hlx
      obtain ⟨o, s, e⟩ := hf _ (List.getElem_mem hlt)
      rw [e] at p1 p2 hcall
      dsimp only at p1 p2 hcall
      clear e q1 q2
      generalize xs[k] = x at hcall HT
      have hlen : (xs.take k).length = k := by rw [List.length_take]; omega
      have HL : Hid ((xs.take k ++ [x]).length = (xs.take k).length + 1) := by show _ = _; simp
      have HM : Hid ((xs.take k ++ [x]).map strC = (xs.take k).map strC ++ [.string ⟨x.toArray⟩]) := by show _ = _; simp [strC]
      go_wp2_with fail
      refine (hcall _ (hBW.alloc hBW.size _)).mono ?_
      rintro e w1 ⟨rfl, hB1⟩
      have hown1 := own_below (hown.alloc _) hB1
      have hBa : Below W0.heap.size W0 w1 := (hB.alloc hB.size _).trans (hB1.mono (hB.alloc hB.size _).size)
      go_wp2_with (at_builtin; go_must (refine wpList_append_own _ rfl _ _ 40 rfl W0.heap.size 9 i0 (.string ⟨#[]⟩) 1 16 Tryz.underlying40 hi hz0 hz1 hz2 rfl (by decide) _ _ _ rfl (hown1.alloc _) ⟨w1.heap.size, 0, none⟩ 1 1 [.string ⟨x.toArray⟩] rfl rfl (cell_one_new _ _ _) (by simp [Value.oneCell']) (by unfold maxLen; omega) (by omega) (by have := hBa.size; simp; omega) ?_); intro v' w5 hown' hgrow _)
      go_roundg (l.length - (k + 1) + 1)
      case measure => omega
      case rel => exact ⟨k + 1, by omega, rfl, by exact vint (by omega), by rw [HT.out, HL.out, HM.out]; exact hown', below_append hBa hBa.size hown1 hgrow⟩
    · have hkl : k = l.length := by omega
      subst hkl
      have HX : xs.take l.length = xs := List.take_of_length_le (by omega)
      rw [HX] at hown
      clear HX
      rcases own_strs hown with ⟨rfl, hx0⟩ | ⟨g, cap', rfl, hcap', hgs, hcells⟩
      · have HE : Hid (commas xs = []) := by show _ = _; rw [hx0]; rfl
        clear hown
        go_wp2_with fail
        refine (Tryz.strings_Join_none _ _ _ _).mono ?_
        rintro e w2 ⟨rfl, rfl⟩
        go_wp2_with fail
        go_ret
        exact ⟨by rw [HE.out]; rfl, hB⟩
      · have hJ := Tryz.strings_Join g 0 cap' (xs.map fun s => (⟨s.toArray⟩ : ByteArray)) ⟨#[44, 32]⟩ wr hcells hgs (by rw [List.length_map]; omega) (by rw [List.length_map]; exact hcap') (by rw [data_map, show (ByteArray.mk #[44, 32]).data.toList = [44, 32] from rfl, ← HJ.out]; omega)
        rw [List.length_map, data_map, show (ByteArray.mk #[44, 32]).data.toList = [44, 32] from rfl, ← HJ.out, hxl] at hJ
        clear hown hcells
        go_wp2_with fail
        refine hJ.mono ?_
        rintro e w2 ⟨rfl, hB2⟩
        go_wp2_with fail
        go_ret
        exact ⟨rfl, hB.trans (hB2.mono hB.size)⟩
end Gr
end Go.Proofs.YtfkdfplnhlnnoaaGreatDoor
end
section
namespace Go.Proofs.YtfkdfplnhlnnoaaGreatDoor
open Go.RowKit
namespace Gr
set_option linter.unusedSimpArgs false
set_option linter.unusedVariables false
/-- a part that is not there, or is -/
theorem opt_ptr {M N : Nat} {W : World} {t : Tr} {v : Value} (h : PtrAt M N W t v) (ht : t = .nil ∨ t.isNode = true) : (t.isNode = false ∧ v = .pointer none) ∨ (t.isNode = true ∧ ∃ b, v = .pointer (some ⟨b, 0, none⟩)) := by
  cases t with
  | nil => exact .inl ⟨rfl, by simpa [PtrAt] using h⟩
  | cons x y => rcases ht with h | h <;> cases h
  | node => rw [ptr_node] at h; obtain ⟨b, _, _, _, _, _, _, rfl, _⟩ := h; exact .inr ⟨rfl, b, rfl⟩
def q1 (f : Fl) : Bg.Str := [115, 101, 108, 101, 99, 116, 32] ++ (if f.dist then [100, 105, 115, 116, 105, 110, 99, 116, 32] else [])
set_option maxRecDepth 10000 in
set_option maxHeartbeats 4000000 in
theorem ref_selected (M N : Nat) (f : Fl) (k i fr g w h : Tr) (W : World) (b : Nat) (hp : PtrAt M N W (.node f k i fr g w h) (.pointer (some ⟨b, 0, none⟩))) (hg : Good (.node f k i fr g w h))
    (hI : ∀ x ∈ elems i, PrintOK M N x) (hF : ∀ x ∈ elems fr, PrintOK M N x) (hG : ∀ x ∈ elems g, PrintOK M N x) (hW : PrintOK M N w) (hH : PrintOK M N h) :
    Calls Tryz.prog 26 #[.pointer (some ⟨b, 0, none⟩)] W fun e w' => e = .returned (.string ⟨(selP f (prs i) (prs fr) (prs g) (if w.isNode then some (pr w) else none) (if h.isNode then some (pr h) else none)).toArray⟩) ∧ Below W.heap.size W w' := by
  have happ := Bg.app_mk
  rw [ptr_node] at hp
  obtain ⟨b', vk, vi, vf, vg, vw, vh, e, hbM, hbN, hob, s1, s2, s3, s4, p1, p2⟩ := hp
  cases e
  rw [Good] at hg
  obtain ⟨hn, gk, gi, gf, gg, gw, gh, gw2, gh2⟩ := hg
  obtain ⟨z0, z1, z2, z3, z4, z5, c6, z7, z8, c9, z10, c11, c12, c13, c14, c15⟩ := cellT hob
  have hbl : b < W.heap.size := World.block_lt_of_cell? _ _ c6
  have HK : Hid (W.cell? ⟨b, 13, none⟩ = some vg ∧ W.cell? ⟨b, 15, none⟩ = some vh) := ⟨c13, c15⟩
  have PI : Hid (∀ w', Below W.heap.size W w' → Calls Tryz.prog 42 #[vi] w' fun e w2 => e = .returned (.string ⟨(commas (prs i)).toArray⟩) ∧ Below w'.heap.size w' w2) := fun w' hB => ref_printed M N i vi w' (s2.keep (Keep.of_below hB)) gi hn.li hn.ci hI
  have PF : Hid (∀ w', Below W.heap.size W w' → Calls Tryz.prog 42 #[vf] w' fun e w2 => e = .returned (.string ⟨(commas (prs fr)).toArray⟩) ∧ Below w'.heap.size w' w2) := fun w' hB => ref_printed M N fr vf w' (s3.keep (Keep.of_below hB)) gf hn.lf hn.cf hF
  have PG : Hid (∀ w', Below W.heap.size W w' → Calls Tryz.prog 42 #[vg] w' fun e w2 => e = .returned (.string ⟨(commas (prs g)).toArray⟩) ∧ Below w'.heap.size w' w2) := fun w' hB => ref_printed M N g vg w' (s4.keep (Keep.of_below hB)) gg hn.lg hn.cg hG
  have PW : Hid (w.isNode = true → ∀ w', Below W.heap.size W w' → Calls Tryz.prog 10 #[vw] w' fun e w2 => e = .returned (.string ⟨(pr w).toArray⟩) ∧ Below w'.heap.size w' w2) := fun hx w' hB => hW w' vw (p1.keep (Keep.of_below hB)) (gw hx)
  have PH : Hid (h.isNode = true → ∀ w', Below W.heap.size W w' → Calls Tryz.prog 10 #[vh] w' fun e w2 => e = .returned (.string ⟨(pr h).toArray⟩) ∧ Below w'.heap.size w' w2) := fun hx w' hB => hH w' vh (p2.keep (Keep.of_below hB)) (gh hx)
  have lw : w.isNode = true → (pr w).length ≤ 400000 := fun hx => good_pr (gw hx)
  have lh : h.isNode = true → (pr h).length ≤ 400000 := fun hx => good_pr (gh hx)
  have li := hn.ci
  have lf := hn.cf
  have lg := hn.cg
  have hgl : (prs g).length = g.len := prs_len g gg
  have ow := opt_ptr p1 gw2
  have oh := opt_ptr p2 gh2
  obtain ⟨pw, rfl⟩ := ptr_is2 p1
  obtain ⟨ph, rfl⟩ := ptr_is2 p2
  obtain ⟨ai, ci, rfl, _⟩ := s2
  obtain ⟨af, cf, rfl, _⟩ := s3
  obtain ⟨ag, cg, rfl, _⟩ := s4
  have hgc := hn.lg
  have HR : Hid (selP f (prs i) (prs fr) (prs g) (if w.isNode then some (pr w) else none) (if h.isNode then some (pr h) else none) = q1 f ++ (if f.star then [42] else []) ++ commas (prs i) ++ [32, 102, 114, 111, 109, 32] ++ commas (prs fr) ++ (if w.isNode then [32, 119, 104, 101, 114, 101, 32] ++ pr w else []) ++ (if prs g = [] then [] else [32, 103, 114, 111, 117, 112, 32, 98, 121, 32] ++ commas (prs g)) ++ (if h.isNode then [32, 104, 97, 118, 105, 110, 103, 32] ++ pr h else [])) := by
    show _ = _
    unfold selP q1
    cases w.isNode <;> cases h.isNode <;> simp
  generalize selP f (prs i) (prs fr) (prs g) (if w.isNode then some (pr w) else none) (if h.isNode then some (pr h) else none) = R at HR ⊢
  clear z0 z1 z2 z3 z4 z5 z7 z8 z10 hob hn gk gi gf gg gw gh gw2 gh2 p1 p2 s1 hI hF hG hW hH
  generalize i.len = ni at *
  generalize fr.len = nf at *
  have HGE : Hid ((prs g = []) ↔ g.len = 0) := by
    show _ ↔ _
    rw [← hgl, List.length_eq_zero_iff]
  clear hgl
  generalize g.len = ng at *
  generalize commas (prs i) = xi at *
  generalize commas (prs fr) = xf at *
  generalize hxg : commas (prs g) = xg at *
  clear hxg
  generalize prs g = lgs at *
  generalize pr w = xw at *
  generalize pr h = xh at *
  generalize w.isNode = nw at *
  generalize h.isNode = nh at *
  go_enter Tryz.func26, Tryz.ntmps26
  go_upto_if 12 with fail
  go_cut [3] (fun sv wx => sv = .string ⟨(q1 f).toArray⟩ ∧ W = wx)
  case first =>
    cases hd : f.dist
    · have e : Hid (q1 f = [115, 101, 108, 101, 99, 116, 32]) := by show _ = _; unfold q1; rw [hd]; rfl
      go_wp2_with fail
      go_meet
      case rel => exact ⟨by rw [e.out], rfl⟩
    · have e : Hid (q1 f = [115, 101, 108, 101, 99, 116, 32, 100, 105, 115, 116, 105, 110, 99, 116, 32]) := by show _ = _; unfold q1; rw [hd]; rfl
      go_wp2_with fail
      go_meet
      case rel => exact ⟨by rw [e.out], rfl⟩
  case rest =>
    obtain ⟨rfl, rfl⟩ := hcut
    have l1 : (q1 f).length ≤ 100 := by unfold q1; split <;> decide
    generalize hq1 : q1 f = s1 at l1 ⊢
    have HQ1 : Hid (q1 f = s1) := hq1
    clear hq1
    go_upto_if 18 with fail
    go_cut [3] (fun sv wx => sv = .string ⟨(s1 ++ if f.star then [42] else []).toArray⟩ ∧ W = wx)
    case first =>
      cases hd : f.star
      · go_wp2_with fail
        go_meet
        case rel => exact ⟨by simp [hd], rfl⟩
      · go_wp2_with fail
        go_meet
        case rel => exact ⟨by simp [hd], rfl⟩
    case rest =>
      obtain ⟨rfl, rfl⟩ := hcut
      have l2 : (s1 ++ if f.star then [42] else []).length ≤ 200 := by rw [List.length_append]; split <;> simp <;> omega
      generalize hq2 : (s1 ++ if f.star then [42] else []) = s2 at l2 ⊢
      have HQ2 : Hid ((s1 ++ if f.star then [42] else []) = s2) := hq2
      clear hq2
      go_wp2_with fail
      refine (PI.out _ (Below.refl _ _)).mono ?_
      rintro e w1 ⟨rfl, hB1⟩
      have c12' := (hB1.cell (p := ⟨b, 12, none⟩) hbl).trans c12
      go_wp2_with fail
      refine (PF.out _ hB1).mono ?_
      rintro e w2 ⟨rfl, hB2⟩
      have hBa := hB1.trans (hB2.mono hB1.size)
      have d13 := (hBa.cell (p := ⟨b, 13, none⟩) hbl).trans c13
      have d14 := (hBa.cell (p := ⟨b, 14, none⟩) hbl).trans c14
      have d15 := (hBa.cell (p := ⟨b, 15, none⟩) hbl).trans c15
      clear c12' c6 c9 c11 c12 c13 c14 c15
      go_upto_if 41 with fail
      go_cut [3] (fun sv wx => sv = .string ⟨(s2 ++ xi ++ [32, 102, 114, 111, 109, 32] ++ xf ++ if nw then [32, 119, 104, 101, 114, 101, 32] ++ xw else []).toArray⟩ ∧ Below W.heap.size W wx)
      case first =>
        rcases ow with ⟨rfl, hv⟩ | ⟨rfl, bw, hv⟩
        · cases hv
          go_wp2_with fail
          go_meet
          case rel => exact ⟨by simp, hBa⟩
        · cases hv
          have lw' := lw rfl
          go_wp2_with fail
          refine (PW.out (by first | rfl | trivial) _ hBa).mono ?_
          rintro e w3 ⟨rfl, hB3⟩
          go_wp2_with fail
          go_meet
          case rel => exact ⟨by simp, hBa.trans (hB3.mono hBa.size)⟩
      case rest =>
        obtain ⟨rfl, hBb⟩ := hcut
        have l3 : (s2 ++ xi ++ [32, 102, 114, 111, 109, 32] ++ xf ++ if nw then [32, 119, 104, 101, 114, 101, 32] ++ xw else []).length ≤ 2000000 := by
          rw [List.length_append, List.length_append, List.length_append, List.length_append]
          split
          · rename_i hx
            have := lw hx
            simp; omega
          · simp; omega
        generalize hq3 : (s2 ++ xi ++ [32, 102, 114, 111, 109, 32] ++ xf ++ if nw then [32, 119, 104, 101, 114, 101, 32] ++ xw else []) = s3 at l3 ⊢
        have HQ3 : Hid ((s2 ++ xi ++ [32, 102, 114, 111, 109, 32] ++ xf ++ if nw then [32, 119, 104, 101, 114, 101, 32] ++ xw else []) = s3) := hq3
        clear hq3 d13 d14 d15
        have d13 := (hBb.cell (p := ⟨b, 13, none⟩) hbl).trans HK.out.1
        have d15 := (hBb.cell (p := ⟨b, 15, none⟩) hbl).trans HK.out.2
        go_upto_if 56 with fail
        go_cut [3] (fun sv wx => sv = .string ⟨(s3 ++ if ng = 0 then [] else [32, 103, 114, 111, 117, 112, 32, 98, 121, 32] ++ xg).toArray⟩ ∧ Below W.heap.size W wx)
        case first =>
          by_cases h0 : ng = 0
          · have h0' : ¬ ((0 : Int) < (ng : Int)) := by omega
            have H0 : Hid (ng = 0) := h0
            clear h0
            go_wp2_with fail
            go_meet
            case rel => exact ⟨by rw [if_pos H0.out]; simp, hBb⟩
          · have h0' : (0 : Int) < (ng : Int) := by omega
            have H0 : Hid (¬ ng = 0) := h0
            go_wp2_with fail
            refine (PG.out _ hBb).mono ?_
            rintro e w3 ⟨rfl, hB3⟩
            go_wp2_with fail
            go_meet
            case rel => exact ⟨by rw [if_neg H0.out]; simp, hBb.trans (hB3.mono hBb.size)⟩
        case rest =>
          obtain ⟨rfl, hBc⟩ := hcut
          have l4 : (s3 ++ if ng = 0 then [] else [32, 103, 114, 111, 117, 112, 32, 98, 121, 32] ++ xg).length ≤ 3000000 := by
            rw [List.length_append]
            split <;> simp <;> omega
          generalize hq4 : (s3 ++ if ng = 0 then [] else [32, 103, 114, 111, 117, 112, 32, 98, 121, 32] ++ xg) = s4 at l4 ⊢
          have HQ4 : Hid ((s3 ++ if ng = 0 then [] else [32, 103, 114, 111, 117, 112, 32, 98, 121, 32] ++ xg) = s4) := hq4
          clear hq4 d13 d15
          have d15 := (hBc.cell (p := ⟨b, 15, none⟩) hbl).trans HK.out.2
          have HFIN : Hid (∀ tail : Bg.Str, s4 ++ tail = (q1 f ++ (if f.star then [42] else []) ++ xi ++ [32, 102, 114, 111, 109, 32] ++ xf ++ (if nw then [32, 119, 104, 101, 114, 101, 32] ++ xw else []) ++ (if lgs = [] then [] else [32, 103, 114, 111, 117, 112, 32, 98, 121, 32] ++ xg)) ++ tail) := fun tail => by
            rw [← HQ4.out, ← HQ3.out, ← HQ2.out, ← HQ1.out]
            congr 2
            by_cases h0 : ng = 0
            · rw [if_pos h0, if_pos (HGE.out.2 h0)]
            · rw [if_neg h0, if_neg (fun e => h0 (HGE.out.1 e))]
          rcases oh with ⟨rfl, hv⟩ | ⟨rfl, bw, hv⟩
          · cases hv
            go_wp2_with fail
            go_ret
            refine ⟨?_, hBc⟩
            have := HFIN.out []
            rw [List.append_nil] at this
            rw [this, HR.out]
            first | rfl | simp
          · cases hv
            have lh' := lh rfl
            go_wp2_with fail
            refine (PH.out (by first | rfl | trivial) _ hBc).mono ?_
            rintro e w3 ⟨rfl, hB3⟩
            go_wp2_with fail
            go_ret
            refine ⟨?_, hBc.trans (hB3.mono hBc.size)⟩
            have := HFIN.out ([32, 104, 97, 118, 105, 110, 103, 32] ++ xh)
            rw [HR.out]
            simp only [List.append_assoc, List.cons_append, List.nil_append] at this ⊢
            first
              | (rw [this]; first | done | rfl | simp)
              | simp [this]
end Gr
end Go.Proofs.YtfkdfplnhlnnoaaGreatDoor
end
