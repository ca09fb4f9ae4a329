import Derived.Test.YtfkdfplnhlnnoaaGreatDoorBgJa25
namespace Go.Proofs.YtfkdfplnhlnnoaaGreatDoor
open Go.RowKit
namespace Gr
set_option linter.unusedSimpArgs false
set_option linter.unusedVariables false
set_option maxRecDepth 10000
set_option maxHeartbeats 2000000
theorem w_pairE (W : World) (l r : Value) (s a b : Bg.Str) (hl : SayV W l a) (hr : SayV W r b) (la : a.length ≤ 400000) (lb : b.length ≤ 400000) (ls : s.length ≤ 1000) (W0 : World) (hB : Below W.heap.size W W0) :
    Says 274 #[.agg #[l, .string ⟨s.toArray⟩, r]] ([40] ++ (a ++ [32] ++ s ++ [32] ++ b) ++ [41]) W0 := by
  have hex := Bg.ext_mk
  have hap := Bg.app_mk
  have hc := w_sidesE W l r s a b hl hr la lb ls
  have hlen : (a ++ [32] ++ s ++ [32] ++ b).length ≤ 801100 := by simp only [List.length_append, List.length_cons, List.length_nil]; omega
  generalize a ++ [32] ++ s ++ [32] ++ b = x at hc hlen ⊢
  obtain ⟨T1, x1, K1, y1, rfl, _⟩ := hl
  obtain ⟨T2, x2, K2, y2, rfl, _⟩ := hr
  unfold Says
  go_enter Tryz.func274, Tryz.ntmps274
  go_wp2_with fail
  refine (hc _ (hB.alloc hB.size _)).mono ?_
  rintro e w1 ⟨rfl, hB1⟩
  go_wp2_with fail
  go_ret
  exact ⟨by first | rfl | simp, (wsum _).trans (hB1.mono (by simp))⟩
theorem w_pairQ (W : World) (l r : Value) (s a b : Bg.Str) (hl : SayV W l a) (hr : SayV W r b) (la : a.length ≤ 400000) (lb : b.length ≤ 400000) (ls : s.length ≤ 1000) (W0 : World) (hB : Below W.heap.size W W0) :
    Says 244 #[.agg #[l, .string ⟨s.toArray⟩, r]] ([40] ++ (a ++ [32] ++ s ++ [32] ++ b) ++ [41]) W0 := by
  have hex := Bg.ext_mk
  have hap := Bg.app_mk
  have hc := w_sidesQ W l r s a b hl hr la lb ls
  have hlen : (a ++ [32] ++ s ++ [32] ++ b).length ≤ 801100 := by simp only [List.length_append, List.length_cons, List.length_nil]; omega
  generalize a ++ [32] ++ s ++ [32] ++ b = x at hc hlen ⊢
  obtain ⟨T1, x1, K1, y1, rfl, _⟩ := hl
  obtain ⟨T2, x2, K2, y2, rfl, _⟩ := hr
  unfold Says
  go_enter Tryz.func244, Tryz.ntmps244
  go_wp2_with fail
  refine (hc _ (hB.alloc hB.size _)).mono ?_
  rintro e w1 ⟨rfl, hB1⟩
  go_wp2_with fail
  go_ret
  exact ⟨by first | rfl | simp, (wsum _).trans (hB1.mono (by simp))⟩
theorem w_pairC (W : World) (l r : Value) (s a b : Bg.Str) (hl : SayV W l a) (hr : SayV W r b) (la : a.length ≤ 400000) (lb : b.length ≤ 400000) (ls : s.length ≤ 1000) (W0 : World) (hB : Below W.heap.size W W0) :
    Says 271 #[.agg #[l, .string ⟨s.toArray⟩, r]] ([40] ++ (a ++ [32] ++ s ++ [32] ++ b) ++ [41]) W0 := by
  have hex := Bg.ext_mk
  have hap := Bg.app_mk
  have hc := w_sidesC W l r s a b hl hr la lb ls
  have hlen : (a ++ [32] ++ s ++ [32] ++ b).length ≤ 801100 := by simp only [List.length_append, List.length_cons, List.length_nil]; omega
  generalize a ++ [32] ++ s ++ [32] ++ b = x at hc hlen ⊢
  obtain ⟨T1, x1, K1, y1, rfl, _⟩ := hl
  obtain ⟨T2, x2, K2, y2, rfl, _⟩ := hr
  unfold Says
  go_enter Tryz.func271, Tryz.ntmps271
  go_wp2_with fail
  refine (hc _ (hB.alloc hB.size _)).mono ?_
  rintro e w1 ⟨rfl, hB1⟩
  go_wp2_with fail
  go_ret
  exact ⟨by first | rfl | simp, (wsum _).trans (hB1.mono (by simp))⟩
theorem w_not (W : World) (l : Value) (a : Bg.Str) (hl : SayV W l a) (la : a.length ≤ 400000) (W0 : World) (hB : Below W.heap.size W W0) :
    Says 276 #[.agg #[l]] ([40, 110, 111, 116, 32] ++ a ++ [41]) W0 := by
  have hex := Bg.ext_mk
  have hap := Bg.app_mk
  obtain ⟨T1, x1, K1, y1, rfl, n1, m1, f1, hl⟩ := hl
  unfold Says
  go_enter Tryz.func276, Tryz.ntmps276
  go_wp2_with fail
  refine (hl _ (hB.alloc hB.size _)).mono ?_
  rintro e w1 ⟨rfl, hB1⟩
  go_wp2_with fail
  go_ret
  exact ⟨by first | rfl | simp, (wsum _).trans (hB1.mono (by simp))⟩
theorem w_neg (W : World) (l : Value) (a : Bg.Str) (hl : SayV W l a) (la : a.length ≤ 400000) (W0 : World) (hB : Below W.heap.size W W0) :
    Says 278 #[.agg #[l]] ([40, 45] ++ a ++ [41]) W0 := by
  have hex := Bg.ext_mk
  have hap := Bg.app_mk
  obtain ⟨T1, x1, K1, y1, rfl, n1, m1, f1, hl⟩ := hl
  unfold Says
  go_enter Tryz.func278, Tryz.ntmps278
  go_wp2_with fail
  refine (hl _ (hB.alloc hB.size _)).mono ?_
  rintro e w1 ⟨rfl, hB1⟩
  go_wp2_with fail
  go_ret
  exact ⟨by first | rfl | simp, (wsum _).trans (hB1.mono (by simp))⟩
theorem w_asked (W : World) (l : Value) (a : Bg.Str) (hl : SayV W l a) (la : a.length ≤ 400000) (W0 : World) (hB : Below W.heap.size W W0) :
    Says 281 #[.agg #[l]] ([32, 40] ++ a ++ [41]) W0 := by
  have hex := Bg.ext_mk
  have hap := Bg.app_mk
  obtain ⟨T1, x1, K1, y1, rfl, n1, m1, f1, hl⟩ := hl
  unfold Says
  go_enter Tryz.func281, Tryz.ntmps281
  go_wp2_with fail
  refine (hl _ (hB.alloc hB.size _)).mono ?_
  rintro e w1 ⟨rfl, hB1⟩
  go_wp2_with fail
  go_ret
  exact ⟨by first | rfl | simp, (wsum _).trans (hB1.mono (by simp))⟩
theorem w_literal (W : World) (l : Value) (a : Bg.Str) (hl : SayV W l a) (la : a.length ≤ 400000) (W0 : World) (hB : Below W.heap.size W W0) :
    Says 279 #[.agg #[l]] ([] ++ a ++ []) W0 := by
  have hex := Bg.ext_mk
  have hap := Bg.app_mk
  obtain ⟨T1, x1, K1, y1, rfl, n1, m1, f1, hl⟩ := hl
  unfold Says
  go_enter Tryz.func279, Tryz.ntmps279
  go_wp2_with fail
  refine (hl _ (hB.alloc hB.size _)).mono ?_
  rintro e w1 ⟨rfl, hB1⟩
  go_wp2_with fail
  go_ret
  exact ⟨by first | rfl | simp, (wsum _).trans (hB1.mono (by simp))⟩
theorem w_exists (W : World) (l : Value) (a : Bg.Str) (hl : SayV W l a) (la : a.length ≤ 400000) (W0 : World) (hB : Below W.heap.size W W0) :
    Says 280 #[.agg #[l]] ([101, 120, 105, 115, 116, 115] ++ ([32, 40] ++ a ++ [41])) W0 := by
  have hex := Bg.ext_mk
  have hap := Bg.app_mk
  have hc := w_asked W l a hl la
  have hlen : ([32, 40] ++ a ++ [41]).length ≤ 401100 := by simp only [List.length_append, List.length_cons, List.length_nil]; omega
  generalize [32, 40] ++ a ++ [41] = x at hc hlen ⊢
  obtain ⟨T1, x1, K1, y1, rfl, _⟩ := hl
  unfold Says
  go_enter Tryz.func280, Tryz.ntmps280
  go_wp2_with fail
  refine (hc _ (hB.alloc hB.size _)).mono ?_
  rintro e w1 ⟨rfl, hB1⟩
  go_wp2_with fail
  go_ret
  exact ⟨by first | rfl | simp, (wsum _).trans (hB1.mono (by simp))⟩
theorem w_compare (W : World) (l r : Value) (s a b : Bg.Str) (hl : SayV W l a) (hr : SayV W r b) (la : a.length ≤ 400000) (lb : b.length ≤ 400000) (ls : s.length ≤ 1000) (W0 : World) (hB : Below W.heap.size W W0) :
    Says 286 #[.agg #[l, .string ⟨s.toArray⟩, r]] (a ++ [32] ++ s ++ [32] ++ b) W0 := by
  have hc := w_sidesE W l r s a b hl hr la lb ls
  generalize a ++ [32] ++ s ++ [32] ++ b = x at hc ⊢
  obtain ⟨T1, x1, K1, y1, rfl, _⟩ := hl
  obtain ⟨T2, x2, K2, y2, rfl, _⟩ := hr
  unfold Says
  go_enter Tryz.func286, Tryz.ntmps286
  go_wp2_with fail
  refine (hc _ (hB.alloc hB.size _)).mono ?_
  rintro e w1 ⟨rfl, hB1⟩
  go_wp2_with fail
  go_ret
  exact ⟨rfl, (wsum _).trans (hB1.mono (by simp))⟩
theorem w_isnull (W : World) (l : Value) (a : Bg.Str) (b : Bool) (hl : SayV W l a) (la : a.length ≤ 400000) (W0 : World) (hB : Below W.heap.size W W0) :
    Says 283 #[.agg #[l, .bool b]] (a ++ [32, 105, 115, 32] ++ notP b ++ [110, 117, 108, 108]) W0 := by
  have hex := Bg.ext_mk
  have hap := Bg.app_mk
  obtain ⟨T1, x1, K1, y1, rfl, n1, m1, f1, hl⟩ := hl
  cases b <;>
   (simp only [notP, if_true, Bool.false_eq_true, if_false]
    unfold Says
    go_enter Tryz.func283, Tryz.ntmps283
    go_wp2_with fail
    refine (hl _ (hB.alloc hB.size _)).mono ?_
    rintro e w1 ⟨rfl, hB1⟩
    go_wp2_with fail
    go_ret
    exact ⟨by first | rfl | simp, (wsum _).trans (hB1.mono (by simp))⟩)
theorem w_column (o s : Bg.Str) (lo : o.length ≤ 1000) (ls : s.length ≤ 1000) (W0 : World) :
    Says 267 #[.agg #[.string ⟨o.toArray⟩, .string ⟨s.toArray⟩]] (if o = [] then s else o ++ [46] ++ s) W0 := by
  have hex := Bg.ext_mk
  have hap := Bg.app_mk
  by_cases h : o = []
  · subst h
    rw [if_pos rfl]
    unfold Says
    go_enter Tryz.func267, Tryz.ntmps267
    go_wp2_with fail
    go_ret
    exact ⟨rfl, wsum _⟩
  · rw [if_neg h]
    have h' : (o == []) = false := by simpa using h
    clear h
    unfold Says
    go_enter Tryz.func267, Tryz.ntmps267
    go_wp2_with fail
    go_ret
    exact ⟨by first | rfl | simp, wsum _⟩
theorem w_behind (s : Bg.Str) (ls : s.length ≤ 1000) (W0 : World) :
    Says 263 #[.agg #[.string ⟨s.toArray⟩]] (if s = [] then [] else [32, 97, 115, 32] ++ s) W0 := by
  have hex := Bg.ext_mk
  have hap := Bg.app_mk
  by_cases h : s = []
  · subst h
    rw [if_pos rfl]
    unfold Says
    go_enter Tryz.func263, Tryz.ntmps263
    go_wp2_with fail
    go_ret
    exact ⟨rfl, wsum _⟩
  · rw [if_neg h]
    have h' : (s == []) = false := by simpa using h
    clear h
    unfold Says
    go_enter Tryz.func263, Tryz.ntmps263
    go_wp2_with fail
    go_ret
    exact ⟨by first | rfl | simp, wsum _⟩
end Gr
end Go.Proofs.YtfkdfplnhlnnoaaGreatDoor
