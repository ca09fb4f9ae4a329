/- The document's answer (package bagsref): headed. -/
import Derived.Test.YtfkdfplnhlnnoaaGreatDoorBgRefE
import Derived.Test.YtfkdfplnhlnnoaaGreatDoorBgReadE
import Derived.Deep.DeepCutAuto
import Derived.Deep.LoopGhost
namespace Go.Proofs.YtfkdfplnhlnnoaaGreatDoor
open Go.RowKit
set_option linter.unusedSimpArgs false
set_option linter.unusedVariables false

theorem zip_fst : ∀ {a b : List Bg.Str}, a.length = b.length → ((a.zip b).map fun x => strV x.1) = a.map strV
  | [], [], _ => rfl
  | x :: a, y :: b, h => by simp only [List.zip_cons_cons, List.map_cons]; rw [zip_fst (by simpa using h)]
theorem zip_snd : ∀ {a b : List Bg.Str}, a.length = b.length → ((a.zip b).map fun x => strV x.2) = b.map strV
  | [], [], _ => rfl
  | x :: a, y :: b, h => by simp only [List.zip_cons_cons, List.map_cons]; rw [zip_snd (by simpa using h)]
theorem hd_app {W wq w1 : World} {ob : Obj} {v v2 : Value} {n n2 m : Nat} {xs xs2 ys : List Value} {cur c0 : Array Value} {g' cap' k : Nat}
    (hgrow : (wq.alloc ob).grownBy w1 v.ownBlock) (hB : Below W.heap.size W wq) (hv : wq.ownsRow W.heap.size 9 1 v n xs) (hv2 : wq.ownsRow W.heap.size 9 1 v2 n2 xs2)
    (hne : ∀ g, v2.ownBlock = some g → v.ownBlock ≠ some g) (hS : W.heap.size < wq.heap.size) (h0 : wq.heap[W.heap.size]? = some (.cells c0 46 (0, 0)))
    (hown' : w1.ownsRow W.heap.size 9 1 (.slice (some ⟨g', 0, none⟩) m cap') m ys)
    (hlies : v.ownBlock = some g' ∨ g' = (wq.alloc ob).heap.size) (hT1 : w1.heap[W.heap.size + 1]? = some (.cells cur 46 (0, 0))) :
    (w1.setCell ⟨W.heap.size + 1, k, none⟩ (.slice (some ⟨g', 0, none⟩) m cap')).heap[W.heap.size]? = some (.cells c0 46 (0, 0)) ∧
    (w1.setCell ⟨W.heap.size + 1, k, none⟩ (.slice (some ⟨g', 0, none⟩) m cap')).heap[W.heap.size + 1]? = some (.cells (cur.setIfInBounds k (.slice (some ⟨g', 0, none⟩) m cap')) 46 (0, 0)) ∧
    (w1.setCell ⟨W.heap.size + 1, k, none⟩ (.slice (some ⟨g', 0, none⟩) m cap')).ownsRow W.heap.size 9 1 (.slice (some ⟨g', 0, none⟩) m cap') m ys ∧
    (w1.setCell ⟨W.heap.size + 1, k, none⟩ (.slice (some ⟨g', 0, none⟩) m cap')).ownsRow W.heap.size 9 1 v2 n2 xs2 ∧
    (∀ g, v2.ownBlock = some g → (Value.slice (some ⟨g', 0, none⟩) m cap').ownBlock ≠ some g) ∧ Below W.heap.size W (w1.setCell ⟨W.heap.size + 1, k, none⟩ (.slice (some ⟨g', 0, none⟩) m cap')) := by
  have hb0 : w1.heap[W.heap.size]? = some (.cells c0 46 (0, 0)) := (hgrow.block W.heap.size (by simp; omega) (own_ne hv h0 (by decide))).trans ((Below.heap_alloc _ _ _ hS).trans h0)
  refine ⟨(Below.heap_setCell _ _ _ _ (by simp)).trans hb0, setCell_heap hT1, own_setCell hown' hT1 (by decide), own_setCell (own_grown (hv2.alloc _) hgrow (fun g h e => hne g h e.symm)) hT1 (by decide), ?_, ?_⟩
  · intro g hg e
    have e1 : g' = g := by simpa [Value.ownBlock] using e
    subst e1
    rcases hlies with h | h
    · exact hne g' hg h
    · have := (hv2.lt g' hg).2
      simp at h; omega
  · exact (below_append hB (by omega) hv hgrow).setCell (p := ⟨W.heap.size + 1, k, none⟩) (by simp) _
theorem okw1 {a b c : Bool} {y : Bg.Str} (h : ¬ a = true) : Value.bool false = .bool (a && b && !c && (y == sInt || y == sText)) := by simp [h]
theorem okw2 {a b c : Bool} {y : Bg.Str} (h : ¬ b = true) : Value.bool false = .bool (a && b && !c && (y == sInt || y == sText)) := by simp [h]
theorem okw3 {a b c : Bool} {y : Bg.Str} (h : c = true) : Value.bool false = .bool (a && b && !c && (y == sInt || y == sText)) := by simp [h]
theorem okw4 {a b c : Bool} {y : Bg.Str} (h1 : a = true) (h2 : b = true) (h : ¬ c = true) (h3 : y = [105, 110, 116]) : Value.bool true = .bool (a && b && !c && (y == sInt || y == sText)) := by simp [h1, h2, h, h3, sInt]
theorem okw5 {a b c : Bool} {y : Bg.Str} (h1 : a = true) (h2 : b = true) (h : ¬ c = true) : Value.bool (y == [105, 110, 116] || y == [116, 101, 120, 116]) = .bool (a && b && !c && (y == sInt || y == sText)) := by simp [h1, h2, h, sInt, sText]

set_option maxRecDepth 100000 in
set_option maxHeartbeats 1000000 in
theorem ref_headed (v : Value) (l : List Bg.Str) (W : World) (hl : ∀ x ∈ l, x.length ≤ 90000) (hll : l.length ≤ 90000) (hv : viewS W v l) (hh : headLen l.length = true) :
    Calls Tryz.prog 15 #[v] W fun e W' => ∃ cv tv : Value, e = .returned (.tuple #[.agg #[strV (l.getD 1 []), cv, tv, .slice none 0 0], .bool (Bg.isName (l.getD 1 []) && okPairs [] (pairsOf (l.drop 2)))]) ∧
      W'.ownsRow W.heap.size 9 1 cv (pairsOf (l.drop 2)).length ((pairsOf (l.drop 2)).map fun x => strV x.1) ∧ W'.ownsRow W.heap.size 9 1 tv (pairsOf (l.drop 2)).length ((pairsOf (l.drop 2)).map fun x => strV x.2) ∧ Below W.heap.size W W' := by
  have hh2 : 4 ≤ l.length ∧ l.length % 2 = 0 ∧ l.length ≤ 14 := of_decide_eq_true hh
  obtain ⟨hn4, hn2, hn14⟩ := hh2
  obtain ⟨a, cap, rfl, hc⟩ := hv
  obtain ⟨g, o, rfl, hc1⟩ := hc 1 (by omega)
  have d1 : decide ((l.length : Int) < 4) = false := by simp; omega
  have d2 : ((l.length : Int).tmod 2 != 0) = false := by
    rw [Int.tmod_eq_emod_of_nonneg (by omega)]; simp; omega
  have d3 : decide ((14 : Int) < (l.length : Int)) = false := by simp; omega
  have c1 : W.cell? ⟨g, o + 1, none⟩ = some (.string ⟨(l[1]'(by omega)).toArray⟩) := hc1
  have hgl : g < W.heap.size := World.block_lt_of_cell? W _ c1
  have c1a : ∀ o1, (W.alloc o1).cell? ⟨g, o + 1, none⟩ = some (.string ⟨(l[1]'(by omega)).toArray⟩) := fun o1 => (World.cell?_alloc_lt _ _ ⟨g, o + 1, none⟩ hgl).trans c1
  have c1b : ∀ o1 o2, ((W.alloc o1).alloc o2).cell? ⟨g, o + 1, none⟩ = some (.string ⟨(l[1]'(by omega)).toArray⟩) := fun o1 o2 => (World.cell?_alloc_lt _ _ ⟨g, o + 1, none⟩ (by simp; omega)).trans (c1a o1)
  clear hc1 hh c1
  have hx1 : (l[1]'(by omega)).length ≤ 90000 := hl _ (List.getElem_mem _)
  obtain ⟨i0, hi, hz0, hz1, hz2⟩ := info_parts Tryz.infoStr
  go_enter Tryz.func15, Tryz.ntmps15
  go_wp2_with fail
  refine (ref_isName (l[1]'(by omega)) _ hx1).mono ?_
  rintro e w1 ⟨rfl, rfl⟩
  generalize hnm : Bg.isName (l[1]'(by omega)) = nm
  have HNM : Hid (Bg.isName (l[1]'(by omega)) = nm) := hnm
  clear hnm
  go_wp2
  go_loopg [5, 7, 8, 9] (l.length - (2 * 0 + 2) + 1) (fun gk b i _ _ wr => ∃ (k : Nat) (okk : Bool) (ns ts : List Bg.Str) (cv tv : Value), 2 * k + 2 ≤ l.length ∧ gk = l.length - (2 * k + 2) + 1 ∧ i = .int .i64 (2 * k + 2 : Nat) ∧ b = .bool okk ∧ ns.length = k ∧ ts.length = k ∧
      wr.heap[W.heap.size]? = some (.cells #[.string ⟨#[]⟩, .slice none 0 0, .slice none 0 0, .slice none 0 0] 46 (0, 0)) ∧
      wr.heap[W.heap.size + 1]? = some (.cells #[.string ⟨(l[1]'(by omega)).toArray⟩, cv, tv, .slice none 0 0] 46 (0, 0)) ∧
      wr.ownsRow W.heap.size 9 1 cv ns.length (ns.map strV) ∧ wr.ownsRow W.heap.size 9 1 tv ts.length (ts.map strV) ∧
      Hid (∀ g, cv.ownBlock = some g → tv.ownBlock ≠ some g) ∧ Below W.heap.size W wr ∧
      Hid (pairsOf (l.drop 2) = ns.zip ts ++ pairsOf (l.drop (2 * k + 2))) ∧
      Hid ((nm && okPairs [] (pairsOf (l.drop 2))) = (okk && okPairs ns (pairsOf (l.drop (2 * k + 2))))))
  case atStart =>
    have hA := heap_alloc_new (W.alloc (.cells #[.string ⟨#[]⟩, .slice none 0 0, .slice none 0 0, .slice none 0 0] 46)) (.cells #[.string ⟨(l[1]'(by omega)).toArray⟩, .slice none 0 0, .slice none 0 0, .slice none 0 0] 46)
    rw [World.size_alloc] at hA
    refine ⟨0, nm, [], [], _, _, by omega, rfl, rfl, rfl, rfl, rfl, (Below.heap_alloc _ _ _ (by simp)).trans (heap_alloc_new W _), hA, World.ownsRow_nil _ _ _ _, World.ownsRow_nil _ _ _ _, (by intro g hg; cases hg), ((Below.refl _ W).alloc (Nat.le_refl _) _).alloc (by simp) _, rfl, rfl⟩
  case round =>
    obtain ⟨k, okk, ns, ts, cv, tv, hk, rfl, rfl, rfl, hns, hts, hr0, ht0, hcv, htv, hne, hB, hpz, hq⟩ := hrel
    have HNS : Hid (ns.length = k) := hns
    have HTS : Hid (ts.length = k) := hts
    have hnk7 : ns.length ≤ 7 := by omega
    have htk7 : ts.length ≤ 7 := by omega
    clear hns hts
    by_cases hlt : 2 * k + 2 < l.length
    · obtain ⟨g1, o1, e1, hca⟩ := hc (2 * k + 2) hlt
      cases e1
      obtain ⟨g2, o2, e2, hcb⟩ := hc (2 * k + 2 + 1) (by omega)
      cases e2
      have ca : wr.cell? ⟨g, o + (2 * k + 2), none⟩ = some (.string ⟨(l[2 * k + 2]'hlt).toArray⟩) := (hB.cell (p := ⟨g, o + (2 * k + 2), none⟩) hgl).trans hca
      have cb : wr.cell? ⟨g, o + (2 * k + 2 + 1), none⟩ = some (.string ⟨(l[2 * k + 2 + 1]'(by omega)).toArray⟩) := (hB.cell (p := ⟨g, o + (2 * k + 2 + 1), none⟩) hgl).trans hcb
      clear hca hcb
      have hxa : (l[2 * k + 2]'hlt).length ≤ 90000 := hl _ (List.getElem_mem _)
      obtain ⟨q0, q1, q2, q3, qf⟩ := cells4 ht0
      have hvw : viewS wr cv ns := own_view hcv
      have hnsl : ns.length ≤ 90000 := by omega
      have hSl : W.heap.size < wr.heap.size := (Array.getElem?_eq_some_iff.1 hr0).1
      have hb0 : (0 : Int) ≤ 2 * (k : Int) + 2 := by omega
      have hb1 : 2 * (k : Int) + 2 < (l.length : Int) := by omega
      have hb2 : 2 * (k : Int) + 2 + 1 < (l.length : Int) := by omega
      have hb3 : (2 * (k : Int) + 2).toNat = 2 * k + 2 := by omega
      have hb4 : (2 * (k : Int) + 2 + 1).toNat = 2 * k + 2 + 1 := by omega
      have hb5 : (0 : Int) ≤ 2 * (k : Int) + 2 + 1 := by omega
      have hb6 : IntKind.i64.wrap (2 * (k : Int) + 2 + 1) = 2 * (k : Int) + 2 + 1 := by rw [IntKind.wrap_i64]; omega
      go_wp2_with fail
      refine (ref_isName (l[2 * k + 2]'hlt) _ hxa).mono ?_
      rintro e w1 ⟨rfl, rfl⟩
      generalize hnk : Bg.isName (l[2 * k + 2]'hlt) = nmk
      have HNK : Hid (Bg.isName (l[2 * k + 2]'hlt) = nmk) := hnk
      clear hnk
      go_wp2_with fail
      go_quiet ((go_at_call 34; exact Calls.quiet_of (ref_has cv ns (l[2 * k + 2]'hlt) _ hnsl (hvw.drew _))))
      generalize htw : ns.contains (l[2 * k + 2]'hlt) = tw
      have HTW : Hid (ns.contains (l[2 * k + 2]'hlt) = tw) := htw
      clear htw
      generalize hnx : l[2 * k + 2 + 1]'(by omega) = y at cb
      have HNX : Hid (l[2 * k + 2 + 1]'(by omega) = y) := hnx
      clear hnx
      generalize hnx : l[2 * k + 2]'hlt = x at ca HNK HTW hxa ⊢
      have HNX0 : Hid (l[2 * k + 2]'hlt = x) := hnx
      clear hnx
      have HDR : Hid (l.drop (2 * k + 2) = x :: y :: l.drop (2 * (k + 1) + 2)) := by
        show _ = _
        rw [show 2 * (k + 1) + 2 = 2 * k + 2 + 1 + 1 from by omega, List.drop_eq_getElem_cons hlt, List.drop_eq_getElem_cons (show 2 * k + 2 + 1 < l.length by omega), ← HNX.out, ← HNX0.out]
      have HT1 : Hid (some (W.heap.size + 1) ≠ cv.ownBlock) := own_ne hcv ht0 (by decide)
      have hTl : W.heap.size + 1 < wr.heap.size := (Array.getElem?_eq_some_iff.1 ht0).1
      have hgw : g < wr.heap.size := Nat.lt_of_lt_of_le hgl hB.size
      have HG1 : Hid (some g ≠ cv.ownBlock) := fun e => by have := (hcv.lt g e.symm).1; omega
      have qa : ∀ n ob, ((wr.drewN n).alloc ob).cell? ⟨W.heap.size + 1, 1, none⟩ = some cv := fun n ob => (World.cell?_alloc_lt (wr.drewN n) ob ⟨W.heap.size + 1, 1, none⟩ hTl).trans q1
      go_upto_region 11 with fail
      go_cut [5, 8, 9] (fun b _ _ wx => b = .bool (okk && nmk && !tw && (y == sInt || y == sText)) ∧ wx = wr.drewN nq)
      case first =>
        go_wp2
        all_goals go_meet
        all_goals refine ⟨?_, rfl⟩
        · exact okw3 (by assumption)
        · exact okw4 (by assumption) (by assumption) (by assumption) (by assumption)
        · exact okw5 (by assumption) (by assumption) (by assumption)
        · exact okw2 (by assumption)
        · exact okw1 (by assumption)
      case rest =>
        obtain ⟨rfl, rfl⟩ := hcut
        have HOK : Hid ((okk && nmk && !tw && (y == sInt || y == sText)) = (okk && (nmk && !tw && (y == sInt || y == sText)))) := by show _ = _; cases okk <;> simp
        generalize (okk && nmk && !tw && (y == sInt || y == sText)) = ok2 at HOK ⊢
        go_upto_region 12 with fail
        go_cut [8, 9] (fun _ _ wx => ∃ cv' : Value, wx.heap[W.heap.size]? = some (.cells #[.string ⟨#[]⟩, .slice none 0 0, .slice none 0 0, .slice none 0 0] 46 (0, 0)) ∧
          wx.heap[W.heap.size + 1]? = some (.cells #[.string ⟨(l[1]'(by omega)).toArray⟩, cv', tv, .slice none 0 0] 46 (0, 0)) ∧
          wx.ownsRow W.heap.size 9 1 cv' (ns.length + 1) ((ns ++ [x]).map strV) ∧ wx.ownsRow W.heap.size 9 1 tv ts.length (ts.map strV) ∧
          Hid (∀ g, cv'.ownBlock = some g → tv.ownBlock ≠ some g) ∧ Below W.heap.size W wx)
        case first =>
          go_region_law (refine step_append_lies _ rfl _ _ 40 rfl W.heap.size 9 i0 (.string ⟨#[]⟩) 1 16 Tryz.underlying40 hi hz0 hz1 hz2 rfl (by decide) cv ns.length (ns.map strV) rfl (by exact hcv.alloc _) ⟨wr.heap.size, 0, none⟩ 1 1 [strV x] rfl rfl (by exact cell_one_new _ _ _) (by simp [Value.oneCell', strV]) (by omega) (by unfold maxLen; omega) (by omega) (by have := hB.size; simp; omega) _ rfl ?_; intro g' cap' w1 hown' hgrow hlies hltg; have hT1 := (hgrow.block (W.heap.size + 1) (by simp; omega) HT1.out).trans ((Below.heap_alloc _ _ _ (by exact hTl)).trans (by exact ht0)); obtain ⟨z0, z1, z2, z3, zf⟩ := cells4 hT1; have zf1 := zf 1)
          all_goals
            go_wp2_with fail
            go_meet
            have hh := hd_app (k := 1) hgrow (hB.trans ⟨rfl, rfl, rfl, Nat.le_refl _, fun _ _ => rfl⟩) (by exact hcv) (by exact htv) (fun g h1 h2 => hne.out g h2 h1) (by exact hSl) (by exact hr0) hown' hlies hT1
            exact ⟨_, hh.1, hh.2.1, by simpa using hh.2.2.1, hh.2.2.2.1, fun g h1 h2 => hh.2.2.2.2.1 g h2 h1, hh.2.2.2.2.2⟩
        case rest =>
          obtain ⟨cv', hr1, ht1, hcv1, htv1, hne1, hB1⟩ := hcut
          clear hr0 ht0 hcv htv hne q0 q1 q2 q3 qf qa hvw HT1 HG1
          have HT2 : Hid (some (W.heap.size + 1) ≠ tv.ownBlock) := own_ne htv1 ht1 (by decide)
          have hTl1 : W.heap.size + 1 < wc.heap.size := (Array.getElem?_eq_some_iff.1 ht1).1
          have hSl1 : W.heap.size < wc.heap.size := (Array.getElem?_eq_some_iff.1 hr1).1
          obtain ⟨q0, q1, q2, q3, qf⟩ := cells4 ht1
          have cb1 : wc.cell? ⟨g, o + (2 * k + 2 + 1), none⟩ = some (.string ⟨y.toArray⟩) := (hB1.cell (p := ⟨g, o + (2 * k + 2 + 1), none⟩) hgl).trans ((hB.cell (p := ⟨g, o + (2 * k + 2 + 1), none⟩) hgl).symm.trans cb)
          have qa : ∀ n ob, ((wc.drewN n).alloc ob).cell? ⟨W.heap.size + 1, 2, none⟩ = some tv := fun n ob => (World.cell?_alloc_lt (wc.drewN n) ob ⟨W.heap.size + 1, 2, none⟩ hTl1).trans q2
          have qb : ∀ ob, (wc.alloc ob).cell? ⟨W.heap.size + 1, 2, none⟩ = some tv := fun ob => (World.cell?_alloc_lt wc ob ⟨W.heap.size + 1, 2, none⟩ hTl1).trans q2
          go_wp2_with fail
          go_region_law (refine step_append_lies _ rfl _ _ 40 rfl W.heap.size 9 i0 (.string ⟨#[]⟩) 1 16 Tryz.underlying40 hi hz0 hz1 hz2 rfl (by decide) tv ts.length (ts.map strV) rfl (by exact htv1.alloc _) ⟨wc.heap.size, 0, none⟩ 1 1 [strV y] rfl rfl (by exact cell_one_new _ _ _) (by simp [Value.oneCell', strV]) (by omega) (by unfold maxLen; omega) (by omega) (by have := hB1.size; simp; omega) _ rfl ?_; intro g' cap' w1 hown' hgrow hlies hltg; have hT1 := (hgrow.block (W.heap.size + 1) (by simp; omega) HT2.out).trans ((Below.heap_alloc _ _ _ (by exact hTl1)).trans (by exact ht1)); obtain ⟨z0, z1, z2, z3, zf⟩ := cells4 hT1; have zf1 := zf 2)
          all_goals
            have hh := hd_app (k := 2) (wq := wc.drew) (ob := .cells #[.string ⟨y.toArray⟩] 9) (by exact hgrow) (hB1.trans ⟨rfl, rfl, rfl, Nat.le_refl _, fun _ _ => rfl⟩) (by exact htv1) (by exact hcv1) (fun g h1 h2 => hne1.out g h1 h2) (by exact hSl1) (by exact hr1) hown' hlies hT1
            clear hr1 ht1 hcv1 htv1 hne1 q0 q1 q2 q3 qf qa qb cb1 HT2 z0 z1 z2 z3 zf zf1 hT1 hown' hgrow hlies hltg
            go_wp2_with fail
            go_roundg (l.length - (2 * (k + 1) + 2) + 1)
            case measure => omega
            case rel =>
              refine ⟨k + 1, ok2, ns ++ [x], ts ++ [y], cv', _, by omega, rfl, by exact vint (by omega), rfl, by simp [HNS.out], by simp [HTS.out], hh.1, hh.2.1, by simpa using hh.2.2.2.1, by simpa using hh.2.2.1, fun g h1 h2 => hh.2.2.2.2.1 g h1 h2, hh.2.2.2.2.2, ?_, ?_⟩
              · show pairsOf (l.drop 2) = (ns ++ [x]).zip (ts ++ [y]) ++ pairsOf (l.drop (2 * (k + 1) + 2))
                rw [hpz.out, HDR.out, List.zip_append (by rw [HNS.out, HTS.out])]
                simp [pairsOf]
              · show (nm && okPairs [] (pairsOf (l.drop 2))) = (ok2 && okPairs (ns ++ [x]) (pairsOf (l.drop (2 * (k + 1) + 2))))
                rw [hq.out, HDR.out, HOK.out, ← HNK.out, ← HTW.out]
                simp only [pairsOf, okPairs, Bool.and_assoc]
    · obtain ⟨q0, q1, q2, q3, qf⟩ := cells4 ht0
      obtain ⟨p0, p1, p2, p3, pf⟩ := cells4 hr0
      have pf0 := pf 0
      have pf1 := pf 1
      have pf2 := pf 2
      have pf3 := pf 3
      obtain ⟨a1, cap1, rfl⟩ := own_slice hcv
      obtain ⟨a2, cap2, rfl⟩ := own_slice htv
      go_wp2
      have hF := setCell_heap (k := 3) (u := .slice none 0 0) (setCell_heap (k := 2) (u := .slice a2 ts.length cap2) (setCell_heap (k := 1) (u := .slice a1 ns.length cap1) (setCell_heap (k := 0) (u := .string ⟨(l[1]'(by omega)).toArray⟩) hr0)))
      obtain ⟨f0, f1, f2, f3, _⟩ := cells4 hF
      have hnd : l.drop (2 * k + 2) = [] := List.drop_eq_nil_of_le (by omega)
      have hz := hpz.out
      rw [hnd] at hz
      have hq2 := hq.out
      rw [hnd] at hq2
      have e1 : l.getD 1 [] = l[1]'(by omega) := by simp [List.getD, List.getElem?_eq_getElem (show 1 < l.length by omega)]
      have hl1 : (pairsOf (l.drop 2)).length = ns.length := by rw [hz]; simp [pairsOf, HNS.out, HTS.out]
      have hl2 : ns.length = ts.length := by rw [HNS.out, HTS.out]
      have hm1 : ((pairsOf (l.drop 2)).map fun x => strV x.1) = ns.map strV := by
        rw [hz, show (pairsOf []) = [] from rfl, List.append_nil]
        exact zip_fst (by rw [HNS.out, HTS.out])
      have hm2 : ((pairsOf (l.drop 2)).map fun x => strV x.2) = ts.map strV := by
        rw [hz, show (pairsOf []) = [] from rfl, List.append_nil]
        exact zip_snd (by rw [HNS.out, HTS.out])
      refine bodyPost_ret (v := .tuple #[.agg #[.string ⟨(l[1]'(by omega)).toArray⟩, .slice a1 ns.length cap1, .slice a2 ts.length cap2, .slice none 0 0], .bool okk]) (by simp [results, Tryz.results15, go_sem, f0, f1, f2, f3]) rfl ⟨.slice a1 ns.length cap1, .slice a2 ts.length cap2, ?_, ?_, ?_, ?_⟩
      · rw [e1, HNM.out, hq2]; simp [okPairs, strV, pairsOf]
      · rw [hl1, hm1]
        exact own_setCell (own_setCell (own_setCell (own_setCell hcv hr0 (by decide)) (setCell_heap hr0) (by decide)) (setCell_heap (setCell_heap hr0)) (by decide)) (setCell_heap (setCell_heap (setCell_heap hr0))) (by decide)
      · rw [hl1, hl2, hm2]
        exact own_setCell (own_setCell (own_setCell (own_setCell htv hr0 (by decide)) (setCell_heap hr0) (by decide)) (setCell_heap (setCell_heap hr0)) (by decide)) (setCell_heap (setCell_heap (setCell_heap hr0))) (by decide)
      · exact (((hB.setCell (p := ⟨W.heap.size, 0, none⟩) (Nat.le_refl _) _).setCell (p := ⟨W.heap.size, 1, none⟩) (Nat.le_refl _) _).setCell (p := ⟨W.heap.size, 2, none⟩) (Nat.le_refl _) _).setCell (p := ⟨W.heap.size, 3, none⟩) (Nat.le_refl _) _

set_option maxRecDepth 100000 in
set_option maxHeartbeats 400000 in
theorem ref_headed_bad (v : Value) (l : List Bg.Str) (W : World) (hll : l.length ≤ 90000) (hv : viewS W v l) (hh : headLen l.length = false) :
    Calls Tryz.prog 15 #[v] W fun e W' => e = .returned (.tuple #[.agg #[.string ⟨#[]⟩, .slice none 0 0, .slice none 0 0, .slice none 0 0], .bool false]) ∧ Below W.heap.size W W' := by
  have hh2 : ¬ (4 ≤ l.length ∧ l.length % 2 = 0 ∧ l.length ≤ 14) := of_decide_eq_false hh
  obtain ⟨a, cap, rfl, hc⟩ := hv
  clear hh hc
  by_cases h1 : l.length < 4
  · have d1 : decide ((l.length : Int) < 4) = true := by simp; omega
    clear hh2 h1
    go_enter Tryz.func15, Tryz.ntmps15
    go_wp2
    refine bodyPost_ret (v := .tuple #[.agg #[.string ⟨#[]⟩, .slice none 0 0, .slice none 0 0, .slice none 0 0], .bool false]) (by simp [results, Tryz.results15, go_sem]) rfl ⟨rfl, ?_⟩
    exact (Below.refl _ W).alloc (Nat.le_refl _) _
  · have d1 : decide ((l.length : Int) < 4) = false := by simp; omega
    by_cases h2 : l.length % 2 = 0
    · have d2 : ((l.length : Int).tmod 2 != 0) = false := by rw [Int.tmod_eq_emod_of_nonneg (by omega)]; simp; omega
      have e2 : (l.length : Int) % 2 = 0 := by omega
      have e3 : 14 < l.length := by omega
      have d3 : decide ((14 : Int) < (l.length : Int)) = true := by simp; omega
      clear hh2 h1 h2
      go_enter Tryz.func15, Tryz.ntmps15
      go_wp2
      refine bodyPost_ret (v := .tuple #[.agg #[.string ⟨#[]⟩, .slice none 0 0, .slice none 0 0, .slice none 0 0], .bool false]) (by simp [results, Tryz.results15, go_sem]) rfl ⟨rfl, ?_⟩
      exact (Below.refl _ W).alloc (Nat.le_refl _) _
    · have d2 : ((l.length : Int).tmod 2 != 0) = true := by rw [Int.tmod_eq_emod_of_nonneg (by omega)]; simp; omega
      have e2 : (l.length : Int) % 2 = 1 := by omega
      clear hh2 h1 h2
      go_enter Tryz.func15, Tryz.ntmps15
      go_wp2
      refine bodyPost_ret (v := .tuple #[.agg #[.string ⟨#[]⟩, .slice none 0 0, .slice none 0 0, .slice none 0 0], .bool false]) (by simp [results, Tryz.results15, go_sem]) rfl ⟨rfl, ?_⟩
      exact (Below.refl _ W).alloc (Nat.le_refl _) _
end Go.Proofs.YtfkdfplnhlnnoaaGreatDoor
