import Derived.Laws.MakeOwn
import Derived.Test.YtfkdfplnhlnnoaaGreatDoorBgCuJ
import Derived.Test.YtfkdfplnhlnnoaaGreatDoorBgJa42
section
namespace Go.Proofs.YtfkdfplnhlnnoaaGreatDoor
open Go.RowKit
namespace Gr
set_option linter.unusedSimpArgs false
set_option linter.unusedVariables false
open NT
theorem key_j {w : RW} (hw : Ok1 w) {y : Bg.Str × T} (hy : y ∈ keyToks) (ha : y.2 ≠ T.agg) : tok w = y.2 ↔ w.sort = kKey ∧ w.text = y.1 := by
  have h := keyB_tok hw hy ha
  constructor
  · intro e
    rw [e] at h
    simp only [decide_true] at h
    unfold keyB at h
    simpa using h
  · intro e
    have : keyB w y.1 = true := by unfold keyB; simp [e.1, e.2]
    rw [this] at h
    exact of_decide_eq_true h.symm
theorem sign_j {w : RW} (hw : Ok1 w) {y : Bg.Str × T} (hy : y ∈ signToks) (ha : y.2 ≠ T.cmp) : tok w = y.2 ↔ w.sort = kSign ∧ w.text = y.1 := by
  have h := signB_tok hw hy ha
  constructor
  · intro e
    rw [e] at h
    simp only [decide_true] at h
    unfold signB at h
    simpa using h
  · intro e
    have : signB w y.1 = true := by unfold signB; simp [e.1, e.2]
    rw [this] at h
    exact of_decide_eq_true h.symm
theorem add_is (u : T) : isAdd u = true ↔ u = T.plus ∨ u = T.minus := by cases u <;> simp [isAdd]
theorem mul_is (u : T) : isMul u = true ↔ u = T.star ∨ u = T.slash ∨ u = T.pct := by cases u <;> simp [isMul]
theorem or_j (w : RW) (hw : Ok1 w) : (fun u => u = T.or_) (tok w) ↔ w.sort = kKey ∧ w.text ∈ [[111, 114]] := by
  rw [List.mem_singleton]; exact key_j hw (y := ([111, 114], T.or_)) (by decide) (by decide)
theorem and_j (w : RW) (hw : Ok1 w) : (fun u => u = T.and_) (tok w) ↔ w.sort = kKey ∧ w.text ∈ [[97, 110, 100]] := by
  rw [List.mem_singleton]; exact key_j hw (y := ([97, 110, 100], T.and_)) (by decide) (by decide)
theorem add_j (w : RW) (hw : Ok1 w) : (fun u => isAdd u = true) (tok w) ↔ w.sort = kSign ∧ w.text ∈ [[43], [45]] := by
  have h1 := sign_j hw (y := ([43], T.plus)) (by decide) (by decide)
  have h2 := sign_j hw (y := ([45], T.minus)) (by decide) (by decide)
  show isAdd (tok w) = true ↔ _
  rw [add_is, h1, h2]
  simp only [List.mem_cons, List.not_mem_nil, or_false]
  exact and_or_left.symm
theorem mul_j (w : RW) (hw : Ok1 w) : (fun u => isMul u = true) (tok w) ↔ w.sort = kSign ∧ w.text ∈ [[42], [47], [37]] := by
  have h1 := sign_j hw (y := ([42], T.star)) (by decide) (by decide)
  have h2 := sign_j hw (y := ([47], T.slash)) (by decide) (by decide)
  have h3 := sign_j hw (y := ([37], T.pct)) (by decide) (by decide)
  show isMul (tok w) = true ↔ _
  rw [mul_is, h1, h2, h3]
  simp only [List.mem_cons, List.not_mem_nil, or_false]
  rw [and_or_left, and_or_left]
theorem texts1 (M : Nat) (W : World) (hM : M < W.heap.size) (a : Bg.Str) : Texts M W.heap.size (W.alloc (.cells #[.string ⟨a.toArray⟩] 9)) [a] := by
  refine ⟨by omega, fun k hk => ?_⟩
  have h3 := heap_alloc_new W (.cells #[.string ⟨a.toArray⟩] 9)
  rcases k with _ | k
  · exact (cells_at h3 0).trans rfl
  · simp only [List.length_cons, List.length_nil] at hk; omega
theorem texts2 (M : Nat) (W : World) (hM : M < W.heap.size) (a b : Bg.Str) : Texts M W.heap.size (W.alloc (.cells #[.string ⟨a.toArray⟩, .string ⟨b.toArray⟩] 9)) [a, b] := by
  refine ⟨by omega, fun k hk => ?_⟩
  have h3 := heap_alloc_new W (.cells #[.string ⟨a.toArray⟩, .string ⟨b.toArray⟩] 9)
  rcases k with _ | _ | k
  · exact (cells_at h3 0).trans rfl
  · exact (cells_at h3 1).trans rfl
  · simp only [List.length_cons, List.length_nil] at hk; omega
theorem texts3 (M : Nat) (W : World) (hM : M < W.heap.size) (a b c : Bg.Str) : Texts M W.heap.size (W.alloc (.cells #[.string ⟨a.toArray⟩, .string ⟨b.toArray⟩, .string ⟨c.toArray⟩] 9)) [a, b, c] := by
  refine ⟨by omega, fun k hk => ?_⟩
  have h3 := heap_alloc_new W (.cells #[.string ⟨a.toArray⟩, .string ⟨b.toArray⟩, .string ⟨c.toArray⟩] 9)
  rcases k with _ | _ | _ | k
  · exact (cells_at h3 0).trans rfl
  · exact (cells_at h3 1).trans rfl
  · exact (cells_at h3 2).trans rfl
  · simp only [List.length_cons, List.length_nil] at hk; omega
set_option maxRecDepth 10000 in
set_option maxHeartbeats 1000000 in
theorem look_query (C M N : Nat) (ws : List RW) (m : Nat) (hI : Is C M N ws m) (i j : Nat) (W : World) (h : Cut C M N ws W) (hi : i < j) (hj : j ≤ ws.length) (hm : (j - i) * 20 + 1 = m) :
    Calls Tryz.prog 63 #[.pointer (some ⟨C, 0, none⟩), .int .i64 0, .int .i64 i, .int .i64 j] W (Post C M N ws W (¬ G query (st (ws.map tok) i j)) (D query (sw ws i j))) := by
  have hlen := h.len
  have HL : Hid (j ≤ (ws.map tok).length) := by show j ≤ _; simpa using hj
  go_enter Tryz.func63, Tryz.ntmps63
  go_wp2_with fail
  refine (c_query C M N ws m hI i j _ h hi hj (by omega)).mono ?_
  rintro e w1 ⟨v1, rfl, hC1, hK1, hF1⟩
  go_wp2_with fail
  go_ret
  exact ⟨_, rfl, hC1, hK1, hF1⟩
set_option maxRecDepth 10000 in
set_option maxHeartbeats 1000000 in
theorem look_core (C M N : Nat) (ws : List RW) (m : Nat) (hI : Is C M N ws m) (i j : Nat) (W : World) (h : Cut C M N ws W) (hi : i < j) (hj : j ≤ ws.length) (hm : (j - i) * 20 + 0 = m) :
    Calls Tryz.prog 63 #[.pointer (some ⟨C, 0, none⟩), .int .i64 1, .int .i64 i, .int .i64 j] W (Post C M N ws W (¬ G core (st (ws.map tok) i j)) (D core (sw ws i j))) := by
  have hlen := h.len
  have HL : Hid (j ≤ (ws.map tok).length) := by show j ≤ _; simpa using hj
  go_enter Tryz.func63, Tryz.ntmps63
  go_wp2_with fail
  refine (c_core C M N ws m hI i j _ h hi hj (by omega)).mono ?_
  rintro e w1 ⟨v1, rfl, hC1, hK1, hF1⟩
  go_wp2_with fail
  go_ret
  exact ⟨_, rfl, hC1, hK1, hF1⟩
set_option maxRecDepth 10000 in
set_option maxHeartbeats 1000000 in
theorem look_tail (C M N : Nat) (ws : List RW) (m : Nat) (hI : Is C M N ws m) (i j : Nat) (W : World) (h : Cut C M N ws W) (hi : i < j) (hj : j ≤ ws.length) (hm : (j - i) * 20 + 2 = m) :
    Calls Tryz.prog 63 #[.pointer (some ⟨C, 0, none⟩), .int .i64 2, .int .i64 i, .int .i64 j] W (Post C M N ws W (¬ G tail (st (ws.map tok) i j)) (D tail (sw ws i j))) := by
  have hlen := h.len
  have HL : Hid (j ≤ (ws.map tok).length) := by show j ≤ _; simpa using hj
  go_enter Tryz.func63, Tryz.ntmps63
  go_wp2_with fail
  refine (c_tail_t C M N ws m hI i j _ h hi hj (by omega)).mono ?_
  rintro e w1 ⟨v1, rfl, hC1, hK1, hF1⟩
  go_wp2_with fail
  go_ret
  exact ⟨_, rfl, hC1, hK1, hF1⟩
set_option maxRecDepth 10000 in
set_option maxHeartbeats 1000000 in
theorem look_after (C M N : Nat) (ws : List RW) (m : Nat) (hI : Is C M N ws m) (i j : Nat) (W : World) (h : Cut C M N ws W) (hi : i < j) (hj : j ≤ ws.length) (hm : (j - i) * 20 + 4 = m) :
    Calls Tryz.prog 63 #[.pointer (some ⟨C, 0, none⟩), .int .i64 3, .int .i64 i, .int .i64 j] W (Post C M N ws W (¬ G after (st (ws.map tok) i j)) (D after (sw ws i j))) := by
  have hlen := h.len
  have HL : Hid (j ≤ (ws.map tok).length) := by show j ≤ _; simpa using hj
  go_enter Tryz.func63, Tryz.ntmps63
  go_wp2_with fail
  refine (c_tail_a C M N ws m hI i j _ h hi hj (by omega)).mono ?_
  rintro e w1 ⟨v1, rfl, hC1, hK1, hF1⟩
  go_wp2_with fail
  go_ret
  exact ⟨_, rfl, hC1, hK1, hF1⟩
set_option maxRecDepth 10000 in
set_option maxHeartbeats 1000000 in
theorem look_grouped (C M N : Nat) (ws : List RW) (m : Nat) (hI : Is C M N ws m) (i j : Nat) (W : World) (h : Cut C M N ws W) (hi : i < j) (hj : j ≤ ws.length) (hm : (j - i) * 20 + 2 = m) :
    Calls Tryz.prog 63 #[.pointer (some ⟨C, 0, none⟩), .int .i64 4, .int .i64 i, .int .i64 j] W (Post C M N ws W (¬ G grouped (st (ws.map tok) i j)) (D grouped (sw ws i j))) := by
  have hlen := h.len
  have HL : Hid (j ≤ (ws.map tok).length) := by show j ≤ _; simpa using hj
  go_enter Tryz.func63, Tryz.ntmps63
  go_wp2_with fail
  refine (c_tail_g C M N ws m hI i j _ h hi hj (by omega)).mono ?_
  rintro e w1 ⟨v1, rfl, hC1, hK1, hF1⟩
  go_wp2_with fail
  go_ret
  exact ⟨_, rfl, hC1, hK1, hF1⟩
set_option maxRecDepth 10000 in
set_option maxHeartbeats 1000000 in
theorem look_items (C M N : Nat) (ws : List RW) (m : Nat) (hI : Is C M N ws m) (i j : Nat) (W : World) (h : Cut C M N ws W) (hi : i < j) (hj : j ≤ ws.length) (hm : (j - i) * 20 + 5 = m) :
    Calls Tryz.prog 63 #[.pointer (some ⟨C, 0, none⟩), .int .i64 5, .int .i64 i, .int .i64 j] W (Post C M N ws W (¬ G items (st (ws.map tok) i j)) (D items (sw ws i j))) := by
  have hlen := h.len
  have HL : Hid (j ≤ (ws.map tok).length) := by show j ≤ _; simpa using hj
  go_enter Tryz.func63, Tryz.ntmps63
  go_wp2_with fail
  refine (c_row C M N ws m hI NT.item items rowItems i j _ h hi hj (by simp [rk]; omega)).mono ?_
  rintro e w1 ⟨v1, rfl, hC1, hK1, hF1⟩
  go_wp2_with fail
  go_ret
  exact ⟨_, rfl, hC1, hK1, hF1⟩
set_option maxRecDepth 10000 in
set_option maxHeartbeats 1000000 in
theorem look_item (C M N : Nat) (ws : List RW) (m : Nat) (hI : Is C M N ws m) (i j : Nat) (W : World) (h : Cut C M N ws W) (hi : i < j) (hj : j ≤ ws.length) (hm : (j - i) * 20 + 4 = m) :
    Calls Tryz.prog 63 #[.pointer (some ⟨C, 0, none⟩), .int .i64 6, .int .i64 i, .int .i64 j] W (Post C M N ws W (¬ G NT.item (st (ws.map tok) i j)) (D NT.item (sw ws i j))) := by
  have hlen := h.len
  have HL : Hid (j ≤ (ws.map tok).length) := by show j ≤ _; simpa using hj
  go_enter Tryz.func63, Tryz.ntmps63
  go_wp2_with fail
  refine (c_named C M N ws m hI i j _ h hi hj (by omega)).mono ?_
  rintro e w1 ⟨v1, rfl, hC1, hK1, hF1⟩
  go_wp2_with fail
  go_ret
  exact ⟨_, rfl, hC1, hK1, hF1⟩
set_option maxRecDepth 10000 in
set_option maxHeartbeats 1000000 in
theorem look_sources (C M N : Nat) (ws : List RW) (m : Nat) (hI : Is C M N ws m) (i j : Nat) (W : World) (h : Cut C M N ws W) (hi : i < j) (hj : j ≤ ws.length) (hm : (j - i) * 20 + 1 = m) :
    Calls Tryz.prog 63 #[.pointer (some ⟨C, 0, none⟩), .int .i64 7, .int .i64 i, .int .i64 j] W (Post C M N ws W (¬ G sources (st (ws.map tok) i j)) (D sources (sw ws i j))) := by
  have hlen := h.len
  have HL : Hid (j ≤ (ws.map tok).length) := by show j ≤ _; simpa using hj
  go_enter Tryz.func63, Tryz.ntmps63
  go_wp2_with fail
  refine (c_row C M N ws m hI source sources rowSources i j _ h hi hj (by simp [rk]; omega)).mono ?_
  rintro e w1 ⟨v1, rfl, hC1, hK1, hF1⟩
  go_wp2_with fail
  go_ret
  exact ⟨_, rfl, hC1, hK1, hF1⟩
set_option maxRecDepth 10000 in
set_option maxHeartbeats 1000000 in
theorem look_source (C M N : Nat) (ws : List RW) (m : Nat) (hI : Is C M N ws m) (i j : Nat) (W : World) (h : Cut C M N ws W) (hi : i < j) (hj : j ≤ ws.length) (hm : (j - i) * 20 + 0 = m) :
    Calls Tryz.prog 63 #[.pointer (some ⟨C, 0, none⟩), .int .i64 8, .int .i64 i, .int .i64 j] W (Post C M N ws W (¬ G source (st (ws.map tok) i j)) (D source (sw ws i j))) := by
  have hlen := h.len
  have HL : Hid (j ≤ (ws.map tok).length) := by show j ≤ _; simpa using hj
  go_enter Tryz.func63, Tryz.ntmps63
  go_wp2_with fail
  refine (c_source C M N ws i j _ h hi hj).mono ?_
  rintro e w1 ⟨v1, rfl, hC1, hK1, hF1⟩
  go_wp2_with fail
  go_ret
  exact ⟨_, rfl, hC1, hK1, hF1⟩
set_option maxRecDepth 10000 in
set_option maxHeartbeats 1000000 in
theorem look_columns (C M N : Nat) (ws : List RW) (m : Nat) (hI : Is C M N ws m) (i j : Nat) (W : World) (h : Cut C M N ws W) (hi : i < j) (hj : j ≤ ws.length) (hm : (j - i) * 20 + 1 = m) :
    Calls Tryz.prog 63 #[.pointer (some ⟨C, 0, none⟩), .int .i64 9, .int .i64 i, .int .i64 j] W (Post C M N ws W (¬ G columns (st (ws.map tok) i j)) (D columns (sw ws i j))) := by
  have hlen := h.len
  have HL : Hid (j ≤ (ws.map tok).length) := by show j ≤ _; simpa using hj
  go_enter Tryz.func63, Tryz.ntmps63
  go_wp2_with fail
  refine (c_row C M N ws m hI column columns rowColumns i j _ h hi hj (by simp [rk]; omega)).mono ?_
  rintro e w1 ⟨v1, rfl, hC1, hK1, hF1⟩
  go_wp2_with fail
  go_ret
  exact ⟨_, rfl, hC1, hK1, hF1⟩
set_option maxRecDepth 10000 in
set_option maxHeartbeats 1000000 in
theorem look_column (C M N : Nat) (ws : List RW) (m : Nat) (hI : Is C M N ws m) (i j : Nat) (W : World) (h : Cut C M N ws W) (hi : i < j) (hj : j ≤ ws.length) (hm : (j - i) * 20 + 0 = m) :
    Calls Tryz.prog 63 #[.pointer (some ⟨C, 0, none⟩), .int .i64 10, .int .i64 i, .int .i64 j] W (Post C M N ws W (¬ G column (st (ws.map tok) i j)) (D column (sw ws i j))) := by
  have hlen := h.len
  have HL : Hid (j ≤ (ws.map tok).length) := by show j ≤ _; simpa using hj
  go_enter Tryz.func63, Tryz.ntmps63
  go_wp2_with fail
  refine (c_column C M N ws i j _ h hi hj).mono ?_
  rintro e w1 ⟨v1, rfl, hC1, hK1, hF1⟩
  go_wp2_with fail
  go_ret
  exact ⟨_, rfl, hC1, hK1, hF1⟩
set_option maxRecDepth 10000 in
set_option maxHeartbeats 1000000 in
theorem look_cnd (C M N : Nat) (ws : List RW) (m : Nat) (hI : Is C M N ws m) (i j : Nat) (W : World) (h : Cut C M N ws W) (hi : i < j) (hj : j ≤ ws.length) (hm : (j - i) * 20 + 3 = m) :
    Calls Tryz.prog 63 #[.pointer (some ⟨C, 0, none⟩), .int .i64 11, .int .i64 i, .int .i64 j] W (Post C M N ws W (¬ G cnd (st (ws.map tok) i j)) (D cnd (sw ws i j))) := by
  have hlen := h.len
  have HL : Hid (j ≤ (ws.map tok).length) := by show j ≤ _; simpa using hj
  go_enter Tryz.func63, Tryz.ntmps63
  go_wp2_with fail
  refine (c_infix C M N ws m hI cnd conj (fun u => u = T.or_) kKey [[111, 114]] W.heap.size 1 i j _ (h.alloc _) (texts1 M W h.mlt [111, 114]) (by decide) hi hj (by simp [rk]; omega) inv_cnd or_j (fun a t h => .kConj h) (fun a u b x y h1 h2 h3 => .kOr h1 h2 h3)).mono ?_
  rintro e w1 ⟨v1, rfl, hC1, hK1, hF1⟩
  go_wp2_with fail
  go_ret
  exact ⟨_, rfl, hC1, (Keep.alloc M _ _).trans hK1, hF1⟩
set_option maxRecDepth 10000 in
set_option maxHeartbeats 1000000 in
theorem look_conj (C M N : Nat) (ws : List RW) (m : Nat) (hI : Is C M N ws m) (i j : Nat) (W : World) (h : Cut C M N ws W) (hi : i < j) (hj : j ≤ ws.length) (hm : (j - i) * 20 + 2 = m) :
    Calls Tryz.prog 63 #[.pointer (some ⟨C, 0, none⟩), .int .i64 12, .int .i64 i, .int .i64 j] W (Post C M N ws W (¬ G conj (st (ws.map tok) i j)) (D conj (sw ws i j))) := by
  have hlen := h.len
  have HL : Hid (j ≤ (ws.map tok).length) := by show j ≤ _; simpa using hj
  go_enter Tryz.func63, Tryz.ntmps63
  go_wp2_with fail
  refine (c_infix C M N ws m hI conj neg (fun u => u = T.and_) kKey [[97, 110, 100]] W.heap.size 1 i j _ (h.alloc _) (texts1 M W h.mlt [97, 110, 100]) (by decide) hi hj (by simp [rk]; omega) inv_conj and_j (fun a t h => .jNeg h) (fun a u b x y h1 h2 h3 => .jAnd h1 h2 h3)).mono ?_
  rintro e w1 ⟨v1, rfl, hC1, hK1, hF1⟩
  go_wp2_with fail
  go_ret
  exact ⟨_, rfl, hC1, (Keep.alloc M _ _).trans hK1, hF1⟩
set_option maxRecDepth 10000 in
set_option maxHeartbeats 1000000 in
theorem look_neg (C M N : Nat) (ws : List RW) (m : Nat) (hI : Is C M N ws m) (i j : Nat) (W : World) (h : Cut C M N ws W) (hi : i < j) (hj : j ≤ ws.length) (hm : (j - i) * 20 + 1 = m) :
    Calls Tryz.prog 63 #[.pointer (some ⟨C, 0, none⟩), .int .i64 13, .int .i64 i, .int .i64 j] W (Post C M N ws W (¬ G neg (st (ws.map tok) i j)) (D neg (sw ws i j))) := by
  have hlen := h.len
  have HL : Hid (j ≤ (ws.map tok).length) := by show j ≤ _; simpa using hj
  go_enter Tryz.func63, Tryz.ntmps63
  go_wp2_with fail
  refine (c_key C M N ws (i : Int) _ _ h (by omega) (by omega)).mono ?_
  rintro e w' ⟨rfl, rfl⟩
  cases hn : keyAt ws (i : Int) [110, 111, 116] with
  | true =>
    have HY := (key_at h.ok ([110, 111, 116], T.not_) (by decide) (by decide) i).1 hn
    clear hn
    go_wp2_with fail
    refine (hI neg (i + 1) j _ h (by omega) (by omega) (by omega) (by simp [rk]; omega)).mono ?_
    rintro e w3 ⟨v3, rfl, hC3, hK3, hF3⟩
    rw [Int.toNat_natCast] at hF3
    rcases hF3 with ⟨rfl, hn3⟩ | ⟨b3, t3, rfl, hb3, hp3, hd3⟩
    · have HN : Hid (¬ G neg (st (ws.map tok) i j)) := fun hg => by
        rcases (inv_neg _).1 hg with ⟨a, e, ha⟩ | ⟨hx, _⟩
        · obtain ⟨_, _, e2⟩ := st_head HL.out e
          exact hn3 (by rw [e2]; exact ha)
        · rw [List.getElem?_eq_getElem (by have := HL.out; omega)] at HY
          exact hx (st (ws.map tok) (i + 1) j) (by rw [st_cons _ hi HL.out, Option.some.inj HY])
      clear hn3
      go_wp2_with fail
      go_ret
      exact ⟨_, rfl, hC3, hK3, .inl ⟨rfl, HN.out⟩⟩
    · go_wp2_with fail
      go_ret
      refine ⟨_, rfl, (hC3.alloc _).alloc _, (hK3.trans (Keep.alloc M _ _)).trans (Keep.alloc M _ _), .inr ⟨_, _, rfl, ?_, mk_nd1 hC3.mlt hC3.nlt { kind := [110, 111, 116] } hp3, ?_⟩⟩
      · have := hC3.nlt; simp; omega
      · obtain ⟨_, t0⟩ := tok_get HY
        rw [sw_cons ws hi hj]
        exact .nNot t0 hd3
  | false =>
    have HN0 : Hid ((ws.map tok)[i]? ≠ some T.not_) := key_no h.ok ([110, 111, 116], T.not_) (by decide) (by decide) hn
    clear hn
    go_wp2_with fail
    refine (hI basic i j _ h (by omega) (by omega) (by omega) (by simp [rk]; omega)).mono ?_
    rintro e w3 ⟨v3, rfl, hC3, hK3, hF3⟩
    rw [Int.toNat_natCast] at hF3
    go_wp2_with fail
    go_ret
    refine ⟨_, rfl, hC3, hK3, ?_⟩
    rcases hF3 with ⟨e, hn3⟩ | ⟨b3, t3, e, hb3, hp3, hd3⟩
    · refine .inl ⟨e, fun hg => ?_⟩
      rcases (inv_neg _).1 hg with ⟨a, e, ha⟩ | ⟨_, hb⟩
      · exact HN0.out (st_head HL.out e).2.1
      · exact hn3 hb
    · exact .inr ⟨b3, t3, e, hb3, hp3, .nBasic hd3⟩
set_option maxRecDepth 10000 in
set_option maxHeartbeats 1000000 in
theorem look_basic (C M N : Nat) (ws : List RW) (m : Nat) (hI : Is C M N ws m) (i j : Nat) (W : World) (h : Cut C M N ws W) (hi : i < j) (hj : j ≤ ws.length) (hm : (j - i) * 20 + 0 = m) :
    Calls Tryz.prog 63 #[.pointer (some ⟨C, 0, none⟩), .int .i64 14, .int .i64 i, .int .i64 j] W (Post C M N ws W (¬ G basic (st (ws.map tok) i j)) (D basic (sw ws i j))) := by
  have hlen := h.len
  have HL : Hid (j ≤ (ws.map tok).length) := by show j ≤ _; simpa using hj
  go_enter Tryz.func63, Tryz.ntmps63
  go_wp2_with fail
  refine (c_basic C M N ws m hI i j _ h hi hj (by omega)).mono ?_
  rintro e w1 ⟨v1, rfl, hC1, hK1, hF1⟩
  go_wp2_with fail
  go_ret
  exact ⟨_, rfl, hC1, hK1, hF1⟩
set_option maxRecDepth 10000 in
set_option maxHeartbeats 1000000 in
theorem look_expr (C M N : Nat) (ws : List RW) (m : Nat) (hI : Is C M N ws m) (i j : Nat) (W : World) (h : Cut C M N ws W) (hi : i < j) (hj : j ≤ ws.length) (hm : (j - i) * 20 + 3 = m) :
    Calls Tryz.prog 63 #[.pointer (some ⟨C, 0, none⟩), .int .i64 15, .int .i64 i, .int .i64 j] W (Post C M N ws W (¬ G expr (st (ws.map tok) i j)) (D expr (sw ws i j))) := by
  have hlen := h.len
  have HL : Hid (j ≤ (ws.map tok).length) := by show j ≤ _; simpa using hj
  go_enter Tryz.func63, Tryz.ntmps63
  go_wp2_with fail
  refine (c_infix C M N ws m hI expr term (fun u => isAdd u = true) kSign [[43], [45]] W.heap.size 2 i j _ (h.alloc _) (texts2 M W h.mlt [43] [45]) (by decide) hi hj (by simp [rk]; omega) inv_expr add_j (fun a t h => .eTerm h) (fun a u b x y h1 h2 h3 => .eMore h1 h2 h3)).mono ?_
  rintro e w1 ⟨v1, rfl, hC1, hK1, hF1⟩
  go_wp2_with fail
  go_ret
  exact ⟨_, rfl, hC1, (Keep.alloc M _ _).trans hK1, hF1⟩
set_option maxRecDepth 10000 in
set_option maxHeartbeats 1000000 in
theorem look_term (C M N : Nat) (ws : List RW) (m : Nat) (hI : Is C M N ws m) (i j : Nat) (W : World) (h : Cut C M N ws W) (hi : i < j) (hj : j ≤ ws.length) (hm : (j - i) * 20 + 2 = m) :
    Calls Tryz.prog 63 #[.pointer (some ⟨C, 0, none⟩), .int .i64 16, .int .i64 i, .int .i64 j] W (Post C M N ws W (¬ G term (st (ws.map tok) i j)) (D term (sw ws i j))) := by
  have hlen := h.len
  have HL : Hid (j ≤ (ws.map tok).length) := by show j ≤ _; simpa using hj
  go_enter Tryz.func63, Tryz.ntmps63
  go_wp2_with fail
  refine (c_infix C M N ws m hI term factor (fun u => isMul u = true) kSign [[42], [47], [37]] W.heap.size 3 i j _ (h.alloc _) (texts3 M W h.mlt [42] [47] [37]) (by decide) hi hj (by simp [rk]; omega) inv_term mul_j (fun a t h => .mFac h) (fun a u b x y h1 h2 h3 => .mMore h1 h2 h3)).mono ?_
  rintro e w1 ⟨v1, rfl, hC1, hK1, hF1⟩
  go_wp2_with fail
  go_ret
  exact ⟨_, rfl, hC1, (Keep.alloc M _ _).trans hK1, hF1⟩
set_option maxRecDepth 10000 in
set_option maxHeartbeats 1000000 in
theorem look_factor (C M N : Nat) (ws : List RW) (m : Nat) (hI : Is C M N ws m) (i j : Nat) (W : World) (h : Cut C M N ws W) (hi : i < j) (hj : j ≤ ws.length) (hm : (j - i) * 20 + 1 = m) :
    Calls Tryz.prog 63 #[.pointer (some ⟨C, 0, none⟩), .int .i64 17, .int .i64 i, .int .i64 j] W (Post C M N ws W (¬ G factor (st (ws.map tok) i j)) (D factor (sw ws i j))) := by
  have hlen := h.len
  have HL : Hid (j ≤ (ws.map tok).length) := by show j ≤ _; simpa using hj
  go_enter Tryz.func63, Tryz.ntmps63
  go_wp2_with fail
  refine (c_factor C M N ws m hI i j _ h hi hj (by omega)).mono ?_
  rintro e w1 ⟨v1, rfl, hC1, hK1, hF1⟩
  go_wp2_with fail
  go_ret
  exact ⟨_, rfl, hC1, hK1, hF1⟩
theorem c_look (C M N : Nat) (ws : List RW) (m : Nat) (hI : Is C M N ws m) (k : NT) (i j : Nat) (W : World) (h : Cut C M N ws W) (hi : i < j) (hj : j ≤ ws.length) (hm : (j - i) * 20 + rk k = m) :
    Calls Tryz.prog 63 #[.pointer (some ⟨C, 0, none⟩), .int .i64 (num k), .int .i64 i, .int .i64 j] W (Post C M N ws W (¬ G k (st (ws.map tok) i j)) (D k (sw ws i j))) := by
  cases k
  · exact look_query C M N ws m hI i j W h hi hj hm
  · exact look_core C M N ws m hI i j W h hi hj hm
  · exact look_tail C M N ws m hI i j W h hi hj hm
  · exact look_after C M N ws m hI i j W h hi hj hm
  · exact look_grouped C M N ws m hI i j W h hi hj hm
  · exact look_items C M N ws m hI i j W h hi hj hm
  · exact look_item C M N ws m hI i j W h hi hj hm
  · exact look_sources C M N ws m hI i j W h hi hj hm
  · exact look_source C M N ws m hI i j W h hi hj hm
  · exact look_columns C M N ws m hI i j W h hi hj hm
  · exact look_column C M N ws m hI i j W h hi hj hm
  · exact look_cnd C M N ws m hI i j W h hi hj hm
  · exact look_conj C M N ws m hI i j W h hi hj hm
  · exact look_neg C M N ws m hI i j W h hi hj hm
  · exact look_basic C M N ws m hI i j W h hi hj hm
  · exact look_expr C M N ws m hI i j W h hi hj hm
  · exact look_term C M N ws m hI i j W h hi hj hm
  · exact look_factor C M N ws m hI i j W h hi hj hm
/-- every call of is -/
theorem is_all (C M N : Nat) (ws : List RW) : ∀ m, Is C M N ws m := by
  intro m
  induction m with
  | zero => intro k i j W h _ _ _ hm; omega
  | succ m ih =>
    intro k i j W h hi hj0 hj hm
    by_cases hlt : (j.toNat - i) * 20 + rk k < m
    · exact ih k i j W h hi hj0 hj hlt
    · refine c_is C M N ws k i j W h hi hj0 hj (fun hij W' h' => ?_)
      obtain ⟨j', rfl⟩ : ∃ j' : Nat, j = j' := ⟨j.toNat, by omega⟩
      rw [Int.toNat_natCast] at hm hlt ⊢
      exact c_look C M N ws m ih k i j' W' h' (by omega) (by omega) (by omega)
end Gr
end Go.Proofs.YtfkdfplnhlnnoaaGreatDoor
end
section
namespace Go.Proofs.YtfkdfplnhlnnoaaGreatDoor
open Go.RowKit
namespace Gr
set_option linter.unusedSimpArgs false
set_option linter.unusedVariables false
open NT
theorem made_get (n k : Nat) (h : k < n) : (madeCells #[.pointer none] n)[k]? = some (.pointer none) := by
  unfold madeCells
  simp [h, Nat.mod_one]
theorem heap3 (W : World) (o0 o1 o2 : Obj) : (((W.alloc o0).alloc o1).alloc o2).heap[W.heap.size]? = some o0 ∧ (((W.alloc o0).alloc o1).alloc o2).heap[W.heap.size + 1]? = some o1 ∧ (((W.alloc o0).alloc o1).alloc o2).heap[W.heap.size + 2]? = some o2 := by
  have e1 : (W.alloc o0).heap.size = W.heap.size + 1 := by simp
  have e2 : ((W.alloc o0).alloc o1).heap.size = W.heap.size + 2 := by simp
  have h0 := heap_alloc_new W o0
  have h1 := heap_alloc_new (W.alloc o0) o1
  have h2 := heap_alloc_new ((W.alloc o0).alloc o1) o2
  rw [e1] at h1
  rw [e2] at h2
  have k1 := Keep.alloc (W.heap.size + 5) (W.alloc o0) o1
  have k2 := Keep.alloc (W.heap.size + 5) ((W.alloc o0).alloc o1) o2
  exact ⟨k2.obj (by omega) (k1.obj (by omega) h0), k2.obj (by omega) h1, h2⟩
theorem below3 (W : World) (o0 o1 o2 : Obj) : Below W.heap.size W (((W.alloc o0).alloc o1).alloc o2) :=
  (((Below.refl _ W).alloc (Nat.le_refl _) o0).alloc (by simp) o1).alloc (by simp; omega) o2
theorem st_all (w : List T) : st w 0 w.length = w := by unfold st; simp
theorem sw_all (w : List RW) : sw w 0 w.length = w := by unfold sw; simp
theorem cut_start (ws : List RW) (wa : Option Addr) (cap L : Nat) (W : World) (hw : WordsAt W wa ws) (hok : ∀ w ∈ ws, Ok1 w) (hlen : ws.length ≤ 400) (hL : 18 * (ws.length + 1) * (ws.length + 1) = L) (cs : Array Value) :
    Cut (W.heap.size + 2) (W.heap.size + 1) W.heap.size ws (((W.alloc (.cells cs NTree)).alloc (.cells (madeCells #[.pointer none] L) 30)).alloc (.cells #[.slice wa ws.length cap, .int .i64 ws.length, .slice (some ⟨W.heap.size + 1, 0, none⟩) L L, .pointer (some ⟨W.heap.size, 0, none⟩)] 99)) := by
  obtain ⟨g0, g1, g2⟩ := heap3 W (.cells cs NTree) (.cells (madeCells #[.pointer none] L) 30) (.cells #[.slice wa ws.length cap, .int .i64 ws.length, .slice (some ⟨W.heap.size + 1, 0, none⟩) L L, .pointer (some ⟨W.heap.size, 0, none⟩)] 99)
  have hB := below3 W (.cells cs NTree) (.cells (madeCells #[.pointer none] L) 30) (.cells #[.slice wa ws.length cap, .int .i64 ws.length, .slice (some ⟨W.heap.size + 1, 0, none⟩) L L, .pointer (some ⟨W.heap.size, 0, none⟩)] 99)
  generalize ((W.alloc (.cells cs NTree)).alloc (.cells (madeCells #[.pointer none] L) 30)).alloc (.cells #[.slice wa ws.length cap, .int .i64 ws.length, .slice (some ⟨W.heap.size + 1, 0, none⟩) L L, .pointer (some ⟨W.heap.size, 0, none⟩)] 99) = W3 at g0 g1 g2 hB ⊢
  refine ⟨hlen, hok, by omega, by omega, ⟨_, g0⟩, ⟨wa, cap, L, by rw [hL]; exact g2, fun i hi => ?_⟩, fun k i j hi hj => ⟨.pointer none, ?_, .inl rfl⟩, fun o => by simp [World.frozen?, g1]⟩
  · obtain ⟨g, e, c1, c2, c3⟩ := hw i hi
    have hg : g < W.heap.size := World.block_lt_of_cell? _ _ c1
    exact ⟨g, e, by omega, (hB.cell (p := ⟨g, _, none⟩) hg).trans c1, (hB.cell (p := ⟨g, _, none⟩) hg).trans c2, (hB.cell (p := ⟨g, _, none⟩) hg).trans c3⟩
  · have hsp := spot_lt (n := ws.length) (i := i) (j := j) k hi hj
    rw [hL] at hsp
    simp only [World.cell?, g1]
    exact made_get L _ hsp
set_option maxRecDepth 10000 in
set_option maxHeartbeats 1000000 in
theorem ref_Cut (ws : List RW) (wa : Option Addr) (cap : Nat) (W : World) (hw : WordsAt W wa ws) (hok : ∀ w ∈ ws, Ok1 w) (hlen : ws.length ≤ 400) :
    Calls Tryz.prog 20 #[.slice wa ws.length cap] W fun e w' => ∃ v M N, e = .returned v ∧ Below W.heap.size W w' ∧ Ans M N w' v (¬ G query (ws.map tok)) (D query ws) := by
  obtain ⟨i0, hi0, hz0, hz1, hz2⟩ := info_parts Tryz.infoPtr
  have hL1 : 18 * (ws.length + 1) * (ws.length + 1) ≤ 18 * 401 * 401 := Nat.mul_le_mul (by omega) (by omega)
  have hwr : wrap64 (18 * ((ws.length : Int) + 1) * ((ws.length : Int) + 1)) = ((18 * (ws.length + 1) * (ws.length + 1) : Nat) : Int) := by
    have e : 18 * ((ws.length : Int) + 1) * ((ws.length : Int) + 1) = ((18 * (ws.length + 1) * (ws.length + 1) : Nat) : Int) := by simp
    rw [e]; unfold wrap64; omega
  generalize hLe : 18 * (ws.length + 1) * (ws.length + 1) = L at hL1 hwr
  have HLE : Hid (18 * (ws.length + 1) * (ws.length + 1) = L) := hLe
  clear hLe
  have hmake : ∀ w : World, (Instr.makeSlice 62 (.int .i64 (L : Int)) (.int .i64 (L : Int))).run Tryz.prog w = .ok (.slice (some ⟨w.heap.size, 0, none⟩) L L) (w.alloc (.cells (madeCells #[.pointer none] L) 30)) := fun w => by
    have := run_make (P := Tryz.prog) w 62 30 i0 (.pointer none) Tryz.underlying62 hi0 hz0 .i64 .i64 (L : Int) (L : Int) (by omega) (Int.le_refl _) (by rw [hz2]; omega) (by omega)
    rw [hz1] at this
    rw [show (Value.pointer none).cells = #[.pointer none] from rfl] at this
    simpa using this
  have HW : Hid (WordsAt W wa ws) := hw
  clear hw
  go_enter Tryz.func20, Tryz.ntmps20
  go_wp2_with fail
  have hC := cut_start ws wa cap L W HW.out hok hlen HLE.out (cellsT {} (.slice none 0 0) (.slice none 0 0) (.slice none 0 0) (.slice none 0 0) (.pointer none) (.pointer none))
  have hB := below3 W (.cells (cellsT {} (.slice none 0 0) (.slice none 0 0) (.slice none 0 0) (.slice none 0 0) (.pointer none) (.pointer none)) NTree) (.cells (madeCells #[.pointer none] L) 30) (.cells #[.slice wa ws.length cap, .int .i64 ws.length, .slice (some ⟨W.heap.size + 1, 0, none⟩) L L, .pointer (some ⟨W.heap.size, 0, none⟩)] 99)
  refine (is_all (W.heap.size + 2) (W.heap.size + 1) W.heap.size ws (ws.length * 20 + 2) query 0 (ws.length : Int) _ hC (by omega) (by omega) (by omega) (by simp [rk])).mono ?_
  rintro e w1 ⟨v1, rfl, hC1, hK1, hF1⟩
  go_wp2_with fail
  go_ret
  rw [Int.toNat_natCast, sw_all] at hF1
  rw [show st (ws.map tok) 0 ws.length = ws.map tok from by have := st_all (ws.map tok); rwa [List.length_map] at this] at hF1
  refine ⟨_, _, _, rfl, ⟨hK1.os.trans hB.os, hK1.tape.trans hB.tape, hK1.output.trans hB.output, Nat.le_trans hB.size hK1.size, fun g hg => ?_⟩, hF1⟩
  exact (hK1.block g (by omega) (Nat.lt_of_lt_of_le hg hB.size)).trans (hB.block g hg)
end Gr
end Go.Proofs.YtfkdfplnhlnnoaaGreatDoor
end
section
namespace Go.Proofs.YtfkdfplnhlnnoaaGreatDoor
open Go.RowKit
namespace Gr
set_option linter.unusedSimpArgs false
set_option linter.unusedVariables false
open NT
theorem wcells_get : ∀ (l : List RW) (i : Nat) (h : i < l.length), (wcells l)[i * 3]? = some (.string ⟨l[i].sort.toArray⟩) ∧ (wcells l)[i * 3 + 1]? = some (.string ⟨l[i].text.toArray⟩) ∧ (wcells l)[i * 3 + 2]? = some (.int .i64 l[i].num)
  | w :: l, 0, h => by simp [wcells, wcell]
  | w :: l, i + 1, h => by
    have ih := wcells_get l i (by simpa using h)
    have e : ∀ j, (wcells (w :: l))[j + 3]? = (wcells l)[j]? := fun j => by simp [wcells, wcell]
    rw [show (i + 1) * 3 = i * 3 + 3 from by omega, show i * 3 + 3 + 1 = i * 3 + 1 + 3 from by omega, show i * 3 + 3 + 2 = i * 3 + 2 + 3 from by omega, e, e, e]
    simpa using ih
theorem own_words {W : World} {B : Nat} {v : Value} {l : List RW} (h : W.ownsRow B 94 3 v l.length (wcells l)) : ∃ a cap, v = .slice a l.length cap ∧ WordsAt W a l := by
  rcases h.2 with ⟨rfl, h0⟩ | ⟨g, cap, cur, rfl, _⟩
  · exact ⟨none, 0, by rw [h0], fun i hi => by omega⟩
  · refine ⟨_, cap, rfl, fun i hi => ⟨g, rfl, ?_⟩⟩
    obtain ⟨e1, e2, e3⟩ := wcells_get l i hi
    have h1 := h.cells (g := g) rfl _ _ e1
    have h2 := h.cells (g := g) rfl _ _ e2
    have h3 := h.cells (g := g) rfl _ _ e3
    rw [Addr.add_lit, Nat.zero_add] at h1 h2 h3
    exact ⟨h1, h2, h3⟩
/-- what Read answers: nothing and the error and its place; or the query's tree -/
def ReadIs (W : World) : Except Nat (List RW) → Value → Int → Int → Prop
  | .error n, v, k, a => v = .pointer none ∧ k = 2 ∧ a = n
  | .ok l, v, k, a => (¬ G query (l.map tok) ∧ v = .pointer none ∧ k = 3 ∧ a = 0) ∨ (G query (l.map tok) ∧ deep l = true ∧ v = .pointer none ∧ k = 4 ∧ a = 0) ∨ (G query (l.map tok) ∧ deep l = false ∧ k = 0 ∧ a = 0 ∧ ∃ M N b t, v = .pointer (some ⟨b, 0, none⟩) ∧ PtrAt M N W t v ∧ D query l t)
theorem WordsAt.below {W W' : World} {a : Option Addr} {l : List RW} (h : WordsAt W a l) (hB : Below W.heap.size W W') : WordsAt W' a l := fun i hi => by
  obtain ⟨g, e, c1, c2, c3⟩ := h i hi
  have hg : g < W.heap.size := World.block_lt_of_cell? _ _ c1
  exact ⟨g, e, (hB.cell (p := ⟨g, _, none⟩) hg).trans c1, (hB.cell (p := ⟨g, _, none⟩) hg).trans c2, (hB.cell (p := ⟨g, _, none⟩) hg).trans c3⟩
set_option maxRecDepth 10000 in
set_option maxHeartbeats 1000000 in
theorem ref_Read (s : Bg.Str) (W : World) (hs : s.length ≤ 90000) :
    Calls Tryz.prog 9 #[.string ⟨s.toArray⟩] W fun e w' => ∃ v k a, e = .returned (.tuple #[v, .int .i64 k, .int .i64 a]) ∧ Below W.heap.size W w' ∧ ReadIs w' (rWords s) v k a := by
  have HOK : Hid (∀ l, rWords s = .ok l → (∀ w ∈ l, Ok1 w) ∧ l.length ≤ 400) := fun l h => by
    obtain ⟨h1, h2, h3⟩ := rWords_ok h; exact ⟨h1, by omega⟩
  have hW := fun w => ref_Words s w hs
  generalize rWords s = R at HOK hW ⊢
  go_enter Tryz.func9, Tryz.ntmps9
  go_wp2_with fail
  refine (hW _).mono ?_
  cases R with
  | error n =>
    rintro e w1 ⟨rfl, hB1⟩
    go_wp2_with fail
    refine bodyPost_ret (v := .tuple #[.pointer none, .int .i64 2, .int .i64 n]) (by simp [results, Tryz.results9, go_sem]) rfl ⟨_, _, _, rfl, hB1, rfl, rfl, rfl⟩
  | ok l =>
    rintro e w1 ⟨v, rfl, hown, hB1⟩
    obtain ⟨hok, hlen⟩ := HOK.out l rfl
    obtain ⟨a, cap, rfl, hWA⟩ := own_words hown
    go_wp2_with fail
    refine (ref_Cut l a cap _ hWA hok hlen).mono ?_
    rintro e w2 ⟨v2, M, N, rfl, hB2, hA2⟩
    have hB12 := hB1.trans (hB2.mono hB1.size)
    rcases hA2 with ⟨rfl, hno⟩ | ⟨b, t, rfl, hb, hp, hd⟩
    · have HN : Hid (¬ G query (l.map tok)) := hno
      clear hno
      go_wp2_with fail
      refine bodyPost_ret (v := .tuple #[.pointer none, .int .i64 3, .int .i64 0]) (by simp [results, Tryz.results9, go_sem]) rfl ⟨_, _, _, rfl, hB12, .inl ⟨HN.out, rfl, rfl, rfl⟩⟩
    · have hWA2 := hWA.below hB2
      go_wp2_with fail
      refine (ref_Deep l a cap _ hWA2 hlen).mono ?_
      rintro e w3 ⟨rfl, rfl⟩
      cases hdp : deep l with
      | true =>
        go_wp2_with fail
        refine bodyPost_ret (v := .tuple #[.pointer none, .int .i64 4, .int .i64 0]) (by simp [results, Tryz.results9, go_sem]) rfl ⟨_, _, _, rfl, hB12, .inr (.inl ⟨hd.g, hdp, rfl, rfl, rfl⟩)⟩
      | false =>
        go_wp2_with fail
        refine bodyPost_ret (v := .tuple #[.pointer (some ⟨b, 0, none⟩), .int .i64 0, .int .i64 0]) (by simp [results, Tryz.results9, go_sem]) rfl ⟨_, _, _, rfl, hB12, .inr (.inr ⟨hd.g, hdp, rfl, rfl, M, N, b, t, rfl, hp, hd⟩)⟩
end Gr
end Go.Proofs.YtfkdfplnhlnnoaaGreatDoor
end
