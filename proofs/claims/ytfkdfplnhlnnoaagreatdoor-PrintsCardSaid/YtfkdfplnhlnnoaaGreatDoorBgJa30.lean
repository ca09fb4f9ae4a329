import Derived.Test.YtfkdfplnhlnnoaaGreatDoorBgJa29
section
namespace Go.Proofs.YtfkdfplnhlnnoaaGreatDoor
open Go.RowKit
namespace Gr
set_option linter.unusedSimpArgs false
set_option linter.unusedVariables false
theorem dig_one : ∀ n, n < 10 → (Bg.digits.drop n).take 1 = [UInt8.ofNat (48 + n)] := by decide
theorem decN_small {n : Nat} (h : n < 10) : decN n = [UInt8.ofNat (48 + n)] := by rw [decN, if_pos h]
theorem decN_big {n : Nat} (h : ¬ n < 10) : decN n = decN (n / 10) ++ [UInt8.ofNat (48 + n % 10)] := by rw [decN, if_neg h]
theorem decN_len (k : Nat) : ∀ n, n < 10 ^ (k + 1) → (decN n).length ≤ k + 1 := by
  induction k with
  | zero => intro n h; rw [decN_small (by simpa using h)]; simp
  | succ k ih =>
    intro n h
    by_cases h1 : n < 10
    · rw [decN_small h1]; simp
    · rw [decN_big h1, List.length_append]
      have := ih (n / 10) (by rw [Nat.div_lt_iff_lt_mul (by omega)]; rw [Nat.pow_succ] at h; exact h)
      simp; omega
set_option maxRecDepth 10000 in
set_option maxHeartbeats 1000000 in
theorem ref_decN (m : Nat) : ∀ (n : Nat) (w : World), n < m → n < 9223372036854775808 →
    Calls Tryz.prog 23 #[.int .i64 n] w fun e w' => e = .returned (.string ⟨(decN n).toArray⟩) ∧ w = w' := by
  induction m with
  | zero => intro n w h; omega
  | succ m ih =>
    intro n w hn hb
    have hex := Bg.ext_mk
    by_cases h1 : n < 10
    · have HD : Hid (decN n = (Bg.digits.drop n).take 1) := by show _ = _; rw [decN_small h1, dig_one n h1]
      go_enter Tryz.func23, Tryz.ntmps23
      go_wp2_with fail
      go_ret
      exact ⟨by rw [HD.out]; rfl, rfl⟩
    · have HD : Hid (decN n = decN (n / 10) ++ (Bg.digits.drop (n % 10)).take 1) := by
        show _ = _
        rw [decN_big h1, dig_one _ (Nat.mod_lt _ (by omega))]
      have happ := Bg.app_mk
      have hlen := decN_len 19 (n / 10) (by rw [show (10 : Nat) ^ (19 + 1) = 100000000000000000000 from rfl]; omega)
      have hm10 : n % 10 < 10 := Nat.mod_lt _ (by omega)
      go_enter Tryz.func23, Tryz.ntmps23
      go_wp2_with fail
      rw [show (n : Int) / 10 = ((n / 10 : Nat) : Int) from by omega]
      refine (ih (n / 10) _ (by omega) (by omega)).mono ?_
      rintro e w' ⟨rfl, rfl⟩
      generalize hq : decN (n / 10) = q at HD hlen ⊢
      clear hq
      go_wp2_with fail
      go_ret
      exact ⟨by rw [HD.out]; rfl, rfl⟩
set_option maxRecDepth 10000 in
set_option maxHeartbeats 1000000 in
theorem ref_decimal (n : Int) (w : World) (h1 : -9223372036854775808 ≤ n) (h2 : n ≤ 9223372036854775807) :
    Calls Tryz.prog 23 #[.int .i64 n] w fun e w' => e = .returned (.string ⟨(dec n).toArray⟩) ∧ w = w' := by
  by_cases hn : n < 0
  · have HD : Hid (dec n = 45 :: decN n.natAbs) := by show _ = _; unfold dec; rw [if_pos hn]
    by_cases hm : n = -9223372036854775808
    · subst hm
      have HX : Hid (dec (-9223372036854775808) = [45, 57, 50, 50, 51, 51, 55, 50, 48, 51, 54, 56, 53, 52, 55, 55, 53, 56, 48, 56]) := by show _ = _; decide +kernel
      go_enter Tryz.func23, Tryz.ntmps23
      go_wp2_with fail
      go_ret
      exact ⟨by rw [HX.out]; rfl, rfl⟩
    · have happ := Bg.app_mk
      have hlen := decN_len 19 n.natAbs (by rw [show (10 : Nat) ^ (19 + 1) = 100000000000000000000 from rfl]; omega)
      have hm' : (n == -9223372036854775808) = false := by simpa using hm
      have hneg : IntKind.i64.wrap (-n) = -n := by rw [IntKind.wrap_i64]; omega
      go_enter Tryz.func23, Tryz.ntmps23
      go_wp2_with fail
      rw [show -n = ((n.natAbs : Nat) : Int) from by omega]
      refine (ref_decN (n.natAbs + 1) n.natAbs _ (by omega) (by omega)).mono ?_
      rintro e w' ⟨rfl, rfl⟩
      generalize decN n.natAbs = q at HD hlen ⊢
      go_wp2_with fail
      go_ret
      exact ⟨by rw [HD.out]; rfl, rfl⟩
  · obtain ⟨k, rfl⟩ : ∃ k : Nat, n = k := ⟨n.toNat, by omega⟩
    have e : dec (k : Int) = decN k := by unfold dec; rw [if_neg hn]; rfl
    rw [e]
    exact ref_decN (k + 1) k w (by omega) (by omega)
theorem ptr_is2 {M N : Nat} {W : World} {t : Tr} {v : Value} (h : PtrAt M N W t v) : ∃ o, v = .pointer o := by
  cases t with
  | nil => simp only [PtrAt] at h; exact ⟨_, h⟩
  | cons x t => simp [PtrAt] at h
  | node f k i fr g w hh => rw [ptr_node] at h; obtain ⟨b, _, _, _, _, _, _, rfl, _⟩ := h; exact ⟨_, rfl⟩
/-- a slice of parts -/
theorem sl_cells {M N : Nat} {W : World} {t : Tr} {v : Value} (h : SlAt M N W t v) : ∃ a c, v = .slice a t.len c ∧ ∀ j (hj : j < (elems t).length), ∃ g u, a = some ⟨g, 0, none⟩ ∧ W.cell? ⟨g, j, none⟩ = some u ∧ PtrAt M N W (elems t)[j] u := by
  obtain ⟨a, c, rfl, hr⟩ := h
  refine ⟨a, c, rfl, ?_⟩
  have key : ∀ (t : Tr) (o : Nat), RowAt M N W t a o → ∀ j (hj : j < (elems t).length), ∃ g u, a = some ⟨g, 0, none⟩ ∧ W.cell? ⟨g, o + j, none⟩ = some u ∧ PtrAt M N W (elems t)[j] u := by
    intro t
    induction t with
    | nil => intro o _ j hj; simp [elems] at hj
    | node => intro o _ j hj; simp [elems] at hj
    | cons x t _ ih =>
      intro o hr j hj
      rw [RowAt] at hr
      obtain ⟨⟨g, v, e, _, _, hc, hp⟩, hr2⟩ := hr
      cases j with
      | zero => exact ⟨g, v, e, hc, hp⟩
      | succ j =>
        obtain ⟨g', u, e', hc', hp'⟩ := ih (o + 1) hr2 j (by simpa [elems] using hj)
        exact ⟨g', u, e', by rw [show o + (j + 1) = o + 1 + j from by omega]; exact hc', hp'⟩
  intro j hj
  obtain ⟨g, u, e, hc, hp⟩ := key t 0 hr j hj
  exact ⟨g, u, e, by rwa [Nat.zero_add] at hc, hp⟩
theorem cellT {W : World} {b : Nat} {f : Fl} {vk vi vf vg vw vh : Value} (h : W.heap[b]? = some (.cells (cellsT f vk vi vf vg vw vh) NTree (0, 0))) :
    W.cell? ⟨b, 0, none⟩ = some (.string ⟨f.kind.toArray⟩) ∧ W.cell? ⟨b, 1, none⟩ = some (.string ⟨f.sign.toArray⟩) ∧ W.cell? ⟨b, 2, none⟩ = some (.string ⟨f.text.toArray⟩) ∧ W.cell? ⟨b, 3, none⟩ = some (.string ⟨f.of_.toArray⟩) ∧ W.cell? ⟨b, 4, none⟩ = some (.string ⟨f.as_.toArray⟩) ∧ W.cell? ⟨b, 5, none⟩ = some (.int .i64 f.num) ∧ W.cell? ⟨b, 6, none⟩ = some (.bool f.star) ∧ W.cell? ⟨b, 7, none⟩ = some (.bool f.not_) ∧ W.cell? ⟨b, 8, none⟩ = some (.bool f.all) ∧ W.cell? ⟨b, 9, none⟩ = some (.bool f.dist) ∧
    W.cell? ⟨b, 10, none⟩ = some vk ∧ W.cell? ⟨b, 11, none⟩ = some vi ∧ W.cell? ⟨b, 12, none⟩ = some vf ∧ W.cell? ⟨b, 13, none⟩ = some vg ∧ W.cell? ⟨b, 14, none⟩ = some vw ∧ W.cell? ⟨b, 15, none⟩ = some vh :=
  ⟨by simp [World.cell?, h, cellsT], by simp [World.cell?, h, cellsT], by simp [World.cell?, h, cellsT], by simp [World.cell?, h, cellsT], by simp [World.cell?, h, cellsT], by simp [World.cell?, h, cellsT], by simp [World.cell?, h, cellsT], by simp [World.cell?, h, cellsT], by simp [World.cell?, h, cellsT], by simp [World.cell?, h, cellsT], by simp [World.cell?, h, cellsT], by simp [World.cell?, h, cellsT], by simp [World.cell?, h, cellsT], by simp [World.cell?, h, cellsT], by simp [World.cell?, h, cellsT], by simp [World.cell?, h, cellsT]⟩
end Gr
end Go.Proofs.YtfkdfplnhlnnoaaGreatDoor
end
section
namespace Go.Proofs.YtfkdfplnhlnnoaaGreatDoor
open Go.RowKit
namespace Gr
set_option linter.unusedSimpArgs false
set_option linter.unusedVariables false
theorem quoteB_app : ∀ (a : Bg.Str) (c : UInt8), quoteB (a ++ [c]) = quoteB a ++ (if c = 39 then [39, 39] else [c])
  | [], c => by by_cases h : c = 39 <;> simp [quoteB, h]
  | x :: a, c => by
    rw [List.cons_append]
    unfold quoteB
    rw [quoteB_app a c]
    split <;> simp
set_option maxRecDepth 10000 in
set_option maxHeartbeats 1000000 in
theorem ref_quote (s : Bg.Str) (w : World) (hs : s.length ≤ 90000) :
    Calls Tryz.prog 24 #[.string ⟨s.toArray⟩] w fun e w' => e = .returned (.string ⟨(quote s).toArray⟩) ∧ w = w' := by
  have hex := Bg.ext_mk
  have happ := Bg.app_mk
  go_enter Tryz.func24, Tryz.ntmps24
  go_wp2_with fail
  go_loopg [3, 4] (s.length + 1) (fun gk tv iv wr => ∃ (k : Nat) (q : Bg.Str), k ≤ s.length ∧ gk = s.length - k + 1 ∧ iv = .int .i64 k ∧ tv = .string ⟨(39 :: q).toArray⟩ ∧ q.length ≤ 2 * k ∧ w = wr ∧ Hid (q = quoteB (s.take k)))
  case atStart => exact ⟨0, [], by omega, by omega, rfl, rfl, by simp, rfl, by simp [Hid, quoteB]⟩
  case round =>
    obtain ⟨k, q, hk, rfl, rfl, rfl, hql, rfl, hq⟩ := hrel
    by_cases hlt : k < s.length
    · have hsz : k < (ByteArray.mk s.toArray).size := hlt
      have H1 : Hid ((s.drop k).take 1 = [s[k]]) := Bg.take_one s k hlt
      have HT : Hid (s.take (k + 1) = s.take k ++ [s[k]]) := by show _ = _; rw [List.take_succ_eq_append_getElem hlt]
      by_cases h39 : s[k] = 39
      · have hc : ((((ByteArray.mk s.toArray)[k]'hsz).toNat : Int) == 39) = true := by rw [beq_iff_eq]; show ((s[k]).toNat : Int) = 39; rw [h39]; rfl
        have HQ : Hid (q ++ [39, 39] = quoteB (s.take (k + 1))) := by show _ = _; rw [HT.out, quoteB_app, if_pos h39, hq.out]
        have H1' : Hid ((s.drop k).take 1 = [39]) := by show _ = _; rw [H1.out, h39]
        clear h39
        go_wp2_with fail
        go_roundg (s.length - (k + 1) + 1)
        case measure => omega
        case rel => exact ⟨k + 1, q ++ [39, 39], by omega, rfl, by exact vint (by omega), by rw [H1'.out]; first | done | simp, by simp; omega, rfl, HQ⟩
      · have hc : ((((ByteArray.mk s.toArray)[k]'hsz).toNat : Int) == 39) = false := by
          rw [beq_eq_false_iff_ne]; intro e; exact h39 (Bg.u8_eq e)
        have HQ : Hid (q ++ [s[k]] = quoteB (s.take (k + 1))) := by show _ = _; rw [HT.out, quoteB_app, if_neg h39, hq.out]
        clear h39
        go_wp2_with fail
        go_roundg (s.length - (k + 1) + 1)
        case measure => omega
        case rel => exact ⟨k + 1, q ++ [s[k]], by omega, rfl, by exact vint (by omega), by rw [H1.out]; first | done | simp, by simp; omega, rfl, HQ⟩
    · have HQ : Hid (quote s = 39 :: q ++ [39]) := by show _ = _; unfold quote; rw [hq.out, List.take_of_length_le (by omega)]; rfl
      go_wp2_with fail
      go_ret
      exact ⟨by rw [HQ.out]; rfl, rfl⟩
set_option maxRecDepth 10000 in
set_option maxHeartbeats 1000000 in
theorem ref_not (b : Bool) (w : World) : Calls Tryz.prog 22 #[.bool b] w fun e w' => e = .returned (.string ⟨(notP b).toArray⟩) ∧ w = w' := by
  cases b
  · go_enter Tryz.func22, Tryz.ntmps22
    go_wp2_with fail
    go_ret
    exact ⟨rfl, rfl⟩
  · go_enter Tryz.func22, Tryz.ntmps22
    go_wp2_with fail
    go_ret
    exact ⟨rfl, rfl⟩
set_option maxRecDepth 10000 in
set_option maxHeartbeats 1000000 in
theorem ref_as (s n : Bg.Str) (w : World) (hs : s.length ≤ 1000000) (hn : n.length ≤ 1000000) : Calls Tryz.prog 25 #[.string ⟨s.toArray⟩, .string ⟨n.toArray⟩] w fun e w' => e = .returned (.string ⟨(asP s n).toArray⟩) ∧ w = w' := by
  have happ := Bg.app_mk
  by_cases h0 : n = []
  · have HX : Hid (asP s n = s) := by show _ = _; unfold asP; rw [if_pos h0]
    subst h0
    go_enter Tryz.func25, Tryz.ntmps25
    go_wp2_with fail
    go_ret
    exact ⟨by rw [HX.out]; rfl, rfl⟩
  · have h0' : (n == []) = false := by simpa using h0
    have HX : Hid (asP s n = s ++ [32, 97, 115, 32] ++ n) := by show _ = _; unfold asP; rw [if_neg h0]
    clear h0
    go_enter Tryz.func25, Tryz.ntmps25
    go_wp2_with fail
    go_ret
    exact ⟨by rw [HX.out]; first | rfl | simp, rfl⟩
end Gr
end Go.Proofs.YtfkdfplnhlnnoaaGreatDoor
end
section
namespace Go.Proofs.YtfkdfplnhlnnoaaGreatDoor
open Go.RowKit
namespace Gr
set_option linter.unusedSimpArgs false
set_option linter.unusedVariables false
/-- a part is printed as its text says -/
def PrintOK (M N : Nat) (t : Tr) : Prop := ∀ (W : World) (v : Value), PtrAt M N W t v → Good t →
  Calls Tryz.prog 10 #[v] W fun e w' => e = .returned (.string ⟨(pr t).toArray⟩) ∧ Below W.heap.size W w'
theorem good_pr {t : Tr} (h : Good t) : (pr t).length ≤ 400000 := by
  cases t with
  | nil => rw [Good] at h; exact h.elim
  | cons x y => rw [Good] at h; exact h.elim
  | node f k i fr g w hh => rw [Good] at h; exact h.1.pr
theorem commas_snoc : ∀ (l : List Bg.Str) (x : Bg.Str), commas (l ++ [x]) = if l = [] then x else commas l ++ [44, 32] ++ x
  | [], x => rfl
  | [a], x => by simp [commas]
  | a :: b :: l, x => by
    have ih := commas_snoc (b :: l) x
    rw [List.cons_append, List.cons_append, commas, ← List.cons_append, ih]
    · simp [commas]
    · simp
theorem commas_take : ∀ (l : List Bg.Str) (j : Nat), (commas (l.take j)).length ≤ (commas l).length
  | [], j => by simp
  | [a], 0 => by simp [commas]
  | [a], j + 1 => by simp
  | a :: b :: l, 0 => by simp [commas]
  | a :: b :: l, 1 => by
    have e : commas (a :: b :: l) = a ++ [44, 32] ++ commas (b :: l) := by rw [commas]; simp
    rw [e]; simp [commas]
  | a :: b :: l, j + 2 => by
    have ih := commas_take (b :: l) (j + 1)
    have e : commas (a :: b :: l) = a ++ [44, 32] ++ commas (b :: l) := by rw [commas]; simp
    have e2 : commas ((a :: b :: l).take (j + 2)) = a ++ [44, 32] ++ commas ((b :: l).take (j + 1)) := by
      rw [List.take_succ_cons, List.take_succ_cons, commas]; simp
    rw [e, e2]; simp; simp at ih; omega
set_option maxRecDepth 10000 in
set_option maxHeartbeats 1000000 in
theorem ref_printed (M N : Nat) (t : Tr) (v : Value) (W : World) (hs : SlAt M N W t v) (hg : GoodL t) (hl : t.len ≤ 400) (hc : (commas (prs t)).length ≤ 400000) (hP : ∀ x ∈ elems t, PrintOK M N x) :
    Calls Tryz.prog 42 #[v] W fun e w' => e = .returned (.string ⟨(commas (prs t)).toArray⟩) ∧ Below W.heap.size W w' := by
  obtain ⟨a, c, rfl, hcell⟩ := sl_cells hs
  have happ := Bg.app_mk
  have hel := elems_len t
  rw [prs_elems] at hc ⊢
  have hge := good_elems t hg
  generalize t.len = L at hl hel ⊢
  go_enter Tryz.func42, Tryz.ntmps42
  go_wp2_with fail
  go_loopg [3, 4] (L + 1) (fun gk sv iv wr => ∃ j : Nat, j ≤ L ∧ gk = L - j + 1 ∧ iv = .int .i64 j ∧ sv = .string ⟨(commas (((elems t).take j).map pr)).toArray⟩ ∧ Below W.heap.size W wr)
  case atStart => exact ⟨0, by omega, by omega, rfl, by simp [commas], Below.refl _ _⟩
  case round =>
    obtain ⟨j, hj, rfl, rfl, rfl, hB⟩ := hrel
    by_cases hlt : j < L
    · obtain ⟨g, u, rfl, hc1, hp1⟩ := hcell j (by omega)
      have hc2 : wr.cell? ⟨g, j, none⟩ = some u := (hB.cell (p := ⟨g, j, none⟩) (World.block_lt_of_cell? _ _ hc1)).trans hc1
      have hp2 := hp1.keep (Keep.of_below (M := M) hB)
      have hxm : (elems t)[j]'(by omega) ∈ elems t := List.getElem_mem _
      have hcall := hP _ hxm wr u hp2 (hge _ hxm)
      have hsz := good_pr (hge _ hxm)
      have HS : Hid (commas (((elems t).take (j + 1)).map pr) = if j = 0 then pr ((elems t)[j]'(by omega)) else commas (((elems t).take j).map pr) ++ [44, 32] ++ pr ((elems t)[j]'(by omega))) := by
        show _ = _
        rw [List.take_succ_eq_append_getElem (by omega), List.map_append, List.map_cons, List.map_nil, commas_snoc]
        by_cases h0 : j = 0
        · rw [if_pos h0, if_pos (by rw [h0]; rfl)]
        · rw [if_neg h0, if_neg]
          intro e
          have := congrArg List.length e
          rw [List.length_map, List.length_take, List.length_nil] at this
          omega
      have hpre : (commas (((elems t).take j).map pr)).length ≤ 400000 := by
        have := commas_take ((elems t).map pr) j
        rw [← List.map_take] at this
        omega
      obtain ⟨o, rfl⟩ := ptr_is2 hp2
      generalize pr ((elems t)[j]'(by omega)) = x at hcall hsz HS
      generalize hq : commas (((elems t).take j).map pr) = q at hpre HS ⊢
      by_cases h0 : j = 0
      · have HS' : Hid (commas (((elems t).take (j + 1)).map pr) = x) := by show _ = _; rw [HS.out, if_pos h0]
        have HQ : Hid (q = []) := by show _ = _; rw [← hq, h0]; rfl
        clear HS hq
        have hq0 := HQ.out
        subst hq0
        subst h0
        go_wp2_with fail
        refine hcall.mono ?_
        rintro e w1 ⟨rfl, hB1⟩
        go_wp2_with fail
        go_roundg (L - (0 + 1) + 1)
        case measure => omega
        case rel => exact ⟨0 + 1, by omega, rfl, by exact vint (by omega), by rw [HS'.out]; first | done | rfl | simp, hB.trans (hB1.mono hB.size)⟩
      · have HS' : Hid (commas (((elems t).take (j + 1)).map pr) = q ++ [44, 32] ++ x) := by show _ = _; rw [HS.out, if_neg h0]
        have h0' : (0 : Int) < (j : Int) := by omega
        clear HS hq
        go_wp2_with fail
        refine hcall.mono ?_
        rintro e w1 ⟨rfl, hB1⟩
        go_wp2_with fail
        go_roundg (L - (j + 1) + 1)
        case measure => omega
        case rel => exact ⟨j + 1, by omega, rfl, by exact vint (by omega), by rw [HS'.out]; first | done | rfl | simp, hB.trans (hB1.mono hB.size)⟩
    · obtain rfl : j = L := by omega
      have HX : Hid ((elems t).take j = elems t) := List.take_of_length_le (by omega)
      go_wp2_with fail
      go_ret
      exact ⟨by rw [HX.out]; rfl, hB⟩
end Gr
end Go.Proofs.YtfkdfplnhlnnoaaGreatDoor
end
