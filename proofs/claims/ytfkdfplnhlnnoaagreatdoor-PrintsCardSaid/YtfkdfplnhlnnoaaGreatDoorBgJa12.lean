import Derived.Test.YtfkdfplnhlnnoaaGreatDoorBgCuA
section
namespace Go.Proofs.YtfkdfplnhlnnoaaGreatDoor
open Go.RowKit
namespace Gr
set_option linter.unusedSimpArgs false
set_option linter.unusedVariables false
open NT
/-- the word at a place, if there is one -/
def wordAt (ws : List RW) (i : Int) : Option RW := if 0 ≤ i then ws[i.toNat]? else none
def keyAt (ws : List RW) (i : Int) (s : Bg.Str) : Bool := match wordAt ws i with | some w => keyB w s | none => false
def signAt (ws : List RW) (i : Int) (s : Bg.Str) : Bool := match wordAt ws i with | some w => signB w s | none => false
def nameAt (ws : List RW) (i : Int) : Bool := match wordAt ws i with | some w => w.sort == kName | none => false
theorem wordAt_neg {ws : List RW} {i : Int} (h : i < 0) : wordAt ws i = none := by unfold wordAt; rw [if_neg (by omega)]
theorem wordAt_past {ws : List RW} {i : Int} (h : (ws.length : Int) ≤ i) : wordAt ws i = none := by unfold wordAt; rw [if_pos (by omega), List.getElem?_eq_none (by omega)]
theorem wordAt_in {ws : List RW} {i : Nat} (h : i < ws.length) : wordAt ws (i : Int) = some ws[i] := by unfold wordAt; rw [if_pos (by omega)]; simp [h]
/-- the cutter's cells -/
theorem Cut.cells {C M N : Nat} {ws : List RW} {W : World} (h : Cut C M N ws W) : ∃ wa cap capm, W.cell? ⟨C, 0, none⟩ = some (.slice wa ws.length cap) ∧ W.cell? ⟨C, 1, none⟩ = some (.int .i64 ws.length) ∧ W.cell? ⟨C, 2, none⟩ = some (.slice (some ⟨M, 0, none⟩) (18 * (ws.length + 1) * (ws.length + 1)) capm) ∧ W.cell? ⟨C, 3, none⟩ = some (.pointer (some ⟨N, 0, none⟩)) ∧
    ∀ i (h : i < ws.length), ∃ g, wa = some ⟨g, 0, none⟩ ∧ g ≠ M ∧ W.cell? ⟨g, i * 3, none⟩ = some (.string ⟨ws[i].sort.toArray⟩) ∧ W.cell? ⟨g, i * 3 + 1, none⟩ = some (.string ⟨ws[i].text.toArray⟩) ∧ W.cell? ⟨g, i * 3 + 2, none⟩ = some (.int .i64 ws[i].num) := by
  obtain ⟨wa, cap, capm, h1, h2⟩ := h.obj
  obtain ⟨c0, c1, c2, c3, _⟩ := cells4 h1
  exact ⟨wa, cap, capm, c0, c1, c2, c3, h2⟩
set_option maxHeartbeats 400000 in
theorem c_key (C M N : Nat) (ws : List RW) (i : Int) (s : Bg.Str) (W : World) (h : Cut C M N ws W) (h0 : -10 ≤ i) (h1 : i ≤ 1000) :
    Calls Tryz.prog 88 #[.pointer (some ⟨C, 0, none⟩), .int .i64 i, .string ⟨s.toArray⟩] W fun e w' => e = .returned (.bool (keyAt ws i s)) ∧ W = w' := by
  obtain ⟨wa, cap, capm, c0, c1, c2, c3, cw⟩ := h.cells
  have hlen := h.len
  by_cases hn : 0 ≤ i
  · obtain ⟨k, rfl⟩ : ∃ k : Nat, i = k := ⟨i.toNat, by omega⟩
    by_cases hl : k < ws.length
    · obtain ⟨g, rfl, hg, q1, q2, q3⟩ := cw k hl
      have HB : Hid (keyAt ws k s = (ws[k].sort == [107, 101, 121] && ws[k].text == s)) := by show _ = _; unfold keyAt; rw [wordAt_in hl]; rfl
      clear cw h
      go_enter Tryz.func88, Tryz.ntmps88
      go_wp2
      all_goals
        go_ret
        refine ⟨ret_bool ?_, rfl⟩
        rw [HB.out]
        try simp [*]
    · have HB : Hid (keyAt ws k s = false) := by show _ = _; unfold keyAt; rw [wordAt_past (by omega)]
      clear cw h
      go_enter Tryz.func88, Tryz.ntmps88
      go_wp2
      go_ret
      exact ⟨ret_bool HB.out.symm, rfl⟩
  · have HB : Hid (keyAt ws i s = false) := by show _ = _; unfold keyAt; rw [wordAt_neg (by omega)]
    clear cw h
    go_enter Tryz.func88, Tryz.ntmps88
    go_wp2
    go_ret
    exact ⟨ret_bool HB.out.symm, rfl⟩
set_option maxHeartbeats 400000 in
theorem c_sign (C M N : Nat) (ws : List RW) (i : Int) (s : Bg.Str) (W : World) (h : Cut C M N ws W) (h0 : -10 ≤ i) (h1 : i ≤ 1000) :
    Calls Tryz.prog 119 #[.pointer (some ⟨C, 0, none⟩), .int .i64 i, .string ⟨s.toArray⟩] W fun e w' => e = .returned (.bool (signAt ws i s)) ∧ W = w' := by
  obtain ⟨wa, cap, capm, c0, c1, c2, c3, cw⟩ := h.cells
  have hlen := h.len
  by_cases hn : 0 ≤ i
  · obtain ⟨k, rfl⟩ : ∃ k : Nat, i = k := ⟨i.toNat, by omega⟩
    by_cases hl : k < ws.length
    · obtain ⟨g, rfl, hg, q1, q2, q3⟩ := cw k hl
      have HB : Hid (signAt ws k s = (ws[k].sort == [115, 105, 103, 110] && ws[k].text == s)) := by show _ = _; unfold signAt; rw [wordAt_in hl]; rfl
      clear cw h
      go_enter Tryz.func119, Tryz.ntmps119
      go_wp2
      all_goals
        go_ret
        refine ⟨ret_bool ?_, rfl⟩
        rw [HB.out]
        try simp [*]
    · have HB : Hid (signAt ws k s = false) := by show _ = _; unfold signAt; rw [wordAt_past (by omega)]
      clear cw h
      go_enter Tryz.func119, Tryz.ntmps119
      go_wp2
      go_ret
      exact ⟨ret_bool HB.out.symm, rfl⟩
  · have HB : Hid (signAt ws i s = false) := by show _ = _; unfold signAt; rw [wordAt_neg (by omega)]
    clear cw h
    go_enter Tryz.func119, Tryz.ntmps119
    go_wp2
    go_ret
    exact ⟨ret_bool HB.out.symm, rfl⟩
set_option maxHeartbeats 400000 in
theorem c_name (C M N : Nat) (ws : List RW) (i : Int) (W : World) (h : Cut C M N ws W) (h0 : -10 ≤ i) (h1 : i ≤ 1000) :
    Calls Tryz.prog 120 #[.pointer (some ⟨C, 0, none⟩), .int .i64 i] W fun e w' => e = .returned (.bool (nameAt ws i)) ∧ W = w' := by
  obtain ⟨wa, cap, capm, c0, c1, c2, c3, cw⟩ := h.cells
  have hlen := h.len
  by_cases hn : 0 ≤ i
  · obtain ⟨k, rfl⟩ : ∃ k : Nat, i = k := ⟨i.toNat, by omega⟩
    by_cases hl : k < ws.length
    · obtain ⟨g, rfl, hg, q1, q2, q3⟩ := cw k hl
      have HB : Hid (nameAt ws k = (ws[k].sort == [110, 97, 109, 101])) := by show _ = _; unfold nameAt; rw [wordAt_in hl]; rfl
      clear cw h
      go_enter Tryz.func120, Tryz.ntmps120
      go_wp2
      all_goals
        go_ret
        refine ⟨ret_bool ?_, rfl⟩
        rw [HB.out]
        try simp [*]
    · have HB : Hid (nameAt ws k = false) := by show _ = _; unfold nameAt; rw [wordAt_past (by omega)]
      clear cw h
      go_enter Tryz.func120, Tryz.ntmps120
      go_wp2
      go_ret
      exact ⟨ret_bool HB.out.symm, rfl⟩
  · have HB : Hid (nameAt ws i = false) := by show _ = _; unfold nameAt; rw [wordAt_neg (by omega)]
    clear cw h
    go_enter Tryz.func120, Tryz.ntmps120
    go_wp2
    go_ret
    exact ⟨ret_bool HB.out.symm, rfl⟩
/-- how far a kind is from the words -/
def rk : NT → Nat
  | query => 1 | core => 0 | tail => 2 | after => 4 | grouped => 2 | items => 5 | NT.item => 4 | sources => 1 | source => 0 | columns => 1 | column => 0 | cnd => 3 | conj => 2 | neg => 1 | basic => 0 | expr => 3 | term => 2 | factor => 1
theorem rk_lt (k : NT) : rk k < 20 := by cases k <;> decide
/-- an answer: nothing, or a part -/
def Ans (M N : Nat) (W : World) (v : Value) (no : Prop) (yes : Tr → Prop) : Prop :=
  (v = .pointer none ∧ no) ∨ ∃ b t, v = .pointer (some ⟨b, 0, none⟩) ∧ b ≠ N ∧ PtrAt M N W t v ∧ yes t
theorem Ans.keep {M N : Nat} {W W' : World} {v : Value} {no : Prop} {yes : Tr → Prop} (h : Ans M N W v no yes) (hk : Keep M W W') : Ans M N W' v no yes := by
  rcases h with h | ⟨b, t, h1, h2, h3, h4⟩
  · exact .inl h
  · exact .inr ⟨b, t, h1, h2, h3.keep hk, h4⟩
/-- what a call of the reader leaves -/
def Post (C M N : Nat) (ws : List RW) (W : World) (no : Prop) (yes : Tr → Prop) (e : Ending) (w' : World) : Prop :=
  ∃ v, e = .returned v ∧ Cut C M N ws w' ∧ Keep M W w' ∧ Ans M N w' v no yes
/-- what is promised of every call of is below a size -/
def Is (C M N : Nat) (ws : List RW) (m : Nat) : Prop := ∀ (k : NT) (i : Nat) (j : Int) (W : World), Cut C M N ws W → i ≤ 900 → -10 ≤ j → j ≤ ws.length → (j.toNat - i) * 20 + rk k < m →
  Calls Tryz.prog 41 #[.pointer (some ⟨C, 0, none⟩), .int .i64 (num k), .int .i64 i, .int .i64 j] W (Post C M N ws W (¬ G k (st (ws.map tok) i j.toNat)) (D k (sw ws i j.toNat)))
/-- in brackets -/
def RoundG (k : NT) (l : List T) : Prop := ∃ a, l = T.lp :: (a ++ [T.rp]) ∧ G k a
def RoundD (k : NT) (l : List RW) (t : Tr) : Prop := ∃ o a c, l = o :: (a ++ [c]) ∧ tok o = T.lp ∧ tok c = T.rp ∧ D k a t
theorem wordAt_tok (ws : List RW) (i : Nat) : (wordAt ws (i : Int)).map tok = (ws.map tok)[i]? := by
  unfold wordAt; rw [if_pos (by omega), List.getElem?_map]; simp
theorem sign_at {ws : List RW} (ok : ∀ w ∈ ws, Ok1 w) (y : Bg.Str × T) (hy : y ∈ signToks) (hc : y.2 ≠ T.cmp) (i : Nat) : signAt ws (i : Int) y.1 = true ↔ (ws.map tok)[i]? = some y.2 := by
  rw [← wordAt_tok]
  unfold signAt
  by_cases hi : i < ws.length
  · rw [wordAt_in hi]
    simp only [signB_tok (ok _ (List.getElem_mem hi)) hy hc, decide_eq_true_eq, Option.map_some, Option.some.injEq]
  · rw [wordAt_past (by omega)]; simp
theorem key_at {ws : List RW} (ok : ∀ w ∈ ws, Ok1 w) (y : Bg.Str × T) (hy : y ∈ keyToks) (hc : y.2 ≠ T.agg) (i : Nat) : keyAt ws (i : Int) y.1 = true ↔ (ws.map tok)[i]? = some y.2 := by
  rw [← wordAt_tok]
  unfold keyAt
  by_cases hi : i < ws.length
  · rw [wordAt_in hi]
    simp only [keyB_tok (ok _ (List.getElem_mem hi)) hy hc, decide_eq_true_eq, Option.map_some, Option.some.injEq]
  · rw [wordAt_past (by omega)]; simp
theorem name_at {ws : List RW} (ok : ∀ w ∈ ws, Ok1 w) (i : Nat) : nameAt ws (i : Int) = true ↔ (ws.map tok)[i]? = some T.name := by
  rw [← wordAt_tok]
  unfold nameAt
  by_cases hi : i < ws.length
  · rw [wordAt_in hi]
    simp only [beq_iff_eq, Option.map_some, Option.some.injEq, tok_name (ok _ (List.getElem_mem hi))]
  · rw [wordAt_past (by omega)]; simp
theorem tok_get {ws : List RW} {i : Nat} {t : T} (h : (ws.map tok)[i]? = some t) : ∃ hi : i < ws.length, tok ws[i] = t := by
  rw [List.getElem?_map] at h
  by_cases hi : i < ws.length
  · refine ⟨hi, ?_⟩; simpa [hi] using h
  · rw [List.getElem?_eq_none (by omega)] at h; cases h
theorem round_iff {k : NT} {w : List T} {i j : Nat} (hj : j ≤ w.length) : RoundG k (st w i j) ↔ i + 1 < j ∧ w[i]? = some T.lp ∧ w[j - 1]? = some T.rp ∧ G k (st w (i + 1) (j - 1)) := by
  constructor
  · rintro ⟨a, e, hg⟩
    have hl := congrArg List.length e
    rw [st_len w hj] at hl
    simp at hl
    have h2 := st_cons w (i := i) (j := j) (by omega) hj
    rw [e] at h2
    obtain ⟨e1, e2⟩ := List.cons.inj h2
    obtain ⟨p, p1, p2, rfl, p3, p4⟩ := st_of (a := a) (u := T.rp) (b := []) hj e2.symm
    have hl2 := congrArg List.length p4
    rw [st_len w hj] at hl2
    simp at hl2
    obtain rfl : p = j - 1 := by omega
    refine ⟨by omega, ?_, p3, hg⟩
    rw [List.getElem?_eq_getElem (by omega), e1]
  · rintro ⟨h1, h2, h3, hg⟩
    refine ⟨_, ?_, hg⟩
    rw [st_cons w (by omega) hj, st_split w (i := i + 1) (p := j - 1) (by omega) (by omega) hj, st_nil w (i := j - 1 + 1) (by omega)]
    rw [List.getElem?_eq_getElem (by omega)] at h2 h3
    rw [Option.some.inj h2, Option.some.inj h3]
theorem sw_round {ws : List RW} {i j : Nat} (hi : i + 1 < j) (hj : j ≤ ws.length) : sw ws i j = ws[i]'(by omega) :: (sw ws (i + 1) (j - 1) ++ [ws[j - 1]'(by omega)]) := by
  rw [sw_cons ws (by omega) hj, sw_split ws (i := i + 1) (p := j - 1) (by omega) (by omega) hj, sw_nil ws (i := j - 1 + 1) (by omega)]
theorem g_nil {k : NT} {a : List T} (h : G k a) : a ≠ [] := by
  obtain ⟨t, r, e, _⟩ := first_of h; rw [e]; simp
set_option maxHeartbeats 400000 in
theorem c_round (C M N : Nat) (ws : List RW) (m : Nat) (hI : Is C M N ws m) (k : NT) (i j : Nat) (W : World) (h : Cut C M N ws W) (hi : i < 800) (hj1 : 1 ≤ j) (hj : j ≤ ws.length) (hm : (j - i) * 20 ≤ m) (hm2 : 20 ≤ m) :
    Calls Tryz.prog 118 #[.pointer (some ⟨C, 0, none⟩), .int .i64 (num k), .int .i64 i, .int .i64 j] W (Post C M N ws W (¬ RoundG k (st (ws.map tok) i j)) (RoundD k (sw ws i j))) := by
  have hlen := h.len
  have hnk := num_lt k
  go_enter Tryz.func118, Tryz.ntmps118
  go_wp2_with fail
  refine (c_sign C M N ws _ _ _ h (by omega) (by omega)).mono ?_
  rintro e w' ⟨rfl, rfl⟩
  go_wp2_with fail
  refine (c_sign C M N ws _ _ _ h (by omega) (by omega)).mono ?_
  rintro e w' ⟨rfl, rfl⟩
  have ej : (j : Int) - 1 = ((j - 1 : Nat) : Int) := by omega
  rw [ej]
  cases ho : signAt ws i [40] with
  | false =>
    go_wp2
    go_ret
    refine ⟨_, rfl, h, Keep.refl _ _, .inl ⟨rfl, fun hg => ?_⟩⟩
    rw [(sign_at h.ok (_, T.lp) (by decide) (by decide) i).2 ((round_iff (by simpa using hj)).1 hg).2.1] at ho
    cases ho
  | true =>
    cases hc : signAt ws ((j - 1 : Nat) : Int) [41] with
    | false =>
      go_wp2
      go_ret
      refine ⟨_, rfl, h, Keep.refl _ _, .inl ⟨rfl, fun hg => ?_⟩⟩
      rw [(sign_at h.ok (_, T.rp) (by decide) (by decide) (j - 1)).2 ((round_iff (by simpa using hj)).1 hg).2.2.1] at hc
      cases hc
    | true =>
      go_wp2_with fail
      refine (hI k (i + 1) ((j - 1 : Nat) : Int) _ h (by omega) (by omega) (by omega) (by have := rk_lt k; omega)).mono ?_
      rintro e w' ⟨v, rfl, hC, hK, hF⟩
      go_wp2
      go_ret
      have e0 := (sign_at h.ok (_, T.lp) (by decide) (by decide) i).1 ho
      have e1 := (sign_at h.ok (_, T.rp) (by decide) (by decide) (j - 1)).1 hc
      obtain ⟨hi0, t0⟩ := tok_get e0
      obtain ⟨hi1, t1⟩ := tok_get e1
      rw [Int.toNat_natCast] at hF
      refine ⟨_, rfl, hC, hK, ?_⟩
      rcases hF with ⟨rfl, hn⟩ | ⟨b, t, e, hb, hp, hd⟩
      · exact .inl ⟨rfl, fun hg => hn ((round_iff (by simpa using hj)).1 hg).2.2.2⟩
      · refine .inr ⟨b, t, e, hb, hp, ?_⟩
        have hne := g_nil hd.g
        have hlt : i + 1 < j - 1 := by
          by_cases hh : i + 1 < j - 1
          · exact hh
          · rw [sw_nil ws (by omega)] at hne; exact absurd rfl hne
        exact ⟨_, _, _, sw_round (by omega) hj, t0, t1, hd⟩
end Gr
end Go.Proofs.YtfkdfplnhlnnoaaGreatDoor
end
section
namespace Go.Proofs.YtfkdfplnhlnnoaaGreatDoor
open Go.RowKit
namespace Gr
set_option linter.unusedSimpArgs false
set_option linter.unusedVariables false
open NT
/-- no cut at a place -/
def NoCut (same alone : NT) (isJ : T → Prop) (w : List T) (i j q : Nat) : Prop := ∀ u, w[q]? = some u → isJ u → G same (st w i q) → ¬ G alone (st w (q + 1) j)
def NoTil (same alone : NT) (isJ : T → Prop) (w : List T) (i j p : Nat) : Prop := ¬ G alone (st w i j) ∧ ∀ q, i < q → q < p → NoCut same alone isJ w i j q
theorem noTil_all {same alone : NT} {isJ : T → Prop} {w : List T} {i j : Nat} (hj : j ≤ w.length) (hinv : ∀ l, G same l ↔ G alone l ∨ ∃ a u b, l = a ++ u :: b ∧ isJ u ∧ G same a ∧ G alone b) (h : NoTil same alone isJ w i j j) : ¬ G same (st w i j) := by
  intro hg
  rcases (hinv _).1 hg with h1 | ⟨a, u, b, e, hu, ha, hb⟩
  · exact h.1 h1
  · obtain ⟨p, p1, p2, rfl, p3, rfl⟩ := st_of hj e
    have hne := g_nil ha
    have : i < p := by
      by_cases hh : i < p
      · exact hh
      · rw [st_nil w (by omega)] at hne; exact absurd rfl hne
    exact h.2 p this p2 u p3 hu ha hb
/-- a slice of texts that lies apart from what is written -/
def Texts (M S : Nat) (W : World) (ss : List Bg.Str) : Prop := S ≠ M ∧ ∀ k (h : k < ss.length), W.cell? ⟨S, k, none⟩ = some (.string ⟨ss[k].toArray⟩)
theorem Texts.keep {M S : Nat} {W W' : World} {ss : List Bg.Str} (h : Texts M S W ss) (hk : Keep M W W') : Texts M S W' ss := ⟨h.1, fun k hl => hk.cell h.1 (h.2 k hl)⟩
set_option maxRecDepth 10000 in
set_option maxHeartbeats 1000000 in
theorem c_infix (C M N : Nat) (ws : List RW) (m : Nat) (hI : Is C M N ws m) (same alone : NT) (isJ : T → Prop) (sort : Bg.Str) (ss : List Bg.Str) (S cap : Nat) (i j : Nat) (W : World) (h : Cut C M N ws W) (hS : Texts M S W ss) (hss : ss.length ≤ 9) (hi : i < j) (hj : j ≤ ws.length) (hm : (j - i) * 20 + rk alone < m)
    (hinv : ∀ l, G same l ↔ G alone l ∨ ∃ a u b, l = a ++ u :: b ∧ isJ u ∧ G same a ∧ G alone b) (hJ : ∀ w, Ok1 w → (isJ (tok w) ↔ w.sort = sort ∧ w.text ∈ ss))
    (hD1 : ∀ a t, D alone a t → D same a t) (hD2 : ∀ a u b x y, isJ (tok u) → D same a x → D alone b y → D same (a ++ u :: b) (nd { kind := u.text } (l2 x y))) :
    Calls Tryz.prog 87 #[.pointer (some ⟨C, 0, none⟩), .int .i64 (num same), .int .i64 (num alone), .int .i64 i, .int .i64 j, .string ⟨sort.toArray⟩, .slice (some ⟨S, 0, none⟩) ss.length cap] W (Post C M N ws W (¬ G same (st (ws.map tok) i j)) (D same (sw ws i j))) := by
  have hlen := h.len
  have H1 : Hid (∀ l, G same l ↔ G alone l ∨ ∃ a u b, l = a ++ u :: b ∧ isJ u ∧ G same a ∧ G alone b) := hinv
  have H2 : Hid (∀ w, Ok1 w → (isJ (tok w) ↔ w.sort = sort ∧ w.text ∈ ss)) := hJ
  have H3 : Hid (∀ a t, D alone a t → D same a t) := hD1
  have H4 : Hid (∀ a u b x y, isJ (tok u) → D same a x → D alone b y → D same (a ++ u :: b) (nd { kind := u.text } (l2 x y))) := hD2
  have HS : Hid (Texts M S W ss) := hS
  have HL : Hid (j ≤ (ws.map tok).length) := by show j ≤ _; simpa using hj
  clear hinv hJ hD1 hD2 hS
  go_enter Tryz.func87, Tryz.ntmps87
  go_wp2_with fail
  refine (hI alone i j _ h (by omega) (by omega) (by omega) (by simpa using hm)).mono ?_
  rintro e w1 ⟨v1, rfl, hC1, hK1, hF1⟩
  rw [Int.toNat_natCast] at hF1
  go_wp2
  go_loopg [15, 16] (j - i) (fun gk tv pv wr => ∃ p : Nat, i + 1 ≤ p ∧ p ≤ j ∧ gk = j - p + 1 ∧ pv = .int .i64 p ∧ Cut C M N ws wr ∧ Keep M W wr ∧ Ans M N wr tv (NoTil same alone isJ (ws.map tok) i j p) (D same (sw ws i j)))
  case atStart =>
    refine ⟨i + 1, by omega, by omega, by omega, rfl, hC1, hK1, ?_⟩
    rcases hF1 with ⟨e, hn⟩ | ⟨b, t, e, hb, hp, hd⟩
    · exact .inl ⟨e, hn, fun q h1 h2 => by omega⟩
    · exact .inr ⟨b, t, e, hb, hp, H3.out _ _ hd⟩
  case round =>
    obtain ⟨p, hp1, hp2, rfl, rfl, hC, hK, hA⟩ := hrel
    rcases hA with ⟨rfl, hno⟩ | ⟨b, t, rfl, hb, hp, hd⟩
    · by_cases hlt : p < j
      · have HNO : Hid (NoTil same alone isJ (ws.map tok) i j p) := hno
        clear hno
        go_wp2
        go_loopg [15, 17] (ss.length + 1) (fun gk tv kv w2 => ∃ k : Nat, k ≤ ss.length ∧ gk = ss.length - k + 1 ∧ kv = .int .i64 k ∧ Cut C M N ws w2 ∧ Keep M W w2 ∧ Ans M N w2 tv (∀ k', k' < k → ∀ (hk : k' < ss.length) (hl : p < ws.length), ws[p].sort = sort → ws[p].text = ss[k'] → NoCut same alone isJ (ws.map tok) i j p) (D same (sw ws i j)))
        case atStart => exact ⟨0, by omega, by omega, rfl, hC, hK, .inl ⟨rfl, fun k' h => by omega⟩⟩
        case round =>
          obtain ⟨k, hk, rfl, rfl, hC2, hK2, hA2⟩ := hrel
          by_cases hkl : k < ss.length
          · have hpw : p < ws.length := by omega
            obtain ⟨wa, capw, capm, c0, c1, c2, c3, cw⟩ := hC2.cells
            obtain ⟨g, rfl, hg, q1, q2, q3⟩ := cw p hpw
            have q4 := (HS.out.keep hK2).2 k hkl
            clear cw
            by_cases hb1 : ws[p].sort = sort
            · have HB1 : Hid (ws[p].sort = sort) := hb1
              rw [hb1] at q1
              clear hb1
              by_cases hb2 : ws[p].text = ss[k]
              · have HB2 : Hid (ws[p].text = ss[k]) := hb2
                rw [hb2] at q2
                clear hb2
                have HJ : Hid (isJ (tok ws[p])) := (H2.out _ (h.ok _ (List.getElem_mem hpw))).2 ⟨HB1.out, by rw [HB2.out]; exact List.getElem_mem hkl⟩
                go_wp2
                go_quiet (fail)
                go_wp2_with fail
                refine (hI same i p _ (hC2.drew _) (by omega) (by omega) (by omega) (by have := rk_lt same; omega)).mono ?_
                rintro e w3 ⟨v3, rfl, hC3, hK3, hF3⟩
                rw [Int.toNat_natCast] at hF3
                go_wp2_with fail
                refine (hI alone (p + 1) j _ hC3 (by omega) (by omega) (by omega) (by have := rk_lt alone; omega)).mono ?_
                rintro e w4 ⟨v4, rfl, hC4, hK4, hF4⟩
                rw [Int.toNat_natCast] at hF4
                have hK24 : Keep M wr w4 := ((Keep.drew M _ _).trans hK3).trans hK4
                have hKW := hK2.trans hK24
                have hA4 := hA2.keep hK24
                have HA4 : Hid (NoCut same alone isJ (ws.map tok) i j p → Ans M N w4 u15 (∀ k', k' < k + 1 → ∀ (hk : k' < ss.length) (hl : p < ws.length), ws[p].sort = sort → ws[p].text = ss[k'] → NoCut same alone isJ (ws.map tok) i j p) (D same (sw ws i j))) := by
                  intro hnc
                  rcases hA4 with ⟨e, _⟩ | hA4
                  · exact .inl ⟨e, fun _ _ _ _ _ _ => hnc⟩
                  · exact .inr hA4
                clear hA4
                rcases hF3 with ⟨rfl, hn3⟩ | ⟨b3, t3, rfl, hb3, hp3, hd3⟩
                · have HN3 : Hid (NoCut same alone isJ (ws.map tok) i j p) := fun u _ _ h _ => hn3 h
                  clear hn3
                  go_wp2
                  go_roundg (ss.length - (k + 1) + 1)
                  case measure => omega
                  case rel => exact ⟨k + 1, by omega, rfl, by exact vint (by omega), hC4, hKW, HA4.out HN3.out⟩
                · rcases hF4 with ⟨rfl, hn4⟩ | ⟨b4, t4, rfl, hb4, hp4, hd4⟩
                  · have HN4 : Hid (NoCut same alone isJ (ws.map tok) i j p) := fun u _ _ _ => hn4
                    clear hn4
                    go_wp2
                    go_roundg (ss.length - (k + 1) + 1)
                    case measure => omega
                    case rel => exact ⟨k + 1, by omega, rfl, by exact vint (by omega), hC4, hKW, HA4.out HN4.out⟩
                  · have q5 := (HS.out.keep hKW).2 k hkl
                    go_wp2
                    go_roundg (ss.length - (k + 1) + 1)
                    case measure => omega
                    case rel =>
                      have hM := hC4.mlt
                      have hN := hC4.nlt
                      have hp3' := hp3.keep hK4
                      refine ⟨k + 1, by omega, rfl, by exact vint (by omega), (hC4.alloc _).alloc _, (hKW.trans (Keep.alloc M _ _)).trans (Keep.alloc M _ _), .inr ⟨_, _, rfl, ?_, mk_nd2 hM hN { kind := ss[k] } hp3' hp4, ?_⟩⟩
                      · simp; omega
                      · have e := H4.out _ ws[p] _ _ _ HJ.out hd3 hd4
                        rw [HB2.out] at e
                        rw [sw_split ws (i := i) (p := p) (by omega) hlt hj]
                        exact e
              · have hb3 : (ws[p].text == ss[k]) = false := by simpa using hb2
                go_wp2
                go_quiet (fail)
                go_wp2_with fail
                go_roundg (ss.length - (k + 1) + 1)
                case measure => omega
                case rel =>
                  refine ⟨k + 1, by omega, rfl, by exact vint (by omega), hC2.drew _, hK2.trans (Keep.drew M _ _), ?_⟩
                  rcases hA2.keep (Keep.drew M _ _) with ⟨e, hn⟩ | hA
                  · refine .inl ⟨e, fun k' hk' hk2 hl e1 e2 => ?_⟩
                    by_cases hkk : k' = k
                    · subst hkk; exact absurd e2 hb2
                    · exact hn k' (by omega) hk2 hl e1 e2
                  · exact .inr hA
            · go_wp2
              go_quiet (fail)
              go_wp2
              go_roundg (ss.length - (k + 1) + 1)
              case measure => omega
              case rel =>
                refine ⟨k + 1, by omega, rfl, by exact vint (by omega), hC2.drew _, hK2.trans (Keep.drew M _ _), ?_⟩
                rcases hA2.keep (Keep.drew M _ _) with ⟨e, hn⟩ | hA
                · exact .inl ⟨e, fun k' hk' hk2 hl e1 e2 => absurd e1 hb1⟩
                · exact .inr hA
          · go_wp2
            go_roundg (j - (p + 1) + 1)
            case measure => omega
            case rel =>
              refine ⟨p + 1, by omega, by omega, rfl, by exact vint (by omega), hC2, hK2, ?_⟩
              rcases hA2 with ⟨e, hn⟩ | hA
              · refine .inl ⟨e, HNO.out.1, fun q h1 h2 => ?_⟩
                by_cases hqp : q = p
                · subst hqp
                  intro u hu hju
                  obtain ⟨hl, rfl⟩ := tok_get hu
                  obtain ⟨e1, e2⟩ := (H2.out _ (h.ok _ (List.getElem_mem hl))).1 hju
                  obtain ⟨k', hk', e3⟩ := List.getElem_of_mem e2
                  exact hn k' (by omega) hk' hl e1 e3.symm _ hu hju
                · exact HNO.out.2 q h1 (by omega)
              · exact .inr hA
      · go_wp2
        go_ret
        exact ⟨_, rfl, hC, hK, .inl ⟨rfl, noTil_all HL.out H1.out (by rw [show j = p from by omega]; rw [show j = p from by omega] at hno; exact hno)⟩⟩
    · by_cases hlt : p < j <;>
        (go_wp2; go_ret; exact ⟨_, rfl, hC, hK, .inr ⟨b, t, rfl, hb, hp, hd⟩⟩)
end Gr
end Go.Proofs.YtfkdfplnhlnnoaaGreatDoor
end
