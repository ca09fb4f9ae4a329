import Derived.Test.YtfkdfplnhlnnoaaGreatDoorBgJa04
import Derived.Test.YtfkdfplnhlnnoaaGreatDoorBgPr
section
namespace Go.Proofs.YtfkdfplnhlnnoaaGreatDoor
namespace Gr
set_option linter.unusedSimpArgs false
set_option linter.unusedVariables false
open T NT
/-- a word's own bounds -/
structure WOk (w : RW) : Prop where
  text : w.text.length ≤ 400
  lo : -9223372036854775808 ≤ w.num
  hi : w.num ≤ 9223372036854775807
theorem decN_le (k : Nat) : ∀ n, n < 10 ^ (k + 1) → (decN n).length ≤ k + 1 := by
  induction k with
  | zero => intro n h; rw [decN, if_pos (by simpa using h)]; simp
  | succ k ih =>
    intro n h
    by_cases h1 : n < 10
    · rw [decN, if_pos h1]; simp
    · rw [decN, if_neg h1, List.length_append]
      have := ih (n / 10) (by rw [Nat.div_lt_iff_lt_mul (by omega)]; rw [Nat.pow_succ] at h; exact h)
      simp; omega
theorem dec_le {n : Int} (h1 : -9223372036854775808 ≤ n) (h2 : n ≤ 9223372036854775807) : (dec n).length ≤ 21 := by
  have := decN_le 19 n.natAbs (by rw [show (10 : Nat) ^ (19 + 1) = 100000000000000000000 from rfl]; omega)
  unfold dec
  split <;> simp <;> omega
theorem quoteB_le : ∀ a : Bg.Str, (quoteB a).length ≤ 2 * a.length
  | [] => by simp [quoteB]
  | x :: a => by
    have := quoteB_le a
    unfold quoteB
    split <;> simp <;> omega
theorem quote_le (s : Bg.Str) : (quote s).length ≤ 2 * s.length + 2 := by
  have := quoteB_le s
  unfold quote; simp; omega
theorem asP_le (s n : Bg.Str) : (asP s n).length ≤ s.length + n.length + 4 := by
  unfold asP; split <;> (try simp) <;> omega
theorem notP_le (b : Bool) : (notP b).length ≤ 4 := by cases b <;> decide
/-- no part's text is much longer than its parts' -/
theorem prN_le {f : Fl} (hf : FlOk f) (hs : f.kind ≠ [115, 101, 108, 101, 99, 116]) (ks is fs gs : List Bg.Str) (w h : Option Bg.Str) : (prN f ks is fs gs w h).length ≤ 900 + (ks.getD 0 []).length + (ks.getD 1 []).length := by
  have h1 := dec_le hf.lo hf.hi
  have h2 := quote_le f.text
  have h3 := asP_le (ks.getD 0 []) f.as_
  have h4 := asP_le f.text f.as_
  have h5 := notP_le f.not_
  have t1 := hf.kind
  have t2 := hf.sign
  have t3 := hf.text
  have t4 := hf.of_
  have t5 := hf.as_
  unfold prN
  generalize ks.getD 0 [] = x0 at *
  generalize ks.getD 1 [] = x1 at *
  by_cases c0 : f.kind = [110, 117, 109]
  · rw [if_pos c0]; omega
  rw [if_neg c0]
  by_cases c1 : f.kind = [116, 101, 120, 116]
  · rw [if_pos c1]; omega
  rw [if_neg c1]
  by_cases c2 : f.kind = [110, 117, 108, 108]
  · rw [if_pos c2]; simp only [List.length_append, List.length_cons, List.length_nil]; omega
  rw [if_neg c2]
  by_cases c3 : f.kind = [99, 111, 108, 117, 109, 110]
  · rw [if_pos c3]
    by_cases d : f.of_ = []
    · rw [if_pos d]; omega
    · rw [if_neg d]; simp only [List.length_append, List.length_cons, List.length_nil]; omega
  rw [if_neg c3]
  by_cases c4 : f.kind = [110, 101, 103]
  · rw [if_pos c4]; simp only [List.length_append, List.length_cons, List.length_nil]; omega
  rw [if_neg c4]
  by_cases c5 : f.kind ∈ fns4
  · rw [if_pos c5]
    by_cases d : f.star = true
    · rw [if_pos d]; simp only [List.length_append, List.length_cons, List.length_nil]; omega
    · rw [if_neg d]; simp only [List.length_append, List.length_cons, List.length_nil]; omega
  rw [if_neg c5]
  by_cases c6 : f.kind = [110, 111, 116]
  · rw [if_pos c6]; simp only [List.length_append, List.length_cons, List.length_nil]; omega
  rw [if_neg c6]
  by_cases c7 : f.kind = [101, 120, 105, 115, 116, 115]
  · rw [if_pos c7]; simp only [List.length_append, List.length_cons, List.length_nil]; omega
  rw [if_neg c7]
  by_cases c8 : f.kind = [105, 115, 110, 117, 108, 108]
  · rw [if_pos c8]; simp only [List.length_append, List.length_cons, List.length_nil]; omega
  rw [if_neg c8]
  by_cases c9 : f.kind = [105, 110]
  · rw [if_pos c9]; simp only [List.length_append, List.length_cons, List.length_nil]; omega
  rw [if_neg c9]
  by_cases c10 : f.kind = [97, 110, 121] ∨ f.kind = [97, 108, 108]
  · rw [if_pos c10]; simp only [List.length_append, List.length_cons, List.length_nil]; omega
  rw [if_neg c10]
  by_cases c11 : f.kind = [99, 111, 109, 112, 97, 114, 101]
  · rw [if_pos c11]; simp only [List.length_append, List.length_cons, List.length_nil]; omega
  rw [if_neg c11]
  by_cases c12 : f.kind = [105, 116, 101, 109]
  · rw [if_pos c12]; omega
  rw [if_neg c12]
  by_cases c13 : f.kind = [115, 111, 117, 114, 99, 101]
  · rw [if_pos c13]; omega
  rw [if_neg c13]
  by_cases c14 : f.kind = [115, 101, 108, 101, 99, 116]
  · exact absurd c14 hs
  rw [if_neg c14]
  by_cases c15 : f.kind ∈ sets3 ∧ f.all = true
  · rw [if_pos c15]; simp only [List.length_append, List.length_cons, List.length_nil]; omega
  rw [if_neg c15]
  simp only [List.length_append, List.length_cons, List.length_nil]; omega
theorem pr_nd (f : Fl) (k : Tr) : pr (nd f k) = prN f (prs k) [] [] [] none none := by
  unfold nd; rw [pr]; simp [prs, Tr.isNode]
theorem pr_l1 (x : Tr) : prs (l1 x) = [pr x] := by simp [l1, prs]
theorem pr_l2 (x y : Tr) : prs (l2 x y) = [pr x, pr y] := by simp [l2, prs]
theorem good_nd {f : Fl} {k : Tr} (hk : GoodL k) (hf : FlOk f) (ha : arity f ≤ k.len) (hl : k.len ≤ 400) (hp : (pr (nd f k)).length ≤ 400000) : Good (nd f k) := by
  unfold nd at hp ⊢
  rw [Good]
  exact ⟨⟨ha, hf, hp, by simp [prs, commas], by simp [prs, commas], by simp [prs, commas], hl, by simp [Tr.len], by simp [Tr.len], by simp [Tr.len]⟩, hk, by simp [GoodL], by simp [GoodL], by simp [GoodL], by simp [Tr.isNode], by simp [Tr.isNode], .inl rfl, .inl rfl⟩
theorem goodL_l1 {x : Tr} (h : Good x) : GoodL (l1 x) := by unfold l1; rw [GoodL, GoodL]; exact ⟨h, trivial⟩
theorem goodL_l2 {x y : Tr} (h : Good x) (h2 : Good y) : GoodL (l2 x y) := by unfold l2; rw [GoodL, GoodL, GoodL]; exact ⟨h, h2, trivial⟩
/-- a part of its own words -/
def GB (n : Nat) (t : Tr) : Prop := Good t ∧ (pr t).length + 50 ≤ 1000 * n
theorem gb_nd0 {f : Fl} {n : Nat} (hn : 1 ≤ n := by simp) (hf : FlOk f := by (constructor <;> first | exact Nat.zero_le _ | exact (hW _ (by simp)).text | exact (hW _ (by simp)).lo | exact (hW _ (by simp)).hi | (simp [kNum, kText]; done))) (hs : f.kind ≠ [115, 101, 108, 101, 99, 116] := by simp [kNum, kText]) (ha : arity f = 0 := by simp [arity, fns4, kNum, kText]) : GB n (nd f .nil) := by
  have hl := prN_le hf hs (prs .nil) [] [] [] none none
  rw [← pr_nd] at hl
  simp only [prs, List.getD_nil, List.length_nil] at hl
  exact ⟨good_nd (by simp [GoodL]) hf (by rw [ha]; exact Nat.zero_le _) (by simp [Tr.len]) (by omega), by omega⟩
theorem gb_nd1 {f : Fl} {x : Tr} {n m : Nat} (hx : GB n x) (hs : f.kind ≠ [115, 101, 108, 101, 99, 116] := by simp) (ha : arity f ≤ 1 := by simp [arity, fns4]) (hn : n + 1 ≤ m := by simp only [List.length_append, List.length_cons, List.length_nil]; omega) (hm : m ≤ 400 := by assumption) (hf : FlOk f := by (constructor <;> first | exact Nat.zero_le _ | exact (hW _ (by simp)).text | exact (hW _ (by simp)).lo | exact (hW _ (by simp)).hi | (simp [kNum, kText]; done))) : GB m (nd f (l1 x)) := by
  have hl := prN_le hf hs (prs (l1 x)) [] [] [] none none
  rw [← pr_nd, pr_l1] at hl
  have h2 := hx.2
  simp at hl
  exact ⟨good_nd (goodL_l1 hx.1) hf (by simpa [l1, Tr.len] using ha) (by simp [l1, Tr.len]) (by omega), by omega⟩
theorem arity_le (f : Fl) : arity f ≤ 2 := by
  unfold arity
  repeat' split
  all_goals omega
theorem gb_nd2 {f : Fl} {x y : Tr} {n n' m : Nat} (hx : GB n x) (hy : GB n' y) (hs : f.kind ≠ [115, 101, 108, 101, 99, 116] := by simp) (hn : n + n' + 1 ≤ m := by simp only [List.length_append, List.length_cons, List.length_nil]; omega) (hm : m ≤ 400 := by assumption) (hf : FlOk f := by (constructor <;> first | exact Nat.zero_le _ | exact (hW _ (by simp)).text | exact (hW _ (by simp)).lo | exact (hW _ (by simp)).hi | (simp [kNum, kText]; done))) : GB m (nd f (l2 x y)) := by
  have hl := prN_le hf hs (prs (l2 x y)) [] [] [] none none
  rw [← pr_nd, pr_l2] at hl
  have h2 := hx.2
  have h3 := hy.2
  simp at hl
  exact ⟨good_nd (goodL_l2 hx.1 hy.1) hf (by simpa [l2, Tr.len] using arity_le f) (by simp [l2, Tr.len]) (by omega), by omega⟩
theorem GB.mono {n m : Nat} {t : Tr} (h : GB n t) (hm : n ≤ m) : GB m t := ⟨h.1, by have := h.2; omega⟩
/-- a row's parts -/
def LB (n : Nat) (t : Tr) : Prop := GoodL t ∧ (commas (prs t)).length + 48 ≤ 1000 * n ∧ t.len ≤ n ∧ prs t ≠ []
/-- a part that may be missing -/
def OB (n : Nat) (t : Tr) : Prop := (t = .nil) ∨ (t.isNode = true ∧ GB n t)
/-- what D's trees are, by their kind -/
def DB (k : NT) (n : Nat) (t : Tr) : Prop := match k with
  | items => ∃ x, t = nd { kind := [114, 111, 119] } x ∧ LB n x
  | sources => ∃ x, t = nd { kind := [114, 111, 119] } x ∧ LB n x
  | columns => ∃ x, t = nd { kind := [114, 111, 119] } x ∧ LB n x
  | tail => ∃ f g w h nf ng nw nh, t = tailT f g w h ∧ LB nf f ∧ (g = .nil ∨ LB ng g) ∧ OB nw w ∧ OB nh h ∧ nf + ng + nw + nh ≤ n
  | after => ∃ g w h ng nw nh, t = tailT .nil g w h ∧ (g = .nil ∨ LB ng g) ∧ OB nw w ∧ OB nh h ∧ ng + nw + nh ≤ n
  | grouped => ∃ g h ng nh, t = tailT .nil g .nil h ∧ LB ng g ∧ OB nh h ∧ ng + nh ≤ n
  | _ => GB n t ∧ t.isNode = true
theorem lookup_mem {s : Bg.Str} {t : T} : ∀ {l : List (Bg.Str × T)}, l.lookup s = some t → (s, t) ∈ l
  | [], h => by cases h
  | (a, b) :: l, h => by
    rw [List.lookup_cons] at h
    split at h
    · rename_i e
      cases h
      have : s = a := by simpa using e
      rw [this]; exact List.mem_cons_self
    · exact List.mem_cons_of_mem _ (lookup_mem h)
theorem tok_mem {w : RW} {t : T} (h : tok w = t) (h1 : t ≠ name) (h2 : t ≠ lit) : (w.text, t) ∈ keyToks ++ signToks := by
  unfold tok at h
  split at h
  · unfold keyTok at h
    cases e : keyToks.lookup w.text with
    | none => rw [e] at h; exact absurd h.symm h2
    | some t' => rw [e] at h; simp at h; subst h; exact List.mem_append_left _ (lookup_mem e)
  · split at h
    · unfold signTok at h
      cases e : signToks.lookup w.text with
      | none => rw [e] at h; exact absurd h.symm h2
      | some t' => rw [e] at h; simp at h; subst h; exact List.mem_append_right _ (lookup_mem e)
    · split at h
      · exact absurd h.symm h1
      · exact absurd h.symm h2
theorem sel_tab : ∀ p ∈ keyToks ++ signToks, p.2 ≠ sel → p.1 ≠ [115, 101, 108, 101, 99, 116] := by decide
theorem agg_tabF : ∀ p ∈ keyToks ++ signToks, isAgg p.2 = true → p.1 ∈ fns4 := by decide
theorem text_ne {w : RW} (h : tok w ≠ sel ∧ tok w ≠ name ∧ tok w ≠ lit) : w.text ≠ [115, 101, 108, 101, 99, 116] := sel_tab _ (tok_mem rfl h.2.1 h.2.2) h.1
theorem set_ne {t : T} (h : isSet t = true) : t ≠ sel ∧ t ≠ name ∧ t ≠ lit := by cases t <;> first | (exact absurd h (by decide)) | decide
theorem add_ne {t : T} (h : isAdd t = true) : t ≠ sel ∧ t ≠ name ∧ t ≠ lit := by cases t <;> first | (exact absurd h (by decide)) | decide
theorem mul_ne {t : T} (h : isMul t = true) : t ≠ sel ∧ t ≠ name ∧ t ≠ lit := by cases t <;> first | (exact absurd h (by decide)) | decide
theorem how_ne {t : T} (h : isHow t = true) : t ≠ sel ∧ t ≠ name ∧ t ≠ lit := by cases t <;> first | (exact absurd h (by decide)) | decide
theorem agg_ne {t : T} (h : isAgg t = true) : t ≠ sel ∧ t ≠ name ∧ t ≠ lit := by cases t <;> first | (exact absurd h (by decide)) | decide
theorem agg_text {w : RW} (h : isAgg (tok w) = true) : w.text ∈ fns4 := agg_tabF _ (tok_mem rfl (agg_ne h).2.1 (agg_ne h).2.2) h
theorem arity_agg {f : Fl} (h : f.kind ∈ fns4) : arity f ≤ 1 := by
  unfold fns4 at h
  simp only [List.mem_cons, List.not_mem_nil, or_false] at h
  unfold arity
  rcases h with h | h | h | h <;> rw [h] <;> simp [fns4] <;> split <;> omega
theorem lb_one {n : Nat} {x : Tr} (h : GB n x) (hn : 1 ≤ n) : LB n (l1 x) := by
  refine ⟨goodL_l1 h.1, ?_, by simp [l1, Tr.len]; exact hn, by simp [l1, prs]⟩
  have := h.2
  simp [l1, prs, commas]; omega
theorem goodL_snoc {y : Tr} (hy : Good y) : ∀ t : Tr, GoodL t → GoodL (t.snoc y)
  | .nil, _ => goodL_l1 hy
  | .cons a t, h => by
    rw [GoodL] at h
    show GoodL (.cons a (t.snoc y))
    rw [GoodL]
    exact ⟨h.1, goodL_snoc hy t h.2⟩
  | .node _ _ _ _ _ _ _, h => by rw [GoodL] at h; exact h.elim
theorem prs_snoc (y : Tr) : ∀ t : Tr, GoodL t → prs (t.snoc y) = prs t ++ [pr y]
  | .nil, _ => by simp [Tr.snoc, prs]
  | .cons a t, h => by
    rw [GoodL] at h
    show prs (.cons a (t.snoc y)) = _
    simp [prs, prs_snoc y t h.2]
  | .node _ _ _ _ _ _ _, h => by rw [GoodL] at h; exact h.elim
theorem snoc_le (y : Tr) : ∀ t : Tr, (t.snoc y).len ≤ t.len + 1
  | .nil => by simp [Tr.snoc, Tr.len]
  | .cons a t => by
    have := snoc_le y t
    show (Tr.cons a (t.snoc y)).len ≤ _
    simp [Tr.len]; exact this
  | .node _ _ _ _ _ _ _ => by simp [Tr.snoc, Tr.len]
theorem commas_end : ∀ (l : List Bg.Str) (x : Bg.Str), (commas (l ++ [x])).length ≤ (commas l).length + 2 + x.length
  | [], x => by simp [commas]
  | [a], x => by simp [commas]; omega
  | a :: b :: l, x => by
    have ih := commas_end (b :: l) x
    have e : commas (a :: b :: l) = a ++ [44, 32] ++ commas (b :: l) := by rw [commas]; simp
    have e2 : commas (a :: b :: l ++ [x]) = a ++ [44, 32] ++ commas (b :: l ++ [x]) := by
      rw [List.cons_append, List.cons_append, commas]; simp
    rw [e, e2]; simp at ih ⊢; omega
theorem lb_snoc {n n' m : Nat} {x y : Tr} (hx : LB n x) (hy : GB n' y) (hm : n + n' + 1 ≤ m) : LB m (x.snoc y) := by
  obtain ⟨h1, h2, h3, h4⟩ := hx
  refine ⟨goodL_snoc hy.1 x h1, ?_, by have := snoc_le y x; omega, by rw [prs_snoc y x h1]; simp⟩
  rw [prs_snoc y x h1]
  have := commas_end (prs x) (pr y)
  have := hy.2
  omega
theorem ob_pr {n : Nat} {t : Tr} (h : OB n t) : (t.isNode = true → Good t) ∧ (t = .nil ∨ t.isNode = true) ∧ (t.isNode = true → (pr t).length + 50 ≤ 1000 * n) := by
  rcases h with rfl | ⟨h1, h2⟩
  · exact ⟨fun h => (by cases h), .inl rfl, fun h => (by cases h)⟩
  · exact ⟨fun _ => h2.1, .inr h1, fun _ => h2.2⟩
theorem lb_opt {n : Nat} {t : Tr} (h : t = .nil ∨ LB n t) : GoodL t ∧ (commas (prs t)).length ≤ 1000 * n ∧ t.len ≤ n := by
  rcases h with rfl | h
  · simp [GoodL, prs, commas, Tr.len]
  · exact ⟨h.1, by have := h.2.1; omega, h.2.2.1⟩
theorem good_sel {st di : Bool} {it f g w h : Tr} {ni nf ng nw nh m : Nat} (hi : it = .nil ∨ LB ni it) (hf : LB nf f) (hg : g = .nil ∨ LB ng g) (hw : OB nw w) (hh : OB nh h) (hm : ni + nf + ng + nw + nh + 2 ≤ m) (h4 : m ≤ 400) : GB m (selT st di it (tailT f g w h)) ∧ (selT st di it (tailT f g w h)).isNode = true := by
  refine ⟨?_, rfl⟩
  obtain ⟨i1, i2, i3⟩ := lb_opt hi
  obtain ⟨f1, f2, f3, f4⟩ := hf
  obtain ⟨g1, g2, g3⟩ := lb_opt hg
  obtain ⟨w1, w2, w3⟩ := ob_pr hw
  obtain ⟨h1, h2, h3⟩ := ob_pr hh
  have hl : (pr (selT st di it (tailT f g w h))).length + 50 ≤ 1000 * m := by
    unfold selT tailT
    rw [pr]
    unfold prN
    simp only [Tr.frm, Tr.grp, Tr.whr, Tr.hav]
    rw [if_neg (by decide), if_neg (by decide), if_neg (by decide), if_neg (by decide), if_neg (by decide), if_neg (by decide), if_neg (by decide), if_neg (by decide), if_neg (by decide), if_neg (by decide), if_neg (by decide), if_neg (by decide), if_neg (by decide), if_neg (by decide), if_pos (by first | rfl | trivial)]
    unfold selP
    have a3 : (if prs g = [] then ([] : Bg.Str) else [32, 103, 114, 111, 117, 112, 32, 98, 121, 32] ++ commas (prs g)).length ≤ 1000 * ng + 10 := by
      split <;> simp <;> omega
    have a4 : (if di = true then ([100, 105, 115, 116, 105, 110, 99, 116, 32] : Bg.Str) else []).length ≤ 9 := by split <;> simp
    have a5 : (if st = true then ([42] : Bg.Str) else []).length ≤ 1 := by split <;> simp
    rcases Bool.eq_false_or_eq_true w.isNode with hx | hx <;> rcases Bool.eq_false_or_eq_true h.isNode with hy | hy
    · have := h3 hy
      have := w3 hx
      simp only [hx, hy, List.length_append, List.length_cons, List.length_nil, Bool.false_eq_true, if_false, if_true] at a3 ⊢
      omega
    · have := w3 hx
      simp only [hx, hy, List.length_append, List.length_cons, List.length_nil, Bool.false_eq_true, if_false, if_true] at a3 ⊢
      omega
    · have := h3 hy
      simp only [hx, hy, List.length_append, List.length_cons, List.length_nil, Bool.false_eq_true, if_false, if_true] at a3 ⊢
      omega
    · simp only [hx, hy, List.length_append, List.length_cons, List.length_nil, Bool.false_eq_true, if_false, if_true] at a3 ⊢
      omega
  refine ⟨?_, hl⟩
  unfold selT tailT at hl ⊢
  rw [Good]
  refine ⟨⟨by simp [arity], ⟨by simp, by simp, by simp, by simp, by simp, by simp, by simp⟩, by first | omega | (simp only [Tr.frm]; omega) | (simp only [Tr.grp]; omega) | (simp only [Tr.len]; omega), by first | omega | (simp only [Tr.frm]; omega) | (simp only [Tr.grp]; omega) | (simp only [Tr.len]; omega), by first | omega | (simp only [Tr.frm]; omega) | (simp only [Tr.grp]; omega) | (simp only [Tr.len]; omega), by first | omega | (simp only [Tr.frm]; omega) | (simp only [Tr.grp]; omega) | (simp only [Tr.len]; omega), by simp [Tr.len], by first | omega | (simp only [Tr.frm]; omega) | (simp only [Tr.grp]; omega) | (simp only [Tr.len]; omega), by first | omega | (simp only [Tr.frm]; omega) | (simp only [Tr.grp]; omega) | (simp only [Tr.len]; omega), by first | omega | (simp only [Tr.frm]; omega) | (simp only [Tr.grp]; omega) | (simp only [Tr.len]; omega)⟩, by simp [GoodL], i1, f1, g1, w1, h1, w2, h2⟩
theorem wok_l {a : List RW} {l : List RW} (hW : ∀ w ∈ l, WOk w) (h : ∀ w ∈ a, w ∈ l) : ∀ w ∈ a, WOk w := fun w hw => hW w (h w hw)
/-- a hypothesis of the induction, for words and their number -/
theorem apD {A B C : Prop} (f : A → B → C) (a : A := by exact wok_l hW (by intro w hw; simp [hw])) (b : B := by simp only [List.length_append, List.length_cons, List.length_nil] at hL; omega) : C := f a b
/-- the trees of words can be printed -/
theorem D.db {k : NT} {l : List RW} {t : Tr} (h : D k l t) : (∀ w ∈ l, WOk w) → l.length ≤ 400 → DB k l.length t := by
  induction h with
  | qCore _ ih =>
    intro hW hL
    exact ih hW hL
  | kConj _ ih =>
    intro hW hL
    exact ih hW hL
  | jNeg _ ih =>
    intro hW hL
    exact ih hW hL
  | nBasic _ ih =>
    intro hW hL
    exact ih hW hL
  | eTerm _ ih =>
    intro hW hL
    exact ih hW hL
  | mFac _ ih =>
    intro hW hL
    exact ih hW hL
  | fCol _ ih =>
    intro hW hL
    exact ih hW hL
  | cRound _ _ _ ih =>
    intro hW hL
    have := apD ih
    exact ⟨this.1.mono (by simp only [List.length_append, List.length_cons, List.length_nil]; omega), this.2⟩
  | bRound _ _ _ ih =>
    intro hW hL
    have := apD ih
    exact ⟨this.1.mono (by simp only [List.length_append, List.length_cons, List.length_nil]; omega), this.2⟩
  | fRound _ _ _ ih =>
    intro hW hL
    have := apD ih
    exact ⟨this.1.mono (by simp only [List.length_append, List.length_cons, List.length_nil]; omega), this.2⟩
  | qJoin hu _ _ ih1 ih2 =>
    intro hW hL
    have h1 := apD ih1
    have h2 := apD ih2
    exact ⟨gb_nd2 h1.1 h2.1 (text_ne (set_ne hu)), rfl⟩
  | qJoinAll hu _ _ _ ih1 ih2 =>
    intro hW hL
    have h1 := apD ih1
    have h2 := apD ih2
    exact ⟨gb_nd2 h1.1 h2.1 (text_ne (set_ne hu)), rfl⟩
  | kOr hu _ _ ih1 ih2 =>
    intro hW hL
    have h1 := apD ih1
    have h2 := apD ih2
    exact ⟨gb_nd2 h1.1 h2.1 (text_ne (by rw [hu]; decide)), rfl⟩
  | jAnd hu _ _ ih1 ih2 =>
    intro hW hL
    have h1 := apD ih1
    have h2 := apD ih2
    exact ⟨gb_nd2 h1.1 h2.1 (text_ne (by rw [hu]; decide)), rfl⟩
  | eMore hu _ _ ih1 ih2 =>
    intro hW hL
    have h1 := apD ih1
    have h2 := apD ih2
    exact ⟨gb_nd2 h1.1 h2.1 (text_ne (add_ne hu)), rfl⟩
  | mMore hu _ _ ih1 ih2 =>
    intro hW hL
    have h1 := apD ih1
    have h2 := apD ih2
    exact ⟨gb_nd2 h1.1 h2.1 (text_ne (mul_ne hu)), rfl⟩
  | bIn _ _ _ _ _ ih1 ih2 =>
    intro hW hL
    have h1 := apD ih1
    have h2 := apD ih2
    exact ⟨gb_nd2 h1.1 h2.1, rfl⟩
  | bNotIn _ _ _ _ _ _ ih1 ih2 =>
    intro hW hL
    have h1 := apD ih1
    have h2 := apD ih2
    exact ⟨gb_nd2 h1.1 h2.1, rfl⟩
  | bHow _ hh _ _ _ _ ih1 ih2 =>
    intro hW hL
    have h1 := apD ih1
    have h2 := apD ih2
    exact ⟨gb_nd2 h1.1 h2.1 (text_ne (how_ne hh)), rfl⟩
  | bCmp _ _ _ ih1 ih2 =>
    intro hW hL
    have h1 := apD ih1
    have h2 := apD ih2
    exact ⟨gb_nd2 h1.1 h2.1, rfl⟩
  | nNot _ _ ih =>
    intro hW hL
    have h1 := apD ih
    exact ⟨gb_nd1 h1.1, rfl⟩
  | bExists _ _ _ _ ih =>
    intro hW hL
    have h1 := apD ih
    exact ⟨gb_nd1 h1.1, rfl⟩
  | bNull _ _ _ ih =>
    intro hW hL
    have h1 := apD ih
    exact ⟨gb_nd1 h1.1, rfl⟩
  | bNotNull _ _ _ _ ih =>
    intro hW hL
    have h1 := apD ih
    exact ⟨gb_nd1 h1.1, rfl⟩
  | fNeg _ _ ih =>
    intro hW hL
    have h1 := apD ih
    exact ⟨gb_nd1 h1.1, rfl⟩
  | itemAs _ _ _ ih =>
    intro hW hL
    have h1 := apD ih
    exact ⟨gb_nd1 h1.1, rfl⟩
  | fAgg hu _ _ _ ih =>
    intro hW hL
    have h1 := apD ih
    exact ⟨gb_nd1 h1.1 (text_ne (agg_ne hu)) (arity_agg (agg_text hu)), rfl⟩
  | src _ =>
    intro hW hL
    exact ⟨gb_nd0, rfl⟩
  | srcAs _ _ _ =>
    intro hW hL
    exact ⟨gb_nd0, rfl⟩
  | col _ =>
    intro hW hL
    exact ⟨gb_nd0, rfl⟩
  | colOf _ _ _ =>
    intro hW hL
    exact ⟨gb_nd0, rfl⟩
  | fNum _ _ =>
    intro hW hL
    exact ⟨gb_nd0, rfl⟩
  | fText _ _ =>
    intro hW hL
    exact ⟨gb_nd0, rfl⟩
  | fNull _ =>
    intro hW hL
    exact ⟨gb_nd0, rfl⟩
  | fStar _ _ _ _ =>
    intro hW hL
    exact ⟨gb_nd0, rfl⟩
  | item _ ih =>
    intro hW hL
    have h1 := ih hW hL
    refine ⟨?_, rfl⟩
    obtain ⟨g1, g2⟩ := h1.1
    rename_i x _
    have e : pr (nd { kind := [105, 116, 101, 109] } (l1 x)) = pr x := by
      rw [pr_nd, pr_l1]; simp [prN, fns4, asP]
    exact ⟨good_nd (goodL_l1 g1) (by (constructor <;> first | exact Nat.zero_le _ | exact (hW _ (by simp)).text | exact (hW _ (by simp)).lo | exact (hW _ (by simp)).hi | (simp [kNum, kText]; done))) (by simp [arity, fns4, l1, Tr.len]) (by simp [l1, Tr.len]) (by rw [e]; omega), by rw [e]; exact g2⟩
  | iOne hd ih =>
    intro hW hL
    have h1 := ih hW hL
    exact ⟨_, rfl, lb_one h1.1 (by have := h1.1.2; omega)⟩
  | sOne hd ih =>
    intro hW hL
    have h1 := ih hW hL
    exact ⟨_, rfl, lb_one h1.1 (by have := h1.1.2; omega)⟩
  | cOne hd ih =>
    intro hW hL
    have h1 := ih hW hL
    exact ⟨_, rfl, lb_one h1.1 (by have := h1.1.2; omega)⟩
  | iMore _ _ _ ih1 ih2 =>
    intro hW hL
    obtain ⟨x, rfl, h1⟩ := apD ih1
    have h2 := apD ih2
    exact ⟨_, rfl, lb_snoc h1 h2.1 (by simp only [List.length_append, List.length_cons, List.length_nil]; omega)⟩
  | sMore _ _ _ ih1 ih2 =>
    intro hW hL
    obtain ⟨x, rfl, h1⟩ := apD ih1
    have h2 := apD ih2
    exact ⟨_, rfl, lb_snoc h1 h2.1 (by simp only [List.length_append, List.length_cons, List.length_nil]; omega)⟩
  | cMore _ _ _ ih1 ih2 =>
    intro hW hL
    obtain ⟨x, rfl, h1⟩ := apD ih1
    have h2 := apD ih2
    exact ⟨_, rfl, lb_snoc h1 h2.1 (by simp only [List.length_append, List.length_cons, List.length_nil]; omega)⟩
  | tSrc _ ih =>
    intro hW hL
    obtain ⟨x, rfl, h1⟩ := ih hW hL
    exact ⟨_, _, _, _, _, 0, 0, 0, rfl, h1, .inl rfl, .inl rfl, .inl rfl, by omega⟩
  | tWhere _ _ _ ih1 ih2 =>
    intro hW hL
    obtain ⟨x, rfl, h1⟩ := apD ih1
    obtain ⟨g, w, hh, ng, nw, nh, rfl, h2, h3, h4, h5⟩ := apD ih2
    exact ⟨_, _, _, _, _, ng, nw, nh, rfl, h1, h2, h3, h4, (by simp only [List.length_append, List.length_cons, List.length_nil]; omega)⟩
  | tGroup _ _ _ _ ih1 ih2 =>
    intro hW hL
    obtain ⟨x, rfl, h1⟩ := apD ih1
    obtain ⟨g, hh, ng, nh, rfl, h2, h3, h5⟩ := apD ih2
    exact ⟨_, _, _, _, _, ng, 0, nh, rfl, h1, .inr h2, .inl rfl, h3, (by simp only [List.length_append, List.length_cons, List.length_nil]; omega)⟩
  | aCond _ ih =>
    intro hW hL
    have h1 := ih hW hL
    exact ⟨_, _, _, 0, _, 0, rfl, .inl rfl, .inr ⟨h1.2, h1.1⟩, .inl rfl, by omega⟩
  | aGroup _ _ _ _ ih1 ih2 =>
    intro hW hL
    have h1 := apD ih1
    obtain ⟨g, hh, ng, nh, rfl, h2, h3, h5⟩ := apD ih2
    exact ⟨_, _, _, ng, _, nh, rfl, .inr h2, .inr ⟨h1.2, h1.1⟩, h3, (by simp only [List.length_append, List.length_cons, List.length_nil]; omega)⟩
  | gCols _ ih =>
    intro hW hL
    obtain ⟨x, rfl, h1⟩ := ih hW hL
    exact ⟨_, _, _, 0, rfl, h1, .inl rfl, by omega⟩
  | gHaving _ _ _ ih1 ih2 =>
    intro hW hL
    obtain ⟨x, rfl, h1⟩ := apD ih1
    have h2 := apD ih2
    exact ⟨_, _, _, _, rfl, h1, .inr ⟨h2.2, h2.1⟩, (by simp only [List.length_append, List.length_cons, List.length_nil]; omega)⟩
  | cStar _ _ _ _ ih =>
    intro hW hL
    obtain ⟨f, g, w, hh, nf, ng, nw, nh, rfl, h1, h2, h3, h4, h5⟩ := apD ih
    exact good_sel (ni := 0) (.inl rfl) h1 h2 h3 h4 (by simp only [List.length_append, List.length_cons, List.length_nil]; omega) hL
  | cStarD _ _ _ _ _ ih =>
    intro hW hL
    obtain ⟨f, g, w, hh, nf, ng, nw, nh, rfl, h1, h2, h3, h4, h5⟩ := apD ih
    exact good_sel (ni := 0) (.inl rfl) h1 h2 h3 h4 (by simp only [List.length_append, List.length_cons, List.length_nil]; omega) hL
  | cSel _ _ _ _ ih1 ih2 =>
    intro hW hL
    obtain ⟨x, rfl, h0⟩ := apD ih1
    obtain ⟨f, g, w, hh, nf, ng, nw, nh, rfl, h1, h2, h3, h4, h5⟩ := apD ih2
    exact good_sel (.inr h0) h1 h2 h3 h4 (by simp only [List.length_append, List.length_cons, List.length_nil]; omega) hL
  | cSelD _ _ _ _ _ ih1 ih2 =>
    intro hW hL
    obtain ⟨x, rfl, h0⟩ := apD ih1
    obtain ⟨f, g, w, hh, nf, ng, nw, nh, rfl, h1, h2, h3, h4, h5⟩ := apD ih2
    exact good_sel (.inr h0) h1 h2 h3 h4 (by simp only [List.length_append, List.length_cons, List.length_nil]; omega) hL
end Gr
end Go.Proofs.YtfkdfplnhlnnoaaGreatDoor
end
section
namespace Go.Proofs.YtfkdfplnhlnnoaaGreatDoor
namespace Gr
set_option linter.unusedSimpArgs false
set_option linter.unusedVariables false
open NT
theorem negNum_range : ∀ (s : Bg.Str) (n m : Int), (∀ c ∈ s, 48 ≤ c.toNat ∧ c.toNat ≤ 57) → -9223372036854775808 ≤ n → n ≤ 0 → Bg.negNum n s = some m → -9223372036854775808 ≤ m ∧ m ≤ 0
  | [], n, m, _, h1, h2, h => by unfold Bg.negNum at h; cases h; exact ⟨h1, h2⟩
  | c :: r, n, m, hd, h1, h2, h => by
    rw [Bg.negNum_cons] at h
    obtain ⟨d1, d2⟩ := hd c (by simp)
    split at h
    · cases h
    · rename_i hlt
      rw [Bg.tdiv_lo _ (by omega) (by omega)] at hlt
      exact negNum_range r _ m (fun x hx => hd x (by simp [hx])) (by omega) (by omega) h
theorem number_range {d : Bg.Str} (hd : ∀ c ∈ d, 48 ≤ c.toNat ∧ c.toNat ≤ 57) : -9223372036854775808 ≤ (Bg.number d false).1 ∧ (Bg.number d false).1 ≤ 9223372036854775807 := by
  cases h : Bg.negNum 0 d with
  | none => rw [Bg.number_none false h]; decide
  | some n =>
    obtain ⟨h1, h2⟩ := negNum_range d 0 n hd (by omega) (by omega) h
    rw [Bg.number_pos h]
    show -9223372036854775808 ≤ (if n = -9223372036854775808 then n else -n) ∧ (if n = -9223372036854775808 then n else -n) ≤ 9223372036854775807
    split <;> omega
theorem quo_text (m : Nat) : ∀ (l : Bg.Str), l.length ≤ m → ∀ acc n, (Bg.quo acc n l).1.length ≤ acc.length + l.length := by
  induction m with
  | zero =>
    intro l hl acc n
    cases l with
    | nil => rw [Bg.quo_nil]; simp
    | cons c r => simp at hl
  | succ m ih =>
    intro l hl acc n
    cases l with
    | nil => rw [Bg.quo_nil]; simp
    | cons c r =>
      simp only [List.length_cons] at hl ⊢
      by_cases h10 : c = 10
      · subst h10; rw [Bg.quo_nl]; simp
      · by_cases h39 : c = 39
        · subst h39
          cases r with
          | nil => rw [Bg.quo_end _ _ _ (fun r' e => by cases e)]; simp
          | cons d r =>
            by_cases hd : d = 39
            · subst hd
              rw [Bg.quo_two]
              have := ih r (by simp at hl; omega) (acc ++ [39]) (n + 2)
              simp at this ⊢; omega
            · rw [Bg.quo_end _ _ _ (fun r' e => by cases e; exact hd rfl)]; first | (simp; done) | (simp; omega)
        · rw [Bg.quo_plain _ _ _ _ h10 h39]
          have := ih r (by omega) (acc ++ [c]) (n + 1)
          simp at this; omega
theorem quoted_text (s : Bg.Str) : (Bg.quoted s).1.length ≤ s.length := by
  unfold Bg.quoted
  have := quo_text (s.drop 1).length (s.drop 1) (Nat.le_refl _) [] 1
  simp at this ⊢; omega
theorem rWord_wok (s : Bg.Str) (hs : s.length ≤ 400) : WOk (rWord s).1 := by
  unfold rWord
  split
  · split
    · refine ⟨by simp, ?_, ?_⟩
      · exact (number_range (fun c hc => Bg.digit_of (runs_take _ s c hc))).1
      · exact (number_range (fun c hc => Bg.digit_of (runs_take _ s c hc))).2
    · exact ⟨by simp [rNone], by simp [rNone], by simp [rNone]⟩
  · split
    · exact ⟨by show (s.take _).length ≤ 400; rw [List.length_take]; omega, by simp, by simp⟩
    · split
      · exact ⟨by have := quoted_text s; show (Bg.quoted s).1.length ≤ 400; omega, by simp, by simp⟩
      · split
        · exact ⟨by show (s.take _).length ≤ 400; rw [List.length_take]; omega, by simp, by simp⟩
        · split
          · exact ⟨by show (s.take _).length ≤ 400; rw [List.length_take]; omega, by simp, by simp⟩
          · exact ⟨by simp [rNone], by simp [rNone], by simp [rNone]⟩
theorem rWordsN_wok (s : Bg.Str) (hs : s.length ≤ 400) (f : Nat) : ∀ (i : Nat) (l : List RW), rWordsN s f i = .ok l → ∀ w ∈ l, WOk w := by
  induction f with
  | zero => intro i l h w hw; unfold rWordsN at h; cases h; cases hw
  | succ f ih =>
    intro i l h
    unfold rWordsN at h
    split at h
    · cases h; intro w hw; cases hw
    · rename_i c r e
      have hl := congrArg List.length e
      rw [List.length_drop] at hl
      split at h
      · exact ih _ _ h
      · split at h
        · exact ih _ _ h
        · split at h
          · cases h
          · cases hr : rWordsN s f (i + (rWord (c :: r)).2) with
            | error e => rw [hr] at h; cases h
            | ok l' =>
              rw [hr] at h
              cases h
              intro w hw
              rcases List.mem_cons.1 hw with rfl | hw
              · exact rWord_wok _ (by omega)
              · exact ih _ _ hr w hw
theorem rWords_wok {s : Bg.Str} {l : List RW} (h : rWords s = .ok l) : ∀ w ∈ l, WOk w := by
  unfold rWords at h
  split at h
  · cases h
  · exact rWordsN_wok s (by omega) _ _ _ h
/-- what the document reads, it can print -/
theorem read_good {s : Bg.Str} {l : List RW} {t : Tr} (h : rWords s = .ok l) (hd : D query l t) : Good t := by
  obtain ⟨_, h2, h3⟩ := rWords_ok h
  exact (hd.db (rWords_wok h) (by omega)).1.1
end Gr
end Go.Proofs.YtfkdfplnhlnnoaaGreatDoor
end
