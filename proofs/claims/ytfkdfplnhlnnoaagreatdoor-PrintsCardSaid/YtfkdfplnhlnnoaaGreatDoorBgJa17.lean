import Derived.Test.YtfkdfplnhlnnoaaGreatDoorBgJa15
import Derived.Test.YtfkdfplnhlnnoaaGreatDoorBgPr
section
namespace Go.Proofs.YtfkdfplnhlnnoaaGreatDoor
open Go.RowKit
namespace Gr
set_option linter.unusedSimpArgs false
set_option linter.unusedVariables false
open T NT PK
/-- the words from k on, as the grammar sees them; the next one; a stretch of words -/
def tk (ws : List RW) (k : Nat) : List T := (ws.drop k).map tok
def hd (ws : List RW) (k : Nat) : Option T := (ws[k]?).map tok
def sl (ws : List RW) (i j : Nat) : List RW := (ws.drop i).take (j - i)
theorem tk_cons {ws : List RW} {k : Nat} (h : k < ws.length) : tk ws k = tok ws[k] :: tk ws (k + 1) := by
  unfold tk; rw [List.drop_eq_getElem_cons h]; rfl
theorem tk_nil {ws : List RW} {k : Nat} (h : ¬ k < ws.length) : tk ws k = [] := by
  unfold tk; rw [List.drop_eq_nil_of_le (by omega)]; rfl
theorem hd_in {ws : List RW} {k : Nat} (h : k < ws.length) : hd ws k = some (tok ws[k]) := by
  unfold hd; rw [List.getElem?_eq_getElem h]; rfl
theorem hd_out {ws : List RW} {k : Nat} (h : ¬ k < ws.length) : hd ws k = none := by
  unfold hd; rw [List.getElem?_eq_none (by omega)]; rfl
theorem hd_lt {ws : List RW} {k : Nat} {t : T} (h : hd ws k = some t) : k < ws.length := by
  by_cases hk : k < ws.length
  · exact hk
  · rw [hd_out hk] at h; cases h
theorem hd_tok {ws : List RW} {k : Nat} {t : T} (h : hd ws k = some t) (hk : k < ws.length) : tok ws[k] = t := by
  rw [hd_in hk] at h; exact Option.some.inj h
theorem tk_hd {ws : List RW} {k : Nat} {t : T} (h : hd ws k = some t) : tk ws k = t :: tk ws (k + 1) := by
  have hk := hd_lt h
  rw [tk_cons hk, hd_tok h hk]
theorem tk_no {ws : List RW} {k : Nat} {t : T} (h : hd ws k ≠ some t) (r : List T) : tk ws k ≠ t :: r := by
  intro e
  by_cases hk : k < ws.length
  · rw [tk_cons hk] at e
    rw [hd_in hk] at h
    exact h (by rw [(List.cons.inj e).1])
  · rw [tk_nil hk] at e; cases e
theorem tk_first {ws : List RW} {k : Nat} {t : T} {r : List T} (h : tk ws k = t :: r) : hd ws k = some t := by
  by_cases hk : k < ws.length
  · rw [tk_cons hk] at h
    rw [hd_in hk, (List.cons.inj h).1]
  · rw [tk_nil hk] at h; cases h
theorem eat_yes {ws : List RW} {k : Nat} {t : T} (h : hd ws k = some t) : eat t (tk ws k) = some (tk ws (k + 1)) := by
  rw [tk_hd h, eat, if_pos rfl]
theorem eat_no {ws : List RW} {k : Nat} {t : T} (h : hd ws k ≠ some t) : eat t (tk ws k) = none := by
  cases e : tk ws k with
  | nil => rfl
  | cons u r => rw [eat, if_neg (fun hu => h (by rw [tk_first e, hu]))]
theorem sl_app (ws : List RW) {i j l : Nat} (h1 : i ≤ j) (h2 : j ≤ l) : sl ws i l = sl ws i j ++ sl ws j l := by
  unfold sl
  rw [show l - i = (j - i) + (l - j) from by omega, List.take_add, List.drop_drop, show i + (j - i) = j from by omega]
theorem sl_one {ws : List RW} {k : Nat} (h : k < ws.length) : sl ws k (k + 1) = [ws[k]] := by
  unfold sl; rw [List.drop_eq_getElem_cons h, show k + 1 - k = 1 from by omega]; rfl
theorem sl_cons {ws : List RW} {k l : Nat} (h : k < ws.length) (hl : k + 1 ≤ l) : sl ws k l = ws[k] :: sl ws (k + 1) l := by
  rw [sl_app ws (show k ≤ k + 1 by omega) hl, sl_one h]; rfl
theorem sl_snoc {ws : List RW} {i k : Nat} (h : k < ws.length) (hi : i ≤ k) : sl ws i (k + 1) = sl ws i k ++ [ws[k]] := by
  rw [sl_app ws hi (show k ≤ k + 1 by omega), sl_one h]
theorem sl_all (ws : List RW) : sl ws 0 ws.length = ws := by unfold sl; simp
/-- what a word is one of -/
theorem fix_gen {ss : List Bg.Str} {p : T → Bool} (hK : ∀ x ∈ keyToks.map Prod.fst, ss.contains x = p (keyTok x)) (hS : ∀ x ∈ signToks.map Prod.fst, ss.contains x = p (signTok x)) (hn : p name = false) (hl : p lit = false) {w : RW} (hw : Ok1 w) : fixB (pKind w) (pSpelt w) ss = p (tok w) := by
  unfold fixB pKind pSpelt tok
  rcases hw with ⟨h, ht⟩ | ⟨h, ht⟩ | h | h | h
  · rw [h, if_neg (by decide), if_neg (by decide), if_neg (by decide), if_pos rfl, hK _ ht]; rfl
  · rw [h, if_neg (by decide), if_neg (by decide), if_neg (by decide), if_neg (by decide), if_pos rfl, hS _ ht]; rfl
  · rw [h, if_neg (show ¬ kName = kKey by decide), if_neg (show ¬ kName = kSign by decide), if_pos (show kName = kName from rfl), if_pos (show kName = kName from rfl), hn]; rfl
  · rw [h, if_neg (show ¬ kNum = kKey by decide), if_neg (show ¬ kNum = kSign by decide), if_neg (show ¬ kNum = kName by decide), if_neg (show ¬ kNum = kName by decide), if_pos (.inl (show kNum = kNum from rfl)), hl]; rfl
  · rw [h, if_neg (show ¬ kText = kKey by decide), if_neg (show ¬ kText = kSign by decide), if_neg (show ¬ kText = kName by decide), if_neg (show ¬ kText = kName by decide), if_pos (.inr (show kText = kText from rfl)), hl]; rfl
theorem fx {ss : List Bg.Str} (p : T → Bool) (hK : ∀ x ∈ keyToks.map Prod.fst, ss.contains x = p (keyTok x)) (hS : ∀ x ∈ signToks.map Prod.fst, ss.contains x = p (signTok x)) (hn : p name = false) (hl : p lit = false) {ws : List RW} (hok : ∀ w ∈ ws, Ok1 w) (k : Nat) : fixAt ws k ss = (hd ws k).any p := by
  unfold fixAt
  by_cases hk : k < ws.length
  · obtain ⟨e1, e2, _⟩ := n_in hk
    rw [e1, e2, hd_in hk, fix_gen hK hS hn hl (hok _ (List.getElem_mem hk))]; rfl
  · obtain ⟨e1, e2, _⟩ := n_out hk
    rw [e1, e2, hd_out hk]; rfl
theorem any_yes {o : Option T} {p : T → Bool} (h : o.any p = true) : ∃ t, o = some t ∧ p t = true := by
  cases o with
  | none => cases h
  | some t => exact ⟨t, rfl, h⟩
theorem any_no {o : Option T} {p : T → Bool} (h : o.any p = false) {t : T} (ht : o = some t) : p t = false := by
  subst ht; exact h
theorem any_one {o : Option T} {u : T} : o.any (· == u) = decide (o = some u) := by
  cases o with
  | none => simp
  | some t => simp [Bool.beq_eq_decide_eq]
/-- the token t is spelt s, and no other one is -/
def spells (s : Bg.Str) (t : T) : Bool := decide (∀ x ∈ keyToks.map Prod.fst, [s].contains x = (keyTok x == t)) && decide (∀ x ∈ signToks.map Prod.fst, [s].contains x = (signTok x == t)) && !(t == name) && !(t == lit) && !(s == [])
theorem fx1 {s : Bg.Str} {t : T} (h : spells s t = true) {ws : List RW} (hok : ∀ w ∈ ws, Ok1 w) (k : Nat) : fixAt ws k [s] = decide (hd ws k = some t) := by
  unfold spells at h
  simp only [Bool.and_eq_true, decide_eq_true_eq, Bool.not_eq_true', beq_eq_false_iff_ne] at h
  obtain ⟨⟨⟨⟨h1, h2⟩, h3⟩, h4⟩, h5⟩ := h
  rw [fx (· == t) h1 h2 (by simpa using h3.symm) (by simpa using h4.symm) hok k, any_one]
theorem spells_ne {s : Bg.Str} {t : T} (h : spells s t = true) : s ≠ [] := by
  unfold spells at h
  simp only [Bool.and_eq_true, Bool.not_eq_true', beq_eq_false_iff_ne] at h
  exact h.2
theorem kind_name {ws : List RW} (hok : ∀ w ∈ ws, Ok1 w) (k : Nat) : nKind ws k = 2 ↔ hd ws k = some name := by
  by_cases hk : k < ws.length
  · rw [(n_in hk).1, hd_in hk]
    constructor
    · intro h
      rw [(tok_name (hok _ (List.getElem_mem hk))).2]
      unfold pKind at h
      split at h
      · assumption
      · split at h <;> cases h
    · intro h
      have := (tok_name (hok _ (List.getElem_mem hk))).1 (Option.some.inj h)
      unfold pKind; rw [if_pos this]
  · rw [(n_out hk).1, hd_out hk]; constructor <;> intro h <;> cases h
theorem kind_lit {ws : List RW} (hok : ∀ w ∈ ws, Ok1 w) (k : Nat) : nKind ws k = 3 ↔ hd ws k = some lit := by
  by_cases hk : k < ws.length
  · rw [(n_in hk).1, hd_in hk]
    constructor
    · intro h
      rw [(tok_lit (hok _ (List.getElem_mem hk))).2]
      unfold pKind at h
      split at h
      · cases h
      · split at h
        · assumption
        · cases h
    · intro h
      have h2 := (tok_lit (hok _ (List.getElem_mem hk))).1 (Option.some.inj h)
      unfold pKind
      rw [if_neg (by rcases h2 with h2 | h2 <;> rw [h2] <;> decide), if_pos h2]
  · rw [(n_out hk).1, hd_out hk]; constructor <;> intro h <;> cases h
/-- what a fixed word spells -/
theorem text_spelt {ws : List RW} {k : Nat} (hk : k < ws.length) (hok : ∀ w ∈ ws, Ok1 w) (h : hd ws k ≠ some lit) : nSpelt ws k = (ws[k]).text := by
  rw [(n_in hk).2.1]
  unfold pSpelt
  rw [if_neg (fun h2 => h ?_)]
  rw [hd_in hk, (tok_lit (hok _ (List.getElem_mem hk))).2 h2]
/-- a value, or rows of two cells: the items, sources and columns of a selection -/
inductive RK
  | v (x : Value)
  | its (l : List (Value × Value))
  | srs (l : List (Value × Value))
  | cls (l : List (Value × Value))
/-- rows of two cells in a slice, in a block from n0 on -/
def Lay (Pb n0 : Nat) (W : World) (x : Value) (l : List (Value × Value)) : Prop :=
  ∃ g cap, x = .slice (some ⟨g, 0, none⟩) l.length cap ∧ l.length ≤ cap ∧ g ≠ Pb ∧ n0 ≤ g ∧ ∀ i (h : i < l.length), W.cell? ⟨g, i * 2, none⟩ = some l[i].1 ∧ W.cell? ⟨g, i * 2 + 1, none⟩ = some l[i].2
def strV (s : Bg.Str) : Value := .string ⟨s.toArray⟩
def allP (b : Bool) : Bg.Str := if b then [32, 97, 108, 108] else []
def ops7 : List Bg.Str := [[97, 110, 100], [111, 114]]
def ops5 : List Bg.Str := [[43], [45], [42], [47], [37]]
def hows : List Bg.Str := [[97, 110, 121], [97, 108, 108]]
/-- the value is what the program makes of the tree -/
inductive Rep (Pb n0 : Nat) (W : World) : RK → Tr → Prop
  | joined {l r x y s b} : s ∈ sets3 → Rep Pb n0 W (.v l) x → Rep Pb n0 W (.v r) y → Rep Pb n0 W (.v (.iface 171 (.agg #[l, strV (s ++ allP b), r]))) (nd { kind := s, all := b } (l2 x y))
  | logic {l r x y s} : s ∈ ops7 → Rep Pb n0 W (.v l) x → Rep Pb n0 W (.v r) y → Rep Pb n0 W (.v (.iface 299 (.agg #[l, strV s, r]))) (nd { kind := s } (l2 x y))
  | arith {l r x y s} : s ∈ ops5 → Rep Pb n0 W (.v l) x → Rep Pb n0 W (.v r) y → Rep Pb n0 W (.v (.iface 307 (.agg #[l, strV s, r]))) (nd { kind := s } (l2 x y))
  | compare {l r x y s} : Rep Pb n0 W (.v l) x → Rep Pb n0 W (.v r) y → Rep Pb n0 W (.v (.iface 341 (.agg #[l, strV s, r]))) (nd { kind := [99, 111, 109, 112, 97, 114, 101], sign := s } (l2 x y))
  | not_ {l x} : Rep Pb n0 W (.v l) x → Rep Pb n0 W (.v (.iface 309 (.agg #[l]))) (nd { kind := [110, 111, 116] } (l1 x))
  | neg {l x} : Rep Pb n0 W (.v l) x → Rep Pb n0 W (.v (.iface 314 (.agg #[l]))) (nd { kind := [110, 101, 103] } (l1 x))
  | versus {l q x y s h} : h ∈ hows → Rep Pb n0 W (.v l) x → Rep Pb n0 W (.v q) y → Rep Pb n0 W (.v (.iface 339 (.agg #[q, l, strV s, strV h]))) (nd { kind := h, sign := s } (l2 x y))
  | in_ {l q x y b} : Rep Pb n0 W (.v l) x → Rep Pb n0 W (.v q) y → Rep Pb n0 W (.v (.iface 332 (.agg #[q, l, .bool b]))) (nd { kind := [105, 110], not_ := b } (l2 x y))
  | exists_ {q y} : Rep Pb n0 W (.v q) y → Rep Pb n0 W (.v (.iface 322 (.agg #[q]))) (nd { kind := [101, 120, 105, 115, 116, 115] } (l1 y))
  | isNull {l x b} : Rep Pb n0 W (.v l) x → Rep Pb n0 W (.v (.iface 329 (.agg #[l, .bool b]))) (nd { kind := [105, 115, 110, 117, 108, 108], not_ := b } (l1 x))
  | num {n} : Rep Pb n0 W (.v (.iface 316 (.agg #[.iface 229 (.int .i64 n)]))) (nd { kind := kNum, num := n } .nil)
  | text {s} : Rep Pb n0 W (.v (.iface 316 (.agg #[.iface 202 (strV s)]))) (nd { kind := kText, text := s } .nil)
  | null : Rep Pb n0 W (.v (.iface 316 (.agg #[.iface 225 (.agg #[])]))) (nd { kind := [110, 117, 108, 108] } .nil)
  | column {o s} : Rep Pb n0 W (.v (.iface 254 (.agg #[strV o, strV s]))) (nd { kind := [99, 111, 108, 117, 109, 110], of_ := o, text := s } .nil)
  | star : Rep Pb n0 W (.v (.iface 327 (.agg #[strV [99, 111, 117, 110, 116], .nilIface]))) (nd { kind := [99, 111, 117, 110, 116], star := true } .nil)
  | agg {l x s} : s ∈ fns4 → Rep Pb n0 W (.v l) x → Rep Pb n0 W (.v (.iface 327 (.agg #[strV s, l]))) (nd { kind := s } (l1 x))
  | select {i f w g h is fs gs ti tf tw tg th b c} : (c = true ∧ i = .slice none 0 0 ∧ is = [] ∨ c = false ∧ is ≠ [] ∧ Lay Pb n0 W i is) → (fs ≠ [] ∧ Lay Pb n0 W f fs) → (g = .slice none 0 0 ∧ gs = [] ∨ gs ≠ [] ∧ Lay Pb n0 W g gs) →
      Rep Pb n0 W (.its is) ti → Rep Pb n0 W (.srs fs) tf → Rep Pb n0 W (.cls gs) tg →
      (w = .nilIface ∧ tw = .nil ∨ w ≠ .nilIface ∧ tw.isNode = true) → (h = .nilIface ∧ th = .nil ∨ h ≠ .nilIface ∧ th.isNode = true) → (w ≠ .nilIface → Rep Pb n0 W (.v w) tw) → (h ≠ .nilIface → Rep Pb n0 W (.v h) th) →
      Rep Pb n0 W (.v (.iface 237 (.agg #[.bool b, i, f, w, g, h]))) (.node { kind := [115, 101, 108, 101, 99, 116], star := c, dist := b } .nil ti tf tg tw th)
  | inil : Rep Pb n0 W (.its []) .nil
  | icons {x s r t ts} : Rep Pb n0 W (.v x) t → Rep Pb n0 W (.its r) ts → Rep Pb n0 W (.its ((x, strV s) :: r)) (.cons (nd { kind := [105, 116, 101, 109], as_ := s } (l1 t)) ts)
  | snil : Rep Pb n0 W (.srs []) .nil
  | scons {n s r ts} : Rep Pb n0 W (.srs r) ts → Rep Pb n0 W (.srs ((strV n, strV s) :: r)) (.cons (nd { kind := [115, 111, 117, 114, 99, 101], text := n, as_ := s } .nil) ts)
  | cnil : Rep Pb n0 W (.cls []) .nil
  | ccons {o s r ts} : Rep Pb n0 W (.cls r) ts → Rep Pb n0 W (.cls ((strV o, strV s) :: r)) (.cons (nd { kind := [99, 111, 108, 117, 109, 110], of_ := o, text := s } .nil) ts)
theorem Lay.same {Pb n0 : Nat} {W W' : World} {x : Value} {l : List (Value × Value)} (h : Lay Pb n0 W x l) (hK : ∀ g o v, n0 ≤ g → g ≠ Pb → W.cell? ⟨g, o, none⟩ = some v → W'.cell? ⟨g, o, none⟩ = some v) : Lay Pb n0 W' x l := by
  obtain ⟨g, cap, h1, h2, h3, h4, h5⟩ := h
  exact ⟨g, cap, h1, h2, h3, h4, fun i hi => ⟨hK _ _ _ h4 h3 (h5 i hi).1, hK _ _ _ h4 h3 (h5 i hi).2⟩⟩
theorem Lay.low {Pb n0 n1 : Nat} {W : World} {x : Value} {l : List (Value × Value)} (h : Lay Pb n0 W x l) (hn : n1 ≤ n0) : Lay Pb n1 W x l := by
  obtain ⟨g, cap, h1, h2, h3, h4, h5⟩ := h
  exact ⟨g, cap, h1, h2, h3, Nat.le_trans hn h4, h5⟩
theorem Rep.same {Pb n0 : Nat} {W W' : World} {r : RK} {t : Tr} (h : Rep Pb n0 W r t) (hK : ∀ g o v, n0 ≤ g → g ≠ Pb → W.cell? ⟨g, o, none⟩ = some v → W'.cell? ⟨g, o, none⟩ = some v) : Rep Pb n0 W' r t := by
  induction h with
  | joined hs _ _ i1 i2 => exact .joined hs i1 i2
  | logic hs _ _ i1 i2 => exact .logic hs i1 i2
  | arith hs _ _ i1 i2 => exact .arith hs i1 i2
  | compare _ _ i1 i2 => exact .compare i1 i2
  | not_ _ i1 => exact .not_ i1
  | neg _ i1 => exact .neg i1
  | versus hs _ _ i1 i2 => exact .versus hs i1 i2
  | in_ _ _ i1 i2 => exact .in_ i1 i2
  | exists_ _ i1 => exact .exists_ i1
  | isNull _ i1 => exact .isNull i1
  | num => exact .num
  | text => exact .text
  | null => exact .null
  | column => exact .column
  | star => exact .star
  | agg hs _ i1 => exact .agg hs i1
  | select h1 h2 h3 _ _ _ h4 h5 _ _ i1 i2 i3 i4 i5 =>
    refine .select (h1.imp id (fun ⟨a, b, c⟩ => ⟨a, b, c.same hK⟩)) ⟨h2.1, h2.2.same hK⟩ (h3.imp id (fun ⟨a, b⟩ => ⟨a, b.same hK⟩)) i1 i2 i3 h4 h5 i4 i5
  | inil => exact .inil
  | icons _ _ i1 i2 => exact .icons i1 i2
  | snil => exact .snil
  | scons _ i1 => exact .scons i1
  | cnil => exact .cnil
  | ccons _ i1 => exact .ccons i1
theorem Rep.low {Pb n0 n1 : Nat} {W : World} {r : RK} {t : Tr} (h : Rep Pb n0 W r t) (hK : n1 ≤ n0) : Rep Pb n1 W r t := by
  induction h with
  | joined hs _ _ i1 i2 => exact .joined hs i1 i2
  | logic hs _ _ i1 i2 => exact .logic hs i1 i2
  | arith hs _ _ i1 i2 => exact .arith hs i1 i2
  | compare _ _ i1 i2 => exact .compare i1 i2
  | not_ _ i1 => exact .not_ i1
  | neg _ i1 => exact .neg i1
  | versus hs _ _ i1 i2 => exact .versus hs i1 i2
  | in_ _ _ i1 i2 => exact .in_ i1 i2
  | exists_ _ i1 => exact .exists_ i1
  | isNull _ i1 => exact .isNull i1
  | num => exact .num
  | text => exact .text
  | null => exact .null
  | column => exact .column
  | star => exact .star
  | agg hs _ i1 => exact .agg hs i1
  | select h1 h2 h3 _ _ _ h4 h5 _ _ i1 i2 i3 i4 i5 =>
    refine .select (h1.imp id (fun ⟨a, b, c⟩ => ⟨a, b, c.low hK⟩)) ⟨h2.1, h2.2.low hK⟩ (h3.imp id (fun ⟨a, b⟩ => ⟨a, b.low hK⟩)) i1 i2 i3 h4 h5 i4 i5
  | inil => exact .inil
  | icons _ _ i1 i2 => exact .icons i1 i2
  | snil => exact .snil
  | scons _ i1 => exact .scons i1
  | cnil => exact .cnil
  | ccons _ i1 => exact .ccons i1
theorem Rep.keep {Pb n0 : Nat} {W W' : World} {r : RK} {t : Tr} (h : Rep Pb n0 W r t) (hK : Keep Pb W W') : Rep Pb n0 W' r t := h.same fun g o v _ hg hc => hK.cell hg hc
theorem Rep.setLo {Pb n0 : Nat} {W : World} {r : RK} {t : Tr} (h : Rep Pb n0 W r t) {b : Nat} (hb : b < n0) (o : Nat) (v : Value) : Rep Pb n0 (W.setCell ⟨b, o, none⟩ v) r t :=
  h.same fun g o' v' hg _ hc => (World.cell?_setCell_far W ⟨b, o, none⟩ ⟨g, o', none⟩ v (fun e => by have : b = g := e; omega)).trans hc
/-- a part's value is an interface that is not nil -/
theorem Rep.iface {Pb n0 : Nat} {W : World} {x : Value} {t : Tr} (h : Rep Pb n0 W (.v x) t) : ∃ n y, x = .iface n y := by
  cases h <;> exact ⟨_, _, rfl⟩
theorem Rep.node {Pb n0 : Nat} {W : World} {x : Value} {t : Tr} (h : Rep Pb n0 W (.v x) t) : t.isNode = true := by
  cases h <;> rfl
theorem Rep.isnoc {Pb n0 : Nat} {W : World} {l : List (Value × Value)} {ts : Tr} : Rep Pb n0 W (.its l) ts → ∀ {x s t}, Rep Pb n0 W (.v x) t → Rep Pb n0 W (.its (l ++ [(x, strV s)])) (ts.snoc (nd { kind := [105, 116, 101, 109], as_ := s } (l1 t))) := by
  intro h x s t ht
  induction l generalizing ts with
  | nil => cases h; exact .icons ht .inil
  | cons a l ih => cases h with | icons h1 h2 => exact .icons h1 (ih h2)
theorem Rep.ssnoc {Pb n0 : Nat} {W : World} {l : List (Value × Value)} {ts : Tr} : Rep Pb n0 W (.srs l) ts → ∀ {n s}, Rep Pb n0 W (.srs (l ++ [(strV n, strV s)])) (ts.snoc (nd { kind := [115, 111, 117, 114, 99, 101], text := n, as_ := s } .nil)) := by
  intro h n s
  induction l generalizing ts with
  | nil => cases h; exact .scons .snil
  | cons a l ih => cases h with | scons h2 => exact .scons (ih h2)
theorem Rep.csnoc {Pb n0 : Nat} {W : World} {l : List (Value × Value)} {ts : Tr} : Rep Pb n0 W (.cls l) ts → ∀ {n s}, Rep Pb n0 W (.cls (l ++ [(strV n, strV s)])) (ts.snoc (nd { kind := [99, 111, 108, 117, 109, 110], of_ := n, text := s } .nil)) := by
  intro h n s
  induction l generalizing ts with
  | nil => cases h; exact .ccons .cnil
  | cons a l ih => cases h with | ccons h2 => exact .ccons (ih h2)
theorem PS.other {Pb : Nat} {ws : List RW} {k : Nat} {W : World} (h : PS Pb ws k W) {b : Nat} (hb : b ≠ Pb) {v0 : Value} (hc : W.cell? ⟨b, 0, none⟩ = some v0) (hv : ∀ n, v0 ≠ .int .i64 n) (o : Nat) (v : Value) : PS Pb ws k (W.setCell ⟨b, o, none⟩ v) := by
  obtain ⟨wa, cap, h1, h2⟩ := h.obj
  have hp : (W.setCell ⟨b, o, none⟩ v).heap[Pb]? = W.heap[Pb]? := Below.heap_setCell _ _ _ _ (fun e => hb e.symm)
  refine ⟨h.len, h.ok, h.le, ⟨wa, cap, hp.trans h1, fun i hi => ?_⟩, fun wa' cap' e => h.capo wa' cap' (hp.symm.trans e)⟩
  obtain ⟨g, e, hg, c1, c2, c3⟩ := h2 i hi
  obtain ⟨g', e', _, d1, _⟩ := h2 0 (by omega)
  have hgg : g = g' := by rw [e] at e'; cases e'; rfl
  subst hgg
  have hgb : b ≠ g := fun e => by
    subst e
    simp only [Nat.zero_mul] at d1
    rw [hc] at d1
    exact hv _ (Option.some.inj d1)
  have hf : ∀ o', (W.setCell ⟨b, o, none⟩ v).cell? ⟨g, o', none⟩ = W.cell? ⟨g, o', none⟩ := fun o' => World.cell?_setCell_far W ⟨b, o, none⟩ ⟨g, o', none⟩ _ hgb
  exact ⟨g, e, hg, (hf _).trans c1, (hf _).trans c2, (hf _).trans c3⟩
theorem PS.lt {Pb : Nat} {ws : List RW} {k : Nat} {W : World} (h : PS Pb ws k W) : Pb < W.heap.size := by
  obtain ⟨_, _, h1, _⟩ := h.obj; exact (Array.getElem?_eq_some_iff.1 h1).1
/-- what a function of the parser promises: it has read on to k', or the words are no query -/
def Got (Pb : Nat) (ws : List RW) (k : Nat) (A : Option (List T)) (Q : Nat → Value → World → Prop) (W : World) (e : Ending) (w' : World) : Prop :=
  (∃ k' x, k ≤ k' ∧ A = some (tk ws k') ∧ e = .returned x ∧ Q k' x w' ∧ PS Pb ws k' w' ∧ Keep Pb W w') ∨ (A = none ∧ BadP Pb W e w')
/-- the value read is a part of the kind nt -/
def Part (Pb : Nat) (ws : List RW) (nt : NT) (i n0 k' : Nat) (x : Value) (w' : World) : Prop := ∃ t, D nt (sl ws i k') t ∧ Rep Pb n0 w' (.v x) t
/-- the function f reads a part of the kind nt, from k0 on -/
def Rds (Pb : Nat) (ws : List RW) (f : Nat) (nt : NT) (k0 : Nat) : Prop :=
  ∀ k W, k0 ≤ k → PS Pb ws k W → Calls Tryz.prog f #[.pointer (some ⟨Pb, 0, none⟩)] W (Got Pb ws k (ans (P nt) (tk ws k)) (Part Pb ws nt k W.heap.size) W)
/-- an expression's value hangs on no world -/
def RepE (x : Value) (t : Tr) : Prop := ∀ Pb n0 W, Rep Pb n0 W (.v x) t
def PartE (ws : List RW) (nt : NT) (i k' : Nat) (x : Value) (w' : World) : Prop := ∃ t, D nt (sl ws i k') t ∧ RepE x t
def RdsE (Pb : Nat) (ws : List RW) (f : Nat) (nt : NT) (k0 : Nat) : Prop :=
  ∀ k W, k0 ≤ k → PS Pb ws k W → Calls Tryz.prog f #[.pointer (some ⟨Pb, 0, none⟩)] W (Got Pb ws k (ans (P nt) (tk ws k)) (PartE ws nt k) W)
theorem RdsE.rds {Pb : Nat} {ws : List RW} {f : Nat} {nt : NT} {k0 : Nat} (h : RdsE Pb ws f nt k0) : Rds Pb ws f nt k0 := fun k W h1 h2 =>
  (h k W h1 h2).mono fun e w' h => by
    rcases h with ⟨k', x, a, b, c, ⟨t, d1, d2⟩, e1, e2⟩ | h
    · exact .inl ⟨k', x, a, b, c, ⟨t, d1, d2 _ _ _⟩, e1, e2⟩
    · exact .inr h
theorem RdsE.mono {Pb : Nat} {ws : List RW} {f : Nat} {nt : NT} {k0 k1 : Nat} (h : RdsE Pb ws f nt k0) (hk : k0 ≤ k1) : RdsE Pb ws f nt k1 :=
  fun k W h1 h2 => h k W (by omega) h2
theorem Rds.mono {Pb : Nat} {ws : List RW} {f : Nat} {nt : NT} {k0 k1 : Nat} (h : Rds Pb ws f nt k0) (hk : k0 ≤ k1) : Rds Pb ws f nt k1 :=
  fun k W h1 h2 => h k W (by omega) h2
end Gr
end Go.Proofs.YtfkdfplnhlnnoaaGreatDoor
end
section
namespace Go.Proofs.YtfkdfplnhlnnoaaGreatDoor
open Go.RowKit
namespace Gr
set_option linter.unusedSimpArgs false
set_option linter.unusedVariables false
open T NT PK
theorem round_bad1 {ws : List RW} {k : Nat} {nt : NT} (h : hd ws k ≠ some lp) : ans (round nt) (tk ws k) = none := by
  rw [ans_round, eat_no h]; rfl
theorem round_bad2 {ws : List RW} {k : Nat} {nt : NT} (h : hd ws k = some lp) (h2 : ans (P nt) (tk ws (k + 1)) = none) : ans (round nt) (tk ws k) = none := by
  rw [ans_round, eat_yes h, Option.bind_some, h2]; rfl
theorem round_bad3 {ws : List RW} {k k' : Nat} {nt : NT} (h : hd ws k = some lp) (h2 : ans (P nt) (tk ws (k + 1)) = some (tk ws k')) (h3 : hd ws k' ≠ some rp) : ans (round nt) (tk ws k) = none := by
  rw [ans_round, eat_yes h, Option.bind_some, h2, Option.bind_some, eat_no h3]
theorem round_good {ws : List RW} {k k' : Nat} {nt : NT} (h : hd ws k = some lp) (h2 : ans (P nt) (tk ws (k + 1)) = some (tk ws k')) (h3 : hd ws k' = some rp) : ans (round nt) (tk ws k) = some (tk ws (k' + 1)) := by
  rw [ans_round, eat_yes h, Option.bind_some, h2, Option.bind_some, eat_yes h3]
/-- a part in brackets -/
def PartR (Pb : Nat) (ws : List RW) (nt : NT) (k n0 k' : Nat) (x : Value) (w' : World) : Prop := ∃ m t, hd ws k = some lp ∧ hd ws m = some rp ∧ k + 1 ≤ m ∧ k' = m + 1 ∧ D nt (sl ws (k + 1) m) t ∧ Rep Pb n0 w' (.v x) t
theorem PartR.split {Pb : Nat} {ws : List RW} {nt : NT} {k n0 k' : Nat} {x : Value} {w' : World} (h : PartR Pb ws nt k n0 k' x w') : ∃ o c a t, tok o = lp ∧ tok c = rp ∧ sl ws k k' = o :: (a ++ [c]) ∧ D nt a t ∧ Rep Pb n0 w' (.v x) t := by
  obtain ⟨m, t, h1, h2, h3, rfl, h5, h6⟩ := h
  have l1 := hd_lt h1
  have l2 := hd_lt h2
  refine ⟨ws[k], ws[m], _, t, hd_tok h1 l1, hd_tok h2 l2, ?_, h5, h6⟩
  rw [sl_cons l1 (by omega), sl_snoc l2 h3]
def PartRE (ws : List RW) (nt : NT) (k k' : Nat) (x : Value) (w' : World) : Prop := ∃ m t, hd ws k = some lp ∧ hd ws m = some rp ∧ k + 1 ≤ m ∧ k' = m + 1 ∧ D nt (sl ws (k + 1) m) t ∧ RepE x t
theorem PartRE.split {ws : List RW} {nt : NT} {k k' : Nat} {x : Value} {w' : World} (h : PartRE ws nt k k' x w') : ∃ o c a t, tok o = lp ∧ tok c = rp ∧ sl ws k k' = o :: (a ++ [c]) ∧ D nt a t ∧ RepE x t := by
  obtain ⟨m, t, h1, h2, h3, rfl, h5, h6⟩ := h
  have l1 := hd_lt h1
  have l2 := hd_lt h2
  refine ⟨ws[k], ws[m], _, t, hd_tok h1 l1, hd_tok h2 l2, ?_, h5, h6⟩
  rw [sl_cons l1 (by omega), sl_snoc l2 h3]
set_option maxRecDepth 10000 in
set_option maxHeartbeats 1000000 in
theorem p_roundQ (Pb : Nat) (ws : List RW) (k : Nat) (W : World) (hP : PS Pb ws k W) (hq : Rds Pb ws 59 query (k + 1)) :
    Calls Tryz.prog 113 #[.pointer (some ⟨Pb, 0, none⟩), .func (.func 59) #[.pointer (some ⟨Pb, 0, none⟩)] #[]] W (Got Pb ws k (ans (round query) (tk ws k)) (PartR Pb ws query k W.heap.size) W) := by
  have hok := hP.ok
  go_enter Tryz.func113, Tryz.ntmps113
  go_wp2_with fail
  refine (p_must Pb ws k [40] _ hP (by decide)).mono ?_
  rintro e w1 (⟨hf, hk, rfl, hP1, hK1⟩ | ⟨hf, hb⟩)
  · rw [fx1 (t := lp) (by decide) hok, decide_eq_true_eq] at hf
    go_wp2_with fail
    refine (hq (k + 1) w1 (Nat.le_refl _) hP1).mono ?_
    rintro e w2 (⟨k', x, hle, hA, rfl, ⟨t, hD, hR⟩, hP2, hK2⟩ | ⟨hA, hb⟩)
    · obtain ⟨n, y, rfl⟩ := hR.iface
      go_wp2_with fail
      refine (p_must Pb ws k' [41] _ hP2 (by decide)).mono ?_
      rintro e w3 (⟨hf2, hk2, rfl, hP3, hK3⟩ | ⟨hf2, hb⟩)
      · rw [fx1 (t := rp) (by decide) hok, decide_eq_true_eq] at hf2
        go_wp2_with fail
        go_ret
        exact .inl ⟨k' + 1, _, by omega, round_good hf hA hf2, rfl, ⟨k', t, hf, hf2, hle, rfl, hD, (hR.low hK1.size).keep hK3⟩, hP3, (hK1.trans hK2).trans hK3⟩
      · rw [fx1 (t := rp) (by decide) hok, decide_eq_false_iff_not] at hf2
        have hb' := BadP.of (hK1.trans hK2) hb
        obtain ⟨b, rfl, h1, h2, h3⟩ := hb'
        go_wp2
        exact ⟨rfl, .inr ⟨round_bad3 hf hA hf2, b, rfl, h1, h2, h3⟩⟩
    · have hb' := BadP.of hK1 hb
      obtain ⟨b, rfl, h1, h2, h3⟩ := hb'
      go_wp2
      exact ⟨rfl, .inr ⟨round_bad2 hf hA, b, rfl, h1, h2, h3⟩⟩
  · rw [fx1 (t := lp) (by decide) hok, decide_eq_false_iff_not] at hf
    obtain ⟨b, rfl, h1, h2, h3⟩ := hb
    go_wp2
    exact ⟨rfl, .inr ⟨round_bad1 hf, b, rfl, h1, h2, h3⟩⟩
set_option maxRecDepth 10000 in
set_option maxHeartbeats 1000000 in
theorem p_roundE (Pb : Nat) (ws : List RW) (k : Nat) (W : World) (hP : PS Pb ws k W) (hq : RdsE Pb ws 158 expr (k + 1)) :
    Calls Tryz.prog 189 #[.pointer (some ⟨Pb, 0, none⟩), .func (.func 158) #[.pointer (some ⟨Pb, 0, none⟩)] #[]] W (Got Pb ws k (ans (round expr) (tk ws k)) (PartRE ws expr k) W) := by
  have hok := hP.ok
  go_enter Tryz.func189, Tryz.ntmps189
  go_wp2_with fail
  refine (p_must Pb ws k [40] _ hP (by decide)).mono ?_
  rintro e w1 (⟨hf, hk, rfl, hP1, hK1⟩ | ⟨hf, hb⟩)
  · rw [fx1 (t := lp) (by decide) hok, decide_eq_true_eq] at hf
    go_wp2_with fail
    refine (hq (k + 1) w1 (Nat.le_refl _) hP1).mono ?_
    rintro e w2 (⟨k', x, hle, hA, rfl, ⟨t, hD, hR⟩, hP2, hK2⟩ | ⟨hA, hb⟩)
    · obtain ⟨n, y, rfl⟩ := (hR 0 0 W).iface
      go_wp2_with fail
      refine (p_must Pb ws k' [41] _ hP2 (by decide)).mono ?_
      rintro e w3 (⟨hf2, hk2, rfl, hP3, hK3⟩ | ⟨hf2, hb⟩)
      · rw [fx1 (t := rp) (by decide) hok, decide_eq_true_eq] at hf2
        go_wp2_with fail
        go_ret
        exact .inl ⟨k' + 1, _, by omega, round_good hf hA hf2, rfl, ⟨k', t, hf, hf2, hle, rfl, hD, hR⟩, hP3, (hK1.trans hK2).trans hK3⟩
      · rw [fx1 (t := rp) (by decide) hok, decide_eq_false_iff_not] at hf2
        have hb' := BadP.of (hK1.trans hK2) hb
        obtain ⟨b, rfl, h1, h2, h3⟩ := hb'
        go_wp2
        exact ⟨rfl, .inr ⟨round_bad3 hf hA hf2, b, rfl, h1, h2, h3⟩⟩
    · have hb' := BadP.of hK1 hb
      obtain ⟨b, rfl, h1, h2, h3⟩ := hb'
      go_wp2
      exact ⟨rfl, .inr ⟨round_bad2 hf hA, b, rfl, h1, h2, h3⟩⟩
  · rw [fx1 (t := lp) (by decide) hok, decide_eq_false_iff_not] at hf
    obtain ⟨b, rfl, h1, h2, h3⟩ := hb
    go_wp2
    exact ⟨rfl, .inr ⟨round_bad1 hf, b, rfl, h1, h2, h3⟩⟩
set_option maxRecDepth 10000 in
set_option maxHeartbeats 1000000 in
theorem p_roundC (Pb : Nat) (ws : List RW) (k : Nat) (W : World) (hP : PS Pb ws k W) (hq : Rds Pb ws 141 cnd (k + 1)) :
    Calls Tryz.prog 193 #[.pointer (some ⟨Pb, 0, none⟩), .func (.func 141) #[.pointer (some ⟨Pb, 0, none⟩)] #[]] W (Got Pb ws k (ans (round cnd) (tk ws k)) (PartR Pb ws cnd k W.heap.size) W) := by
  have hok := hP.ok
  go_enter Tryz.func193, Tryz.ntmps193
  go_wp2_with fail
  refine (p_must Pb ws k [40] _ hP (by decide)).mono ?_
  rintro e w1 (⟨hf, hk, rfl, hP1, hK1⟩ | ⟨hf, hb⟩)
  · rw [fx1 (t := lp) (by decide) hok, decide_eq_true_eq] at hf
    go_wp2_with fail
    refine (hq (k + 1) w1 (Nat.le_refl _) hP1).mono ?_
    rintro e w2 (⟨k', x, hle, hA, rfl, ⟨t, hD, hR⟩, hP2, hK2⟩ | ⟨hA, hb⟩)
    · obtain ⟨n, y, rfl⟩ := hR.iface
      go_wp2_with fail
      refine (p_must Pb ws k' [41] _ hP2 (by decide)).mono ?_
      rintro e w3 (⟨hf2, hk2, rfl, hP3, hK3⟩ | ⟨hf2, hb⟩)
      · rw [fx1 (t := rp) (by decide) hok, decide_eq_true_eq] at hf2
        go_wp2_with fail
        go_ret
        exact .inl ⟨k' + 1, _, by omega, round_good hf hA hf2, rfl, ⟨k', t, hf, hf2, hle, rfl, hD, (hR.low hK1.size).keep hK3⟩, hP3, (hK1.trans hK2).trans hK3⟩
      · rw [fx1 (t := rp) (by decide) hok, decide_eq_false_iff_not] at hf2
        have hb' := BadP.of (hK1.trans hK2) hb
        obtain ⟨b, rfl, h1, h2, h3⟩ := hb'
        go_wp2
        exact ⟨rfl, .inr ⟨round_bad3 hf hA hf2, b, rfl, h1, h2, h3⟩⟩
    · have hb' := BadP.of hK1 hb
      obtain ⟨b, rfl, h1, h2, h3⟩ := hb'
      go_wp2
      exact ⟨rfl, .inr ⟨round_bad2 hf hA, b, rfl, h1, h2, h3⟩⟩
  · rw [fx1 (t := lp) (by decide) hok, decide_eq_false_iff_not] at hf
    obtain ⟨b, rfl, h1, h2, h3⟩ := hb
    go_wp2
    exact ⟨rfl, .inr ⟨round_bad1 hf, b, rfl, h1, h2, h3⟩⟩
end Gr
end Go.Proofs.YtfkdfplnhlnnoaaGreatDoor
end
section
namespace Go.Proofs.YtfkdfplnhlnnoaaGreatDoor
open Go.RowKit
namespace Gr
set_option linter.unusedSimpArgs false
set_option linter.unusedVariables false
open T NT PK
/-- a sign was read at k1, or there is none -/
def Sg (ws : List RW) (p : T → Bool) (k1 k2 : Nat) (s : Bg.Str) : Prop :=
  (∃ (h : k1 < ws.length), p (tok ws[k1]) = true ∧ k2 = k1 + 1 ∧ s = (ws[k1]).text ∧ s ≠ []) ∨ ((∀ t, hd ws k1 = some t → p t = false) ∧ k2 = k1 ∧ s = [])
theorem tk_len (ws : List RW) (k : Nat) : (tk ws k).length = ws.length - k := by unfold tk; simp
theorem ans_far {ws : List RW} {k k' : Nat} {nt : NT} (h : ans (P nt) (tk ws k) = some (tk ws k')) : k < k' := by
  have := ans_shorter h
  rw [tk_len, tk_len] at this
  omega
/-- a sign of this list was read, or none -/
theorem sg_of {Pb : Nat} {ws : List RW} {k1 : Nat} {W : World} {ss : List Bg.Str} (p : T → Bool) (hK : ∀ x ∈ keyToks.map Prod.fst, ss.contains x = p (keyTok x)) (hS : ∀ x ∈ signToks.map Prod.fst, ss.contains x = p (signTok x)) (hn : p name = false) (hl : p lit = false) (h0 : ss.contains [] = false) (hok : ∀ w ∈ ws, Ok1 w) {e : Ending} {w' : World}
    (h : Took1 Pb ws k1 W (fixAt ws k1 ss) (.string ⟨(nSpelt ws k1).toArray⟩) (.string ⟨#[]⟩) e w') : ∃ k2 s, e = .returned (.string ⟨s.toArray⟩) ∧ Sg ws p k1 k2 s ∧ PS Pb ws k2 w' ∧ Keep Pb W w' := by
  obtain ⟨hKp, ⟨hf, hk, rfl, hP1⟩ | ⟨hf, rfl, hP1⟩⟩ := h
  · refine ⟨k1 + 1, nSpelt ws k1, rfl, .inl ⟨hk, ?_, rfl, ?_, ?_⟩, hP1, hKp⟩
    · rw [fx p hK hS hn hl hok, hd_in hk] at hf; exact hf
    · have hf2 := hf
      rw [fx p hK hS hn hl hok] at hf2
      obtain ⟨t, ht, hp⟩ := any_yes hf2
      exact text_spelt hk hok (by rw [ht]; intro e; cases e; rw [hl] at hp; cases hp)
    · intro e
      unfold fixAt fixB at hf
      rw [e, h0] at hf; simp at hf
  · refine ⟨k1, [], rfl, .inr ⟨fun t ht => ?_, rfl, rfl⟩, hP1, hKp⟩
    rw [fx p hK hS hn hl hok] at hf
    exact any_no hf ht
/-- the texts of the words that a test lets through -/
theorem text_in {w : RW} (hw : Ok1 w) {p : T → Bool} (hp : p (tok w) = true) {L : List Bg.Str} (hK : ∀ x ∈ keyToks.map Prod.fst, p (keyTok x) = true → x ∈ L) (hS : ∀ x ∈ signToks.map Prod.fst, p (signTok x) = true → x ∈ L) (hn : p name = false) (hl : p lit = false) : w.text ∈ L := by
  unfold tok at hp
  rcases hw with ⟨h, ht⟩ | ⟨h, ht⟩ | h | h | h
  · rw [h, if_pos rfl] at hp; exact hK _ ht hp
  · rw [h, if_neg (by decide), if_pos rfl] at hp; exact hS _ ht hp
  · rw [h, if_neg (show ¬ kName = kKey by decide), if_neg (show ¬ kName = kSign by decide), if_pos (show kName = kName from rfl), hn] at hp; cases hp
  · rw [h, if_neg (show ¬ kNum = kKey by decide), if_neg (show ¬ kNum = kSign by decide), if_neg (show ¬ kNum = kName by decide), hl] at hp; cases hp
  · rw [h, if_neg (show ¬ kText = kKey by decide), if_neg (show ¬ kText = kSign by decide), if_neg (show ¬ kText = kName by decide), hl] at hp; cases hp
set_option maxRecDepth 10000 in
set_option maxHeartbeats 1000000 in
theorem p_logic (n1 n2 : Nat) (y1 y2 : Value) (s : Bg.Str) (W : World) :
    Calls Tryz.prog 164 #[.agg #[.iface n1 y1, .string ⟨s.toArray⟩, .iface n2 y2]] W fun e w' => e = .returned (.iface 299 (.agg #[.iface n1 y1, .string ⟨s.toArray⟩, .iface n2 y2])) ∧ Below W.heap.size W w' := by
  go_enter Tryz.func164, Tryz.ntmps164
  go_wp2_with fail
  go_ret
  exact ⟨rfl, wsum _⟩
set_option maxRecDepth 10000 in
set_option maxHeartbeats 1000000 in
theorem p_arith (n1 n2 : Nat) (y1 y2 : Value) (s : Bg.Str) (W : World) :
    Calls Tryz.prog 177 #[.agg #[.iface n1 y1, .string ⟨s.toArray⟩, .iface n2 y2]] W fun e w' => e = .returned (.iface 307 (.agg #[.iface n1 y1, .string ⟨s.toArray⟩, .iface n2 y2])) ∧ Below W.heap.size W w' := by
  go_enter Tryz.func177, Tryz.ntmps177
  go_wp2_with fail
  go_ret
  exact ⟨rfl, wsum _⟩
end Gr
end Go.Proofs.YtfkdfplnhlnnoaaGreatDoor
end
