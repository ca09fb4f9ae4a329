import Derived.Test.YtfkdfplnhlnnoaaGreatDoorBgTwS
section
namespace Go.Proofs.YtfkdfplnhlnnoaaGreatDoor
namespace Gr
set_option linter.unusedSimpArgs false
set_option linter.unusedVariables false
open T NT
theorem set_tabF : ∀ p ∈ keyToks ++ signToks, isSet p.2 = true → p.1 ∈ sets3 := by decide
theorem set_text {w : RW} (h : isSet (tok w) = true) : w.text ∈ sets3 := set_tabF _ (tok_mem rfl (set_ne h).2.1 (set_ne h).2.2) h
theorem mem3 {s : Bg.Str} (h : s ∈ sets3) : s = [117, 110, 105, 111, 110] ∨ s = [105, 110, 116, 101, 114, 115, 101, 99, 116] ∨ s = [101, 120, 99, 101, 112, 116] := by simpa [sets3] using h
theorem mem4 {s : Bg.Str} (h : s ∈ fns4) : s = [99, 111, 117, 110, 116] ∨ s = [115, 117, 109] ∨ s = [109, 105, 110] ∨ s = [109, 97, 120] := by simpa [fns4] using h
theorem mem7 {s : Bg.Str} (h : s ∈ ops7) : s = [97, 110, 100] ∨ s = [111, 114] := by simpa [ops7] using h
theorem mem5 {s : Bg.Str} (h : s ∈ ops5) : s = [43] ∨ s = [45] ∨ s = [42] ∨ s = [47] ∨ s = [37] := by simpa [ops5] using h
theorem memH {s : Bg.Str} (h : s ∈ hows) : s = [97, 110, 121] ∨ s = [97, 108, 108] := by simpa [hows] using h
theorem pr_sets {s : Bg.Str} (h : s ∈ sets3) (b : Bool) (x y : Tr) : pr (nd { kind := s, all := b } (l2 x y)) = [40] ++ (pr x ++ [32] ++ (s ++ allP b) ++ [32] ++ pr y) ++ [41] := by
  rw [pr_nd, pr_l2]
  rcases mem3 h with rfl | rfl | rfl <;> cases b <;> simp [prN, fns4, sets3, allP]
theorem pr_logic {s : Bg.Str} (h : s ∈ ops7) (x y : Tr) : pr (nd { kind := s } (l2 x y)) = [40] ++ (pr x ++ [32] ++ s ++ [32] ++ pr y) ++ [41] := by
  rw [pr_nd, pr_l2]
  rcases mem7 h with rfl | rfl <;> simp [prN, fns4, sets3]
theorem pr_arith {s : Bg.Str} (h : s ∈ ops5) (x y : Tr) : pr (nd { kind := s } (l2 x y)) = [40] ++ (pr x ++ [32] ++ s ++ [32] ++ pr y) ++ [41] := by
  rw [pr_nd, pr_l2]
  rcases mem5 h with rfl | rfl | rfl | rfl | rfl <;> simp [prN, fns4, sets3]
theorem pr_compare (s : Bg.Str) (x y : Tr) : pr (nd { kind := [99, 111, 109, 112, 97, 114, 101], sign := s } (l2 x y)) = pr x ++ [32] ++ s ++ [32] ++ pr y := by
  rw [pr_nd, pr_l2]; simp [prN, fns4, sets3]
theorem pr_not (x : Tr) : pr (nd { kind := [110, 111, 116] } (l1 x)) = [40, 110, 111, 116, 32] ++ pr x ++ [41] := by
  rw [pr_nd, pr_l1]; simp [prN, fns4, sets3]
theorem pr_neg (x : Tr) : pr (nd { kind := [110, 101, 103] } (l1 x)) = [40, 45] ++ pr x ++ [41] := by
  rw [pr_nd, pr_l1]; simp [prN, fns4, sets3]
theorem pr_versus {h : Bg.Str} (hh : h ∈ hows) (s : Bg.Str) (x y : Tr) : pr (nd { kind := h, sign := s } (l2 x y)) = pr x ++ [32] ++ s ++ [32] ++ h ++ ([32, 40] ++ pr y ++ [41]) := by
  rw [pr_nd, pr_l2]
  rcases memH hh with rfl | rfl <;> simp [prN, fns4, sets3]
theorem pr_in_t (x y : Tr) : pr (nd { kind := [105, 110], not_ := true } (l2 x y)) = pr x ++ [32, 110, 111, 116, 32, 105, 110] ++ ([32, 40] ++ pr y ++ [41]) := by
  rw [pr_nd, pr_l2]; simp [prN, fns4, sets3, notP]
theorem pr_in_f (x y : Tr) : pr (nd { kind := [105, 110], not_ := false } (l2 x y)) = pr x ++ [32, 105, 110] ++ ([32, 40] ++ pr y ++ [41]) := by
  rw [pr_nd, pr_l2]; simp [prN, fns4, sets3, notP]
theorem pr_exists (y : Tr) : pr (nd { kind := [101, 120, 105, 115, 116, 115] } (l1 y)) = [101, 120, 105, 115, 116, 115] ++ ([32, 40] ++ pr y ++ [41]) := by
  rw [pr_nd, pr_l1]; simp [prN, fns4, sets3]
theorem pr_isnull (b : Bool) (x : Tr) : pr (nd { kind := [105, 115, 110, 117, 108, 108], not_ := b } (l1 x)) = pr x ++ [32, 105, 115, 32] ++ notP b ++ [110, 117, 108, 108] := by
  rw [pr_nd, pr_l1]; simp [prN, fns4, sets3]
theorem pr_num (n : Int) : pr (nd { kind := kNum, num := n } .nil) = [] ++ dec n ++ [] := by
  rw [pr_nd]; simp [prN, kNum]
theorem pr_text (s : Bg.Str) : pr (nd { kind := kText, text := s } .nil) = [] ++ quote s ++ [] := by
  rw [pr_nd]; simp [prN, kText]
theorem pr_null : pr (nd { kind := [110, 117, 108, 108] } .nil) = [] ++ [110, 117, 108, 108] ++ [] := by
  rw [pr_nd]; simp [prN]
theorem pr_column (o s : Bg.Str) : pr (nd { kind := [99, 111, 108, 117, 109, 110], of_ := o, text := s } .nil) = if o = [] then s else o ++ [46] ++ s := by
  rw [pr_nd]; simp [prN]
theorem pr_star : pr (nd { kind := [99, 111, 117, 110, 116], star := true } .nil) = [99, 111, 117, 110, 116, 40, 42, 41] := by
  rw [pr_nd]; simp [prN, fns4]
theorem pr_agg {s : Bg.Str} (h : s ∈ fns4) (x : Tr) : pr (nd { kind := s } (l1 x)) = s ++ [40] ++ pr x ++ [41] := by
  rw [pr_nd, pr_l1]
  rcases mem4 h with rfl | rfl | rfl | rfl <;> simp [prN, fns4]
theorem pr_item (s : Bg.Str) (x : Tr) : pr (nd { kind := [105, 116, 101, 109], as_ := s } (l1 x)) = pr x ++ (if s = [] then [] else [32, 97, 115, 32] ++ s) := by
  rw [pr_nd, pr_l1]; by_cases h : s = [] <;> simp [prN, fns4, asP, h]
theorem pr_source (n s : Bg.Str) : pr (nd { kind := [115, 111, 117, 114, 99, 101], text := n, as_ := s } .nil) = n ++ (if s = [] then [] else [32, 97, 115, 32] ++ s) := by
  rw [pr_nd]; by_cases h : s = [] <;> simp [prN, fns4, asP, h]
theorem pr_sel (f : Fl) (hk : f.kind = [115, 101, 108, 101, 99, 116]) (k i fr g w h : Tr) : pr (.node f k i fr g w h) = selP f (prs i) (prs fr) (prs g) (if w.isNode then some (pr w) else none) (if h.isNode then some (pr h) else none) := by
  rw [pr]; simp [prN, hk, fns4]
theorem good_of1 {f : Fl} {x : Tr} (h : Good (nd f (l1 x))) : FlOk f ∧ Good x := by
  unfold nd l1 at h
  rw [Good, GoodL] at h
  exact ⟨h.1.fl, h.2.1.1⟩
theorem good_of2 {f : Fl} {x y : Tr} (h : Good (nd f (l2 x y))) : FlOk f ∧ Good x ∧ Good y := by
  unfold nd l2 at h
  rw [Good, GoodL, GoodL] at h
  exact ⟨h.1.fl, h.2.1.1, h.2.1.2.1⟩
theorem good_of0 {f : Fl} (h : Good (nd f .nil)) : FlOk f := by
  unfold nd at h
  rw [Good] at h
  exact h.1.fl
theorem pr_sets_ne {s : Bg.Str} (h : s ∈ sets3) (b : Bool) (x y : Tr) : pr (nd { kind := s, all := b } (l2 x y)) ≠ [] := by
  rw [pr_sets h]; simp
theorem pr_sel_ne (st di : Bool) (i t : Tr) : pr (selT st di i t) ≠ [] := by
  unfold selT
  cases t <;> (rw [pr_sel _ rfl]; simp [selP])
theorem pr_ne {k : NT} {l : List RW} {t : Tr} (h : D k l t) : (k = query ∨ k = core) → pr t ≠ [] := by
  induction h
  case qCore ih => intro _; exact ih (.inr rfl)
  case qJoin hu _ _ _ _ => intro _; exact pr_sets_ne (set_text hu) false _ _
  case qJoinAll hu _ _ _ _ _ => intro _; exact pr_sets_ne (set_text hu) true _ _
  case cRound ih => intro _; exact ih (.inl rfl)
  case cStar => intro _; exact pr_sel_ne _ _ _ _
  case cStarD => intro _; exact pr_sel_ne _ _ _ _
  case cSel => intro _; exact pr_sel_ne _ _ _ _
  case cSelD => intro _; exact pr_sel_ne _ _ _ _
  all_goals (intro h; rcases h with h | h <;> cases h)
theorem pr_query {l : List RW} {t : Tr} (h : D query l t) : pr t ≠ [] := pr_ne h (.inl rfl)
end Gr
end Go.Proofs.YtfkdfplnhlnnoaaGreatDoor
end
section
namespace Go.Proofs.YtfkdfplnhlnnoaaGreatDoor
open Go.RowKit
namespace Gr
set_option linter.unusedSimpArgs false
set_option linter.unusedVariables false
set_option maxRecDepth 10000
theorem sayV_of {W : World} {T : TypeId} {x x' : Value} {K : Nat} {s s' : Bg.Str} (e : s' = s) (h1 : ∀ w, (nilAhead 499 T x "Written").run Tryz.prog w = .ok (some false) w) (h2 : ∀ w, (method 499 T x "Written").run Tryz.prog w = .ok (K, x') w) (h3 : ∀ w, (callFunc K #[x']).run Tryz.prog w = .ok (.enter K #[x']) w)
    (h : ∀ W', Below W.heap.size W W' → Says K #[x'] s W') : SayV W (.iface T x) s' := by subst e; exact ⟨T, x, K, x', rfl, h1, h2, h3, h⟩
/-- what is known of a value, or of rows -/
def Pm (W : World) : RK → Tr → Prop
  | .v x, t => Good t → SayV W x (pr t)
  | .its l, t => GoodL t → SaysL W 264 l (prs t) ∧ IfStr l
  | .srs l, t => GoodL t → SaysL W 265 l (prs t) ∧ StrStr l
  | .cls l, t => GoodL t → SaysL W 267 l (prs t) ∧ StrStr l
theorem SaysL.cons {W : World} {g : Nat} {a b : Value} {s : Bg.Str} {l : List (Value × Value)} {xs : List Bg.Str} (h : ∀ W', Below W.heap.size W W' → Says g #[.agg #[a, b]] s W') (hl : SaysL W g l xs) : SaysL W g ((a, b) :: l) (s :: xs) := by
  refine ⟨by simp [hl.1], fun i h1 h2 W' hB => ?_⟩
  cases i with
  | zero => exact h W' hB
  | succ i => exact hl.2 i (by simpa using h1) (by simpa using h2) W' hB
theorem SaysL.nil {W : World} {g : Nat} : SaysL W g [] [] := ⟨rfl, fun i h => by simp at h⟩
theorem rep_pm {Pb n0 : Nat} {W : World} {r : RK} {t : Tr} (h : Rep Pb n0 W r t) (hp : Pows W) (hG : 13 ≤ W.heap.size) : Pm W r t := by
  induction h with
  | @joined l r x y s b hs _ _ ih1 ih2 =>
    intro hg
    obtain ⟨hf, g1, g2⟩ := good_of2 hg
    have hk : s.length ≤ 400 := hf.kind
    have h4 : (allP b).length ≤ 4 := by cases b <;> decide
    have h5 : (s ++ allP b).length ≤ 1000 := by rw [List.length_append]; omega
    exact sayV_of (K := 244) (pr_sets hs _ _ _) (fun _ => by kernel_rfl) (fun _ => by kernel_rfl) (fun _ => by kernel_rfl) fun W' hB => w_pairQ W _ _ _ _ _ (ih1 g1) (ih2 g2) (good_pr g1) (good_pr g2) h5 W' hB
  | logic hs _ _ ih1 ih2 =>
    intro hg
    obtain ⟨hf, g1, g2⟩ := good_of2 hg
    have hk := hf.kind
    exact sayV_of (K := 271) (pr_logic hs _ _) (fun _ => by kernel_rfl) (fun _ => by kernel_rfl) (fun _ => by kernel_rfl) fun W' hB => w_pairC W _ _ _ _ _ (ih1 g1) (ih2 g2) (good_pr g1) (good_pr g2) (Nat.le_trans hk (by omega)) W' hB
  | arith hs _ _ ih1 ih2 =>
    intro hg
    obtain ⟨hf, g1, g2⟩ := good_of2 hg
    have hk := hf.kind
    exact sayV_of (K := 274) (pr_arith hs _ _) (fun _ => by kernel_rfl) (fun _ => by kernel_rfl) (fun _ => by kernel_rfl) fun W' hB => w_pairE W _ _ _ _ _ (ih1 g1) (ih2 g2) (good_pr g1) (good_pr g2) (Nat.le_trans hk (by omega)) W' hB
  | compare _ _ ih1 ih2 =>
    intro hg
    obtain ⟨hf, g1, g2⟩ := good_of2 hg
    have hk := hf.sign
    exact sayV_of (K := 286) (pr_compare _ _ _) (fun _ => by kernel_rfl) (fun _ => by kernel_rfl) (fun _ => by kernel_rfl) fun W' hB => w_compare W _ _ _ _ _ (ih1 g1) (ih2 g2) (good_pr g1) (good_pr g2) (Nat.le_trans hk (by omega)) W' hB
  | not_ _ ih =>
    intro hg
    obtain ⟨hf, g1⟩ := good_of1 hg
    exact sayV_of (K := 276) (pr_not _) (fun _ => by kernel_rfl) (fun _ => by kernel_rfl) (fun _ => by kernel_rfl) fun W' hB => w_not W _ _ (ih g1) (good_pr g1) W' hB
  | neg _ ih =>
    intro hg
    obtain ⟨hf, g1⟩ := good_of1 hg
    exact sayV_of (K := 278) (pr_neg _) (fun _ => by kernel_rfl) (fun _ => by kernel_rfl) (fun _ => by kernel_rfl) fun W' hB => w_neg W _ _ (ih g1) (good_pr g1) W' hB
  | versus hs _ _ ih1 ih2 =>
    intro hg
    obtain ⟨hf, g1, g2⟩ := good_of2 hg
    have hk := hf.sign
    have hk2 := hf.kind
    exact sayV_of (K := 285) (pr_versus hs _ _ _) (fun _ => by kernel_rfl) (fun _ => by kernel_rfl) (fun _ => by kernel_rfl) fun W' hB => w_versus W _ _ _ _ _ _ (ih2 g2) (ih1 g1) (good_pr g1) (good_pr g2) (Nat.le_trans hk (by omega)) (Nat.le_trans hk2 (by omega)) W' hB
  | @in_ l q x y b _ _ ih1 ih2 =>
    intro hg
    obtain ⟨hf, g1, g2⟩ := good_of2 hg
    cases b
    · exact sayV_of (K := 284) (pr_in_f _ _) (fun _ => by kernel_rfl) (fun _ => by kernel_rfl) (fun _ => by kernel_rfl) fun W' hB => w_in_false W _ _ _ _ (ih2 g2) (ih1 g1) (good_pr g1) (good_pr g2) W' hB
    · exact sayV_of (K := 284) (pr_in_t _ _) (fun _ => by kernel_rfl) (fun _ => by kernel_rfl) (fun _ => by kernel_rfl) fun W' hB => w_in_true W _ _ _ _ (ih2 g2) (ih1 g1) (good_pr g1) (good_pr g2) W' hB
  | exists_ _ ih =>
    intro hg
    obtain ⟨hf, g1⟩ := good_of1 hg
    exact sayV_of (K := 280) (pr_exists _) (fun _ => by kernel_rfl) (fun _ => by kernel_rfl) (fun _ => by kernel_rfl) fun W' hB => w_exists W _ _ (ih g1) (good_pr g1) W' hB
  | isNull _ ih =>
    intro hg
    obtain ⟨hf, g1⟩ := good_of1 hg
    exact sayV_of (K := 283) (pr_isnull _ _) (fun _ => by kernel_rfl) (fun _ => by kernel_rfl) (fun _ => by kernel_rfl) fun W' hB => w_isnull W _ _ _ (ih g1) (good_pr g1) W' hB
  | @num n =>
    intro hg
    have hf := good_of0 hg
    have hv : SayV W (.iface 229 (.int .i64 n)) (dec n) := sayV_of (K := 249) rfl (fun _ => by kernel_rfl) (fun _ => by kernel_rfl) (fun _ => by kernel_rfl) fun W' hB => w_int n hf.lo hf.hi W' (hp.below hB hG)
    exact sayV_of (K := 279) (pr_num _) (fun _ => by kernel_rfl) (fun _ => by kernel_rfl) (fun _ => by kernel_rfl) fun W' hB => w_literal W _ _ hv (Nat.le_trans (dec_le hf.lo hf.hi) (by omega)) W' hB
  | @text s =>
    intro hg
    have hf := (good_of0 hg).text
    have hl : s.length ≤ 400 := hf
    have hv : SayV W (.iface 202 (strV s)) (quote s) := sayV_of (K := 247) rfl (fun _ => by kernel_rfl) (fun _ => by kernel_rfl) (fun _ => by kernel_rfl) fun W' hB => w_text s (by omega) W'
    exact sayV_of (K := 279) (pr_text _) (fun _ => by kernel_rfl) (fun _ => by kernel_rfl) (fun _ => by kernel_rfl) fun W' hB => w_literal W _ _ hv (Nat.le_trans (quote_le s) (by omega)) W' hB
  | null =>
    intro hg
    have hv : SayV W (.iface 225 (.agg #[])) [110, 117, 108, 108] := sayV_of (K := 248) rfl (fun _ => by kernel_rfl) (fun _ => by kernel_rfl) (fun _ => by kernel_rfl) fun W' hB => w_null W'
    exact sayV_of (K := 279) pr_null (fun _ => by kernel_rfl) (fun _ => by kernel_rfl) (fun _ => by kernel_rfl) fun W' hB => w_literal W _ _ hv (by decide) W' hB
  | column =>
    intro hg
    have hf := good_of0 hg
    exact sayV_of (K := 267) (pr_column _ _) (fun _ => by kernel_rfl) (fun _ => by kernel_rfl) (fun _ => by kernel_rfl) fun W' hB => w_column _ _ (Nat.le_trans hf.of_ (by omega)) (Nat.le_trans hf.text (by omega)) W'
  | star =>
    intro hg
    exact sayV_of (K := 282) pr_star (fun _ => by kernel_rfl) (fun _ => by kernel_rfl) (fun _ => by kernel_rfl) fun W' hB => w_star W'
  | agg hs _ ih =>
    intro hg
    obtain ⟨hf, g1⟩ := good_of1 hg
    exact sayV_of (K := 282) (pr_agg hs _) (fun _ => by kernel_rfl) (fun _ => by kernel_rfl) (fun _ => by kernel_rfl) fun W' hB => w_agg W _ _ _ (ih g1) (good_pr g1) (Nat.le_trans hf.kind (by omega)) W' hB
  | @select i f w g h is fs gs ti tf tw tg th b c hi hf hgr _ _ _ ow oh _ _ ihi ihf ihg ihw ihh =>
    intro hg
    rw [Good] at hg
    obtain ⟨hn, _, gi, gf, gg, gw, gh, _, _⟩ := hg
    have li : is.length ≤ 400 := by rw [← (ihi gi).1.1, prs_len _ gi]; exact hn.li
    have lf : fs.length ≤ 400 := by rw [← (ihf gf).1.1, prs_len _ gf]; exact hn.lf
    have lg : gs.length ≤ 400 := by rw [← (ihg gg).1.1, prs_len _ gg]; exact hn.lg
    refine sayV_of (K := 251) (pr_sel _ rfl _ _ _ _ _ _) (fun _ => by kernel_rfl) (fun _ => by kernel_rfl) (fun _ => by kernel_rfl) fun W' hB =>
      w_select W _ i f w g h is fs gs (prs ti) (prs tf) (prs tg) _ _ ?_ ?_ ?_ (ihi gi).1 (ihf gf).1 (ihg gg).1 (ihi gi).2 (ihf gf).2 (ihg gg).2 li lf lg hn.ci hn.cf hn.cg ?_ ?_ ?_ W' hB
    · rcases hi with ⟨_, h1, h2⟩ | ⟨_, _, h2⟩
      · exact .inl ⟨h1, h2⟩
      · exact .inr ⟨_, _, h2⟩
    · exact .inr ⟨_, _, hf.2⟩
    · rcases hgr with ⟨h1, h2⟩ | ⟨_, h2⟩
      · exact .inl ⟨h1, h2⟩
      · exact .inr ⟨_, _, h2⟩
    · rcases hi with ⟨h0, _, h2⟩ | ⟨h0, h2, _⟩
      · show c = true ↔ _; simp [h0, h2]
      · show c = true ↔ _; simp [h0, h2]
    · rcases ow with ⟨h1, h2⟩ | ⟨h1, h2⟩
      · left; rw [h2]; exact ⟨rfl, h1⟩
      · right; rw [if_pos h2]; exact ⟨_, rfl, ihw h1 (gw h2), good_pr (gw h2)⟩
    · rcases oh with ⟨h1, h2⟩ | ⟨h1, h2⟩
      · left; rw [h2]; exact ⟨rfl, h1⟩
      · right; rw [if_pos h2]; exact ⟨_, rfl, ihh h1 (gh h2), good_pr (gh h2)⟩
  | inil => intro _; exact ⟨by rw [prs]; exact SaysL.nil, fun p hp => by simp at hp⟩
  | @icons x s r t ts hx _ ih1 ih2 =>
    intro hg
    rw [GoodL] at hg
    obtain ⟨hf, g1⟩ := good_of1 hg.1
    obtain ⟨h2, h3⟩ := ih2 hg.2
    obtain ⟨n, y, rfl⟩ := hx.iface
    refine ⟨?_, fun p hp => ?_⟩
    · rw [prs, pr_item]
      exact SaysL.cons (fun W' hB => w_item W _ _ _ (ih1 g1) (good_pr g1) (Nat.le_trans hf.as_ (by omega)) W' hB) h2
    · rcases List.mem_cons.1 hp with rfl | hp
      · exact ⟨_, _, _, rfl⟩
      · exact h3 p hp
  | snil => intro _; exact ⟨by rw [prs]; exact SaysL.nil, fun p hp => by simp at hp⟩
  | scons _ ih =>
    intro hg
    rw [GoodL] at hg
    have hf := good_of0 hg.1
    obtain ⟨h2, h3⟩ := ih hg.2
    refine ⟨?_, fun p hp => ?_⟩
    · rw [prs, pr_source]
      exact SaysL.cons (fun W' hB => w_source _ _ (Nat.le_trans hf.text (by omega)) (Nat.le_trans hf.as_ (by omega)) W') h2
    · rcases List.mem_cons.1 hp with rfl | hp
      · exact ⟨_, _, rfl⟩
      · exact h3 p hp
  | cnil => intro _; exact ⟨by rw [prs]; exact SaysL.nil, fun p hp => by simp at hp⟩
  | ccons _ ih =>
    intro hg
    rw [GoodL] at hg
    have hf := good_of0 hg.1
    obtain ⟨h2, h3⟩ := ih hg.2
    refine ⟨?_, fun p hp => ?_⟩
    · rw [prs, pr_column]
      exact SaysL.cons (fun W' hB => w_column _ _ (Nat.le_trans hf.of_ (by omega)) (Nat.le_trans hf.text (by omega)) W') h2
    · rcases List.mem_cons.1 hp with rfl | hp
      · exact ⟨_, _, rfl⟩
      · exact h3 p hp
theorem rep_sayV {Pb n0 : Nat} {W : World} {x : Value} {t : Tr} (h : Rep Pb n0 W (.v x) t) (hp : Pows W) (hG : 13 ≤ W.heap.size) (hg : Good t) : SayV W x (pr t) := rep_pm h hp hG hg
end Gr
end Go.Proofs.YtfkdfplnhlnnoaaGreatDoor
end
section
namespace Go.Proofs.YtfkdfplnhlnnoaaGreatDoor
open Go.RowKit
set_option maxRecDepth 100000 in
set_option maxHeartbeats 400000 in
theorem catchS_idle (pe po : Addr) (w : World) :
    CallsD Tryz.prog 57 #[.pointer (some pe), .pointer (some po)] .returning w fun e u' w' => e = .returned (.tuple #[]) ∧ u' = .returning ∧ w' = w := by
  refine callsD_of_wpS Tryz.func57 rfl fun c₀ cs hu => ?_
  simp only [Tryz.ntmps57, List.size_toArray, List.length_cons, List.length_nil, Nat.reduceAdd, Nat.reduceSub, Array.replicate_succ, Array.replicate_zero, List.push_toArray, List.append_toArray, List.nil_append, List.cons_append]
  apply wpS_seq
  apply wpS_region
  simp [wpOpsS, go_sem, recoverD, hu, Exit.thenS]
  refine wpS_of_wp ?_
  go_wp2
  cases c₀
  simp_all [bodyPostS, results, Tryz.results57]
set_option maxRecDepth 100000 in
set_option maxHeartbeats 400000 in
theorem catchS_fault (pe po : Addr) (b : Nat) (old : Value) (w : World) (hc : w.cell? pe = some old) (hz : w.frozen? pe = false) :
    CallsD Tryz.prog 57 #[.pointer (some pe), .pointer (some po)] (.panicking (thrown b)) w fun e u' w' =>
      e = .returned (.tuple #[]) ∧ u' = .panicking [{ v := .iface 76 (.pointer (some ⟨b, 0, none⟩)), recovered := true }] ∧ w' = w.setCell pe (.iface 76 (.pointer (some ⟨b, 0, none⟩))) := by
  refine callsD_of_wpS Tryz.func57 rfl fun c₀ cs hu => ?_
  simp only [Tryz.ntmps57, List.size_toArray, List.length_cons, List.length_nil, Nat.reduceAdd, Nat.reduceSub, Array.replicate_succ, Array.replicate_zero, List.push_toArray, List.append_toArray, List.nil_append, List.cons_append]
  apply wpS_seq
  apply wpS_region
  simp [wpOpsS, go_sem, recoverD, hu, thrown, Exit.thenS]
  refine wpS_of_wp ?_
  have hta : ∀ w, (Instr.typeAssert (.iface 76 (.pointer (some ⟨b, 0, none⟩))) 20 76 true).run Tryz.prog w = .ok (.tuple #[.pointer (some ⟨b, 0, none⟩), .bool true]) w := fun _ => by kernel_rfl
  go_wp2
  cases c₀
  simp_all [bodyPostS, results, Tryz.results57]
set_option maxRecDepth 100000 in
set_option maxHeartbeats 400000 in
theorem catchS (pd : Addr) (other : Int) (w : World) (G : Bg.Str → World → Prop) (B : Nat → World → Prop)
    (h : Calls Tryz.prog 38 #[.pointer (some pd)] (catchW w other) fun e w2 => Below (w.heap.size + 2) (catchW w other) w2 ∧
      ((∃ q, e = .returned (.string ⟨q.toArray⟩) ∧ G q w2) ∨ (∃ b, e = .panicked (thrown b) ∧ B b w2))) :
    Calls Tryz.prog 37 #[.int .i64 other, .func (.func 38) #[] #[.pointer (some pd)]] w fun e w' => ∃ w2, Below (w.heap.size + 2) (catchW w other) w2 ∧
      ((∃ q, G q w2 ∧ e = .returned (.tuple #[.string ⟨q.toArray⟩, .nilIface]) ∧ w' = w2.setCell ⟨w.heap.size + 1, 0, none⟩ .nilIface) ∨
       (∃ b, B b w2 ∧ e = .returned (.tuple #[.string ⟨#[]⟩, faultV b]) ∧ w' = w2.setCell ⟨w.heap.size + 1, 0, none⟩ (faultV b))) := by
  have hmf : ∀ (fn : Fn) (first cap : Array Value) (w : World), (Instr.makeFunc fn first cap).run Tryz.prog w = .ok (.func fn first cap) w := fun _ _ _ _ => rfl
  have hc1 : (catchW w other).cell? ⟨w.heap.size + 1, 0, none⟩ = some .nilIface := by simp [catchW]
  have hf1 : (catchW w other).frozen? ⟨w.heap.size + 1, 0, none⟩ = false := by simp [catchW]
  have H := h
  have HH : Hid (Calls Tryz.prog 38 #[.pointer (some pd)] (catchW w other) fun e w2 => Below (w.heap.size + 2) (catchW w other) w2 ∧
      ((∃ q, e = .returned (.string ⟨q.toArray⟩) ∧ G q w2) ∨ (∃ b, e = .panicked (thrown b) ∧ B b w2))) := H
  clear h H
  go_enter_defers Tryz.func37, Tryz.ntmps37
  go_wp2_with fail
  refine HH.out.mono ?_
  rintro e w2 ⟨hB, ⟨q, rfl, hG⟩ | ⟨b, rfl, hBad⟩⟩
  · have hc2 : w2.cell? ⟨w.heap.size + 1, 0, none⟩ = some .nilIface := (hB.cell (p := ⟨w.heap.size + 1, 0, none⟩) (by simp)).trans hc1
    have hf2 : w2.frozen? ⟨w.heap.size + 1, 0, none⟩ = false := (hB.frozen (p := ⟨w.heap.size + 1, 0, none⟩) (by simp)).trans hf1
    go_wp2
    refine leaves_cons (f := 57) (args := #[.pointer (some ⟨w.heap.size + 1, 0, none⟩), .pointer (some ⟨w.heap.size, 0, none⟩)]) (by simp) (by simp [go_sem]) ?_
    refine (catchS_idle _ _ _).mono ?_
    rintro e u' w'' ⟨rfl, rfl, rfl⟩
    have hc3 : (w2.setCell ⟨w.heap.size + 1, 0, none⟩ .nilIface).cell? ⟨w.heap.size + 1, 0, none⟩ = some .nilIface := World.cell?_setCell_same' _ _ _ (by rw [hc2]; rfl)
    exact ⟨.tuple #[.string ⟨q.toArray⟩, .nilIface], by simp [results, Tryz.results37, go_sem, hc3], w2, hB, .inl ⟨q, hG, rfl, rfl⟩⟩
  · have hc2 : w2.cell? ⟨w.heap.size + 1, 0, none⟩ = some .nilIface := (hB.cell (p := ⟨w.heap.size + 1, 0, none⟩) (by simp)).trans hc1
    have hf2 : w2.frozen? ⟨w.heap.size + 1, 0, none⟩ = false := (hB.frozen (p := ⟨w.heap.size + 1, 0, none⟩) (by simp)).trans hf1
    go_wp2
    refine leaves_cons (f := 57) (args := #[.pointer (some ⟨w.heap.size + 1, 0, none⟩), .pointer (some ⟨w.heap.size, 0, none⟩)]) (by simp) (by simp [go_sem]) ?_
    refine (catchS_fault _ _ b .nilIface _ hc2 hf2).mono ?_
    rintro e u' w'' ⟨rfl, rfl, rfl⟩
    have hc3 : (w2.setCell ⟨w.heap.size + 1, 0, none⟩ (faultV b)).cell? ⟨w.heap.size + 1, 0, none⟩ = some (faultV b) := World.cell?_setCell_same' _ _ _ (by rw [hc2]; rfl)
    exact ⟨.tuple #[.string ⟨#[]⟩, faultV b], by simp [results, Tryz.results37, go_sem, hc3], w2, hB, .inr ⟨b, hBad, rfl, rfl⟩⟩
end Go.Proofs.YtfkdfplnhlnnoaaGreatDoor
end
