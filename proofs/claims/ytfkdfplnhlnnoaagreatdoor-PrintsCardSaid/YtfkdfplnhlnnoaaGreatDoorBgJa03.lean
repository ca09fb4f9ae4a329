import Derived.Test.YtfkdfplnhlnnoaaGreatDoorBgGram
import Derived.Test.YtfkdfplnhlnnoaaGreatDoorBgJa00
section
namespace Go.Proofs.YtfkdfplnhlnnoaaGreatDoor
namespace Gr
set_option linter.unusedSimpArgs false
set_option linter.unusedVariables false
open T NT
/-- a stretch of words -/
def st (w : List T) (i j : Nat) : List T := (w.drop i).take (j - i)
theorem st_len (w : List T) {i j : Nat} (hj : j ≤ w.length) : (st w i j).length = j - i := by
  unfold st; rw [List.length_take, List.length_drop]; omega
theorem st_nil (w : List T) {i j : Nat} (h : j ≤ i) : st w i j = [] := by
  unfold st; rw [show j - i = 0 from by omega]; rfl
theorem st_cons (w : List T) {i j : Nat} (hi : i < j) (hj : j ≤ w.length) : st w i j = w[i]'(by omega) :: st w (i + 1) j := by
  unfold st
  rw [List.drop_eq_getElem_cons (by omega : i < w.length), show j - i = (j - (i + 1)) + 1 from by omega, List.take_succ_cons]
theorem st_app (w : List T) {i p j : Nat} (hi : i ≤ p) (hp : p ≤ j) : st w i j = st w i p ++ st w p j := by
  unfold st
  rw [show j - i = (p - i) + (j - p) from by omega, List.take_add, List.drop_drop, show i + (p - i) = p from by omega]
theorem st_split (w : List T) {i p j : Nat} (hi : i ≤ p) (hp : p < j) (hj : j ≤ w.length) : st w i j = st w i p ++ w[p]'(by omega) :: st w (p + 1) j := by
  rw [st_app w hi (Nat.le_of_lt hp), st_cons w hp hj]
theorem st_of {w : List T} {i j : Nat} {a b : List T} {u : T} (hj : j ≤ w.length) (h : st w i j = a ++ u :: b) : ∃ p, i ≤ p ∧ p < j ∧ a = st w i p ∧ w[p]? = some u ∧ b = st w (p + 1) j := by
  have hl := congrArg List.length h
  rw [st_len w hj] at hl
  simp at hl
  refine ⟨i + a.length, by omega, by omega, ?_⟩
  have h2 := st_split w (i := i) (p := i + a.length) (j := j) (by omega) (by omega) hj
  rw [h] at h2
  have hla : (st w i (i + a.length)).length = a.length := by rw [st_len w (by omega)]; omega
  obtain ⟨e1, e2⟩ := List.append_inj h2 hla.symm
  obtain ⟨e3, e4⟩ := List.cons.inj e2
  exact ⟨e1, by rw [List.getElem?_eq_getElem (by omega)]; rw [e3], e4⟩
theorem inv_query (l : List T) : G query l ↔ G core l ∨ ∃ a u b, l = a ++ u :: b ∧ isSet u = true ∧ G query a ∧ (G core b ∨ ∃ b', b = all_ :: b' ∧ G core b') := by
  constructor
  · intro h
    cases h with
    | qCore h => exact .inl h
    | qJoin hu h1 h2 => exact .inr ⟨_, _, _, rfl, hu, h1, .inl h2⟩
    | qJoinAll hu h1 h2 => exact .inr ⟨_, _, _, rfl, hu, h1, .inr ⟨_, rfl, h2⟩⟩
  · rintro (h | ⟨a, u, b, rfl, hu, h1, h2 | ⟨b', rfl, h2⟩⟩)
    · exact .qCore h
    · exact .qJoin hu h1 h2
    · exact .qJoinAll hu h1 h2
theorem inv_core (l : List T) : G core l ↔ (∃ a, l = lp :: (a ++ [rp]) ∧ G query a) ∨ ∃ a b, l = sel :: (a ++ fr_ :: b) ∧ G tail b ∧ (a = [star] ∨ a = [dist, star] ∨ G items a ∨ ∃ a', a = dist :: a' ∧ G items a') := by
  constructor
  · intro h
    cases h with
    | cRound h => exact .inl ⟨_, rfl, h⟩
    | cStar h => exact .inr ⟨[star], _, rfl, h, .inl rfl⟩
    | cStarD h => exact .inr ⟨[dist, star], _, rfl, h, .inr (.inl rfl)⟩
    | cSel h1 h2 => exact .inr ⟨_, _, rfl, h2, .inr (.inr (.inl h1))⟩
    | cSelD h1 h2 => exact .inr ⟨dist :: _, _, rfl, h2, .inr (.inr (.inr ⟨_, rfl, h1⟩))⟩
  · rintro (⟨a, rfl, h⟩ | ⟨a, b, rfl, h, rfl | rfl | h1 | ⟨a', rfl, h1⟩⟩)
    · exact .cRound h
    · exact .cStar h
    · exact .cStarD h
    · exact .cSel h1 h
    · exact .cSelD h1 h
theorem inv_tail (l : List T) : G tail l ↔ G sources l ∨ (∃ a b, l = a ++ where_ :: b ∧ G sources a ∧ G after b) ∨ ∃ a b, l = a ++ group :: by_ :: b ∧ G sources a ∧ G grouped b := by
  constructor
  · intro h
    cases h with
    | tSrc h => exact .inl h
    | tWhere h1 h2 => exact .inr (.inl ⟨_, _, rfl, h1, h2⟩)
    | tGroup h1 h2 => exact .inr (.inr ⟨_, _, rfl, h1, h2⟩)
  · rintro (h | ⟨a, b, rfl, h1, h2⟩ | ⟨a, b, rfl, h1, h2⟩)
    · exact .tSrc h
    · exact .tWhere h1 h2
    · exact .tGroup h1 h2
theorem inv_after (l : List T) : G after l ↔ G cnd l ∨ ∃ a b, l = a ++ group :: by_ :: b ∧ G cnd a ∧ G grouped b := by
  constructor
  · intro h
    cases h with
    | aCond h => exact .inl h
    | aGroup h1 h2 => exact .inr ⟨_, _, rfl, h1, h2⟩
  · rintro (h | ⟨a, b, rfl, h1, h2⟩)
    · exact .aCond h
    · exact .aGroup h1 h2
theorem inv_grouped (l : List T) : G grouped l ↔ G columns l ∨ ∃ a b, l = a ++ having :: b ∧ G columns a ∧ G cnd b := by
  constructor
  · intro h
    cases h with
    | gCols h => exact .inl h
    | gHaving h1 h2 => exact .inr ⟨_, _, rfl, h1, h2⟩
  · rintro (h | ⟨a, b, rfl, h1, h2⟩)
    · exact .gCols h
    · exact .gHaving h1 h2
theorem inv_items (l : List T) : G items l ↔ G NT.item l ∨ ∃ a u b, l = a ++ u :: b ∧ u = comma ∧ G items a ∧ G NT.item b := by
  constructor
  · intro h
    cases h with
    | iOne h => exact .inl h
    | iMore h1 h2 => exact .inr ⟨_, _, _, rfl, rfl, h1, h2⟩
  · rintro (h | ⟨a, u, b, rfl, rfl, h1, h2⟩)
    · exact .iOne h
    · exact .iMore h1 h2
theorem inv_sources (l : List T) : G sources l ↔ G source l ∨ ∃ a u b, l = a ++ u :: b ∧ u = comma ∧ G sources a ∧ G source b := by
  constructor
  · intro h
    cases h with
    | sOne h => exact .inl h
    | sMore h1 h2 => exact .inr ⟨_, _, _, rfl, rfl, h1, h2⟩
  · rintro (h | ⟨a, u, b, rfl, rfl, h1, h2⟩)
    · exact .sOne h
    · exact .sMore h1 h2
theorem inv_columns (l : List T) : G columns l ↔ G column l ∨ ∃ a u b, l = a ++ u :: b ∧ u = comma ∧ G columns a ∧ G column b := by
  constructor
  · intro h
    cases h with
    | cOne h => exact .inl h
    | cMore h1 h2 => exact .inr ⟨_, _, _, rfl, rfl, h1, h2⟩
  · rintro (h | ⟨a, u, b, rfl, rfl, h1, h2⟩)
    · exact .cOne h
    · exact .cMore h1 h2
theorem inv_cnd (l : List T) : G cnd l ↔ G conj l ∨ ∃ a u b, l = a ++ u :: b ∧ u = or_ ∧ G cnd a ∧ G conj b := by
  constructor
  · intro h
    cases h with
    | kConj h => exact .inl h
    | kOr h1 h2 => exact .inr ⟨_, _, _, rfl, rfl, h1, h2⟩
  · rintro (h | ⟨a, u, b, rfl, rfl, h1, h2⟩)
    · exact .kConj h
    · exact .kOr h1 h2
theorem inv_conj (l : List T) : G conj l ↔ G neg l ∨ ∃ a u b, l = a ++ u :: b ∧ u = and_ ∧ G conj a ∧ G neg b := by
  constructor
  · intro h
    cases h with
    | jNeg h => exact .inl h
    | jAnd h1 h2 => exact .inr ⟨_, _, _, rfl, rfl, h1, h2⟩
  · rintro (h | ⟨a, u, b, rfl, rfl, h1, h2⟩)
    · exact .jNeg h
    · exact .jAnd h1 h2
theorem inv_neg (l : List T) : G neg l ↔ (∃ a, l = not_ :: a ∧ G neg a) ∨ ((∀ a, l ≠ not_ :: a) ∧ G basic l) := by
  constructor
  · intro h
    cases h with
    | nNot h => exact .inl ⟨_, rfl, h⟩
    | nBasic h => exact .inr ⟨basic_not h, h⟩
  · rintro (⟨a, rfl, h⟩ | ⟨_, h⟩)
    · exact .nNot h
    · exact .nBasic h
/-- what may stand behind an expression -/
def About (s : List T) : Prop :=
  s = [is_, null] ∨ s = [is_, not_, null] ∨ (∃ q, s = in_ :: lp :: (q ++ [rp]) ∧ G query q) ∨ (∃ q, s = not_ :: in_ :: lp :: (q ++ [rp]) ∧ G query q) ∨ (∃ h q, s = cmp :: h :: lp :: (q ++ [rp]) ∧ isHow h = true ∧ G query q) ∨ ∃ b, s = cmp :: b ∧ G expr b
theorem inv_basic (l : List T) : G basic l ↔ (∃ a, l = exists_ :: lp :: (a ++ [rp]) ∧ G query a) ∨ (∃ a, l = lp :: (a ++ [rp]) ∧ G cnd a) ∨ ∃ a s, l = a ++ s ∧ G expr a ∧ About s := by
  constructor
  · intro h
    cases h with
    | bExists h => exact .inl ⟨_, rfl, h⟩
    | bRound h => exact .inr (.inl ⟨_, rfl, h⟩)
    | bNull h => exact .inr (.inr ⟨_, _, rfl, h, .inl rfl⟩)
    | bNotNull h => exact .inr (.inr ⟨_, _, rfl, h, .inr (.inl rfl)⟩)
    | bIn h h2 => exact .inr (.inr ⟨_, _, rfl, h, .inr (.inr (.inl ⟨_, rfl, h2⟩))⟩)
    | bNotIn h h2 => exact .inr (.inr ⟨_, _, rfl, h, .inr (.inr (.inr (.inl ⟨_, rfl, h2⟩)))⟩)
    | bHow hh h h2 => exact .inr (.inr ⟨_, _, rfl, h, .inr (.inr (.inr (.inr (.inl ⟨_, _, rfl, hh, h2⟩))))⟩)
    | bCmp h h2 => exact .inr (.inr ⟨_, _, rfl, h, .inr (.inr (.inr (.inr (.inr ⟨_, rfl, h2⟩))))⟩)
  · rintro (⟨a, rfl, h⟩ | ⟨a, rfl, h⟩ | ⟨a, s, rfl, h, rfl | rfl | ⟨q, rfl, h2⟩ | ⟨q, rfl, h2⟩ | ⟨u, q, rfl, hu, h2⟩ | ⟨b, rfl, h2⟩⟩)
    · exact .bExists h
    · exact .bRound h
    · exact .bNull h
    · exact .bNotNull h
    · exact .bIn h h2
    · exact .bNotIn h h2
    · exact .bHow hu h h2
    · exact .bCmp h h2
theorem inv_expr (l : List T) : G expr l ↔ G term l ∨ ∃ a u b, l = a ++ u :: b ∧ isAdd u = true ∧ G expr a ∧ G term b := by
  constructor
  · intro h
    cases h with
    | eTerm h => exact .inl h
    | eMore hu h1 h2 => exact .inr ⟨_, _, _, rfl, hu, h1, h2⟩
  · rintro (h | ⟨a, u, b, rfl, hu, h1, h2⟩)
    · exact .eTerm h
    · exact .eMore hu h1 h2
theorem inv_term (l : List T) : G term l ↔ G factor l ∨ ∃ a u b, l = a ++ u :: b ∧ isMul u = true ∧ G term a ∧ G factor b := by
  constructor
  · intro h
    cases h with
    | mFac h => exact .inl h
    | mMore hu h1 h2 => exact .inr ⟨_, _, _, rfl, hu, h1, h2⟩
  · rintro (h | ⟨a, u, b, rfl, hu, h1, h2⟩)
    · exact .mFac h
    · exact .mMore hu h1 h2
theorem inv_item (l : List T) : G NT.item l ↔ G expr l ∨ ∃ a, l = a ++ [as_, name] ∧ G expr a := by
  constructor
  · intro h
    cases h with
    | item h => exact .inl h
    | itemAs h => exact .inr ⟨_, rfl, h⟩
  · rintro (h | ⟨a, rfl, h⟩)
    · exact .item h
    · exact .itemAs h
theorem inv_source (l : List T) : G source l ↔ l = [name] ∨ l = [name, as_, name] := by
  constructor
  · intro h
    cases h with
    | src => exact .inl rfl
    | srcAs => exact .inr rfl
  · rintro (rfl | rfl)
    · exact .src
    · exact .srcAs
theorem inv_column (l : List T) : G column l ↔ l = [name] ∨ l = [name, dot, name] := by
  constructor
  · intro h
    cases h with
    | col => exact .inl rfl
    | colOf => exact .inr rfl
  · rintro (rfl | rfl)
    · exact .col
    · exact .colOf
theorem inv_factor (l : List T) : G factor l ↔ (∃ a, l = minus :: a ∧ G factor a) ∨ l = [lit] ∨ l = [null] ∨ l = [count, lp, star, rp] ∨ (∃ u a, l = u :: lp :: (a ++ [rp]) ∧ isAgg u = true ∧ G expr a) ∨ (∃ a, l = lp :: (a ++ [rp]) ∧ G expr a) ∨ G column l := by
  constructor
  · intro h
    cases h with
    | fNeg h => exact .inl ⟨_, rfl, h⟩
    | fLit => exact .inr (.inl rfl)
    | fNull => exact .inr (.inr (.inl rfl))
    | fStar => exact .inr (.inr (.inr (.inl rfl)))
    | fAgg hu h => exact .inr (.inr (.inr (.inr (.inl ⟨_, _, rfl, hu, h⟩))))
    | fRound h => exact .inr (.inr (.inr (.inr (.inr (.inl ⟨_, rfl, h⟩)))))
    | fCol h => exact .inr (.inr (.inr (.inr (.inr (.inr h)))))
  · rintro (⟨a, rfl, h⟩ | rfl | rfl | rfl | ⟨u, a, rfl, hu, h⟩ | ⟨a, rfl, h⟩ | h)
    · exact .fNeg h
    · exact .fLit
    · exact .fNull
    · exact .fStar
    · exact .fAgg hu h
    · exact .fRound h
    · exact .fCol h
end Gr
end Go.Proofs.YtfkdfplnhlnnoaaGreatDoor
end
section
namespace Go.Proofs.YtfkdfplnhlnnoaaGreatDoor
namespace Gr
set_option linter.unusedSimpArgs false
set_option linter.unusedVariables false
open T NT
/-- a word as the document's reader holds it -/
structure RW where
  sort : Bg.Str
  text : Bg.Str
  num : Int
def kKey : Bg.Str := [107, 101, 121]
def kSign : Bg.Str := [115, 105, 103, 110]
def kName : Bg.Str := [110, 97, 109, 101]
def kNum : Bg.Str := [110, 117, 109]
def kText : Bg.Str := [116, 101, 120, 116]
def keyToks : List (Bg.Str × T) := [([115, 101, 108, 101, 99, 116], sel), ([100, 105, 115, 116, 105, 110, 99, 116], dist), ([102, 114, 111, 109], fr_), ([119, 104, 101, 114, 101], where_), ([103, 114, 111, 117, 112], group), ([98, 121], by_), ([104, 97, 118, 105, 110, 103], having), ([97, 115], as_), ([117, 110, 105, 111, 110], union), ([105, 110, 116, 101, 114, 115, 101, 99, 116], inter), ([101, 120, 99, 101, 112, 116], exc), ([97, 108, 108], all_), ([97, 110, 121], any_), ([97, 110, 100], and_), ([111, 114], or_), ([110, 111, 116], not_), ([101, 120, 105, 115, 116, 115], exists_), ([105, 110], in_), ([105, 115], is_), ([110, 117, 108, 108], null), ([99, 111, 117, 110, 116], count), ([115, 117, 109], agg), ([109, 105, 110], agg), ([109, 97, 120], agg)]
def signToks : List (Bg.Str × T) := [([40], lp), ([41], rp), ([44], comma), ([46], dot), ([42], star), ([43], plus), ([45], minus), ([47], slash), ([37], pct), ([61], cmp), ([60, 62], cmp), ([60], cmp), ([60, 61], cmp), ([62], cmp), ([62, 61], cmp)]
def keyTok (s : Bg.Str) : T := (keyToks.lookup s).getD lit
def signTok (s : Bg.Str) : T := (signToks.lookup s).getD lit
def tok (w : RW) : T := if w.sort = kKey then keyTok w.text else if w.sort = kSign then signTok w.text else if w.sort = kName then name else lit
/-- the words that there are -/
def Ok1 (w : RW) : Prop := (w.sort = kKey ∧ w.text ∈ keyToks.map Prod.fst) ∨ (w.sort = kSign ∧ w.text ∈ signToks.map Prod.fst) ∨ w.sort = kName ∨ w.sort = kNum ∨ w.sort = kText
def keyB (w : RW) (s : Bg.Str) : Bool := w.sort == kKey && w.text == s
def signB (w : RW) (s : Bg.Str) : Bool := w.sort == kSign && w.text == s
theorem key_tab : ∀ x ∈ keyToks.map Prod.fst, ∀ y ∈ keyToks, y.2 ≠ agg → (decide (x = y.1) = decide (keyTok x = y.2)) := by decide
theorem key_sign : ∀ x ∈ signToks.map Prod.fst, ∀ y ∈ keyToks, signTok x ≠ y.2 := by decide
theorem sign_tab : ∀ x ∈ signToks.map Prod.fst, ∀ y ∈ signToks, y.2 ≠ cmp → (decide (x = y.1) = decide (signTok x = y.2)) := by decide
theorem sign_key : ∀ x ∈ keyToks.map Prod.fst, ∀ y ∈ signToks, keyTok x ≠ y.2 := by decide
theorem key_plain : ∀ y ∈ keyToks, y.2 ≠ name ∧ y.2 ≠ lit := by decide
theorem sign_plain : ∀ y ∈ signToks, y.2 ≠ name ∧ y.2 ≠ lit := by decide
theorem keyB_tok {w : RW} (hw : Ok1 w) {y : Bg.Str × T} (hy : y ∈ keyToks) (ha : y.2 ≠ agg) : keyB w y.1 = decide (tok w = y.2) := by
  have hp := key_plain y hy
  unfold keyB tok
  rcases hw with ⟨h, ht⟩ | ⟨h, ht⟩ | h | h | h
  · rw [h, if_pos rfl, ← key_tab _ ht y hy ha]; simp [Bool.beq_eq_decide_eq]
  · rw [h, if_neg (by decide), if_pos rfl, decide_eq_false (key_sign _ ht y hy)]; simp [kKey, kSign]
  · rw [h, if_neg (by decide), if_neg (by decide), if_pos rfl, decide_eq_false (fun e => hp.1 e.symm)]; simp [kKey, kName]
  · rw [h, if_neg (by decide), if_neg (by decide), if_neg (by decide), decide_eq_false (fun e => hp.2 e.symm)]; simp [kKey, kNum]
  · rw [h, if_neg (by decide), if_neg (by decide), if_neg (by decide), decide_eq_false (fun e => hp.2 e.symm)]; simp [kKey, kText]
theorem signB_tok {w : RW} (hw : Ok1 w) {y : Bg.Str × T} (hy : y ∈ signToks) (ha : y.2 ≠ cmp) : signB w y.1 = decide (tok w = y.2) := by
  have hp := sign_plain y hy
  unfold signB tok
  rcases hw with ⟨h, ht⟩ | ⟨h, ht⟩ | h | h | h
  · rw [h, if_pos rfl, decide_eq_false (sign_key _ ht y hy)]; simp [kKey, kSign]
  · rw [h, if_neg (by decide), if_pos rfl, ← sign_tab _ ht y hy ha]; simp [Bool.beq_eq_decide_eq]
  · rw [h, if_neg (by decide), if_neg (by decide), if_pos rfl, decide_eq_false (fun e => hp.1 e.symm)]; simp [kSign, kName]
  · rw [h, if_neg (by decide), if_neg (by decide), if_neg (by decide), decide_eq_false (fun e => hp.2 e.symm)]; simp [kSign, kNum]
  · rw [h, if_neg (by decide), if_neg (by decide), if_neg (by decide), decide_eq_false (fun e => hp.2 e.symm)]; simp [kSign, kText]
theorem agg_tab : ∀ x ∈ keyToks.map Prod.fst, (keyTok x = agg ↔ x = [115, 117, 109] ∨ x = [109, 105, 110] ∨ x = [109, 97, 120]) := by decide
theorem tok_agg {w : RW} (hw : Ok1 w) : tok w = agg ↔ keyB w [115, 117, 109] = true ∨ keyB w [109, 105, 110] = true ∨ keyB w [109, 97, 120] = true := by
  unfold keyB tok
  rcases hw with ⟨h, ht⟩ | ⟨h, ht⟩ | h | h | h
  · rw [h, if_pos rfl, agg_tab _ ht]; simp
  · rw [h, if_neg (by decide), if_pos rfl]
    have := key_sign _ ht ([115, 117, 109], agg) (by decide)
    simp [kKey, kSign, this]
  · simp [h, kKey, kSign, kName, kNum, kText]
  · simp [h, kKey, kSign, kName, kNum, kText]
  · simp [h, kKey, kSign, kName, kNum, kText]
theorem tok_name {w : RW} (hw : Ok1 w) : tok w = name ↔ w.sort = kName := by
  unfold tok
  rcases hw with ⟨h, ht⟩ | ⟨h, ht⟩ | h | h | h
  · rw [h, if_pos rfl]
    obtain ⟨y, hy, e⟩ := List.mem_map.1 ht
    have : keyTok w.text ≠ name := (show ∀ x ∈ keyToks.map Prod.fst, keyTok x ≠ name by decide) _ ht
    simp [this, kKey, kName]
  · rw [h, if_neg (by decide), if_pos rfl]
    have : signTok w.text ≠ name := (show ∀ x ∈ signToks.map Prod.fst, signTok x ≠ name by decide) _ ht
    simp [this, kSign, kName]
  · simp [h, kKey, kSign, kName, kNum, kText]
  · simp [h, kKey, kSign, kName, kNum, kText]
  · simp [h, kKey, kSign, kName, kNum, kText]
theorem tok_lit {w : RW} (hw : Ok1 w) : tok w = lit ↔ w.sort = kNum ∨ w.sort = kText := by
  unfold tok
  rcases hw with ⟨h, ht⟩ | ⟨h, ht⟩ | h | h | h
  · rw [h, if_pos rfl]
    have : keyTok w.text ≠ lit := (show ∀ x ∈ keyToks.map Prod.fst, keyTok x ≠ lit by decide) _ ht
    simp [this, kKey, kNum, kText]
  · rw [h, if_neg (by decide), if_pos rfl]
    have : signTok w.text ≠ lit := (show ∀ x ∈ signToks.map Prod.fst, signTok x ≠ lit by decide) _ ht
    simp [this, kSign, kNum, kText]
  · simp [h, kKey, kSign, kName, kNum, kText]
  · simp [h, kKey, kSign, kName, kNum, kText]
  · simp [h, kKey, kSign, kName, kNum, kText]
/-- what is plain in a part of a query -/
structure Fl where
  kind : Bg.Str := []
  sign : Bg.Str := []
  text : Bg.Str := []
  of_ : Bg.Str := []
  as_ : Bg.Str := []
  num : Int := 0
  star : Bool := false
  not_ : Bool := false
  all : Bool := false
  dist : Bool := false
/-- a part of a query; nil, cons: a list of parts -/
inductive Tr
  | nil
  | cons (h t : Tr)
  | node (f : Fl) (kids items frm grp whr hav : Tr)
def Tr.kids : Tr → Tr | .node _ k _ _ _ _ _ => k | _ => .nil
def Tr.frm : Tr → Tr | .node _ _ _ f _ _ _ => f | _ => .nil
def Tr.grp : Tr → Tr | .node _ _ _ _ g _ _ => g | _ => .nil
def Tr.whr : Tr → Tr | .node _ _ _ _ _ w _ => w | _ => .nil
def Tr.hav : Tr → Tr | .node _ _ _ _ _ _ h => h | _ => .nil
def Tr.len : Tr → Nat | .cons _ t => t.len + 1 | _ => 0
def Tr.snoc : Tr → Tr → Tr | .cons h t, x => .cons h (t.snoc x) | _, x => .cons x .nil
def nd (f : Fl) (kids : Tr) : Tr := .node f kids .nil .nil .nil .nil .nil
def l1 (a : Tr) : Tr := .cons a .nil
def l2 (a b : Tr) : Tr := .cons a (.cons b .nil)
def selT (star dist : Bool) (items t : Tr) : Tr := .node { kind := [115, 101, 108, 101, 99, 116], star := star, dist := dist } .nil items t.frm t.grp t.whr t.hav
def tailT (frm grp whr hav : Tr) : Tr := .node { kind := [116, 97, 105, 108] } .nil .nil frm grp whr hav
/-- the tree that the document's reader makes of a stretch of words -/
inductive D : NT → List RW → Tr → Prop
  | qCore {a t} : D core a t → D query a t
  | qJoin {a b u x y} : isSet (tok u) = true → D query a x → D core b y → D query (a ++ u :: b) (nd { kind := u.text } (l2 x y))
  | qJoinAll {a b u v x y} : isSet (tok u) = true → tok v = all_ → D query a x → D core b y → D query (a ++ u :: v :: b) (nd { kind := u.text, all := true } (l2 x y))
  | cRound {a o c x} : tok o = lp → tok c = rp → D query a x → D core (o :: (a ++ [c])) x
  | cStar {s r f t x} : tok s = sel → tok r = star → tok f = fr_ → D tail t x → D core (s :: r :: f :: t) (selT true false .nil x)
  | cStarD {s d r f t x} : tok s = sel → tok d = dist → tok r = star → tok f = fr_ → D tail t x → D core (s :: d :: r :: f :: t) (selT true true .nil x)
  | cSel {s l f t x y} : tok s = sel → tok f = fr_ → D items l y → D tail t x → D core (s :: (l ++ f :: t)) (selT false false y.kids x)
  | cSelD {s d l f t x y} : tok s = sel → tok d = dist → tok f = fr_ → D items l y → D tail t x → D core (s :: d :: (l ++ f :: t)) (selT false true y.kids x)
  | tSrc {a x} : D sources a x → D tail a (tailT x.kids .nil .nil .nil)
  | tWhere {a b u x y} : tok u = where_ → D sources a x → D after b y → D tail (a ++ u :: b) (tailT x.kids y.grp y.whr y.hav)
  | tGroup {a b u v x y} : tok u = group → tok v = by_ → D sources a x → D grouped b y → D tail (a ++ u :: v :: b) (tailT x.kids y.grp y.whr y.hav)
  | aCond {a x} : D cnd a x → D after a (tailT .nil .nil x .nil)
  | aGroup {a b u v x y} : tok u = group → tok v = by_ → D cnd a x → D grouped b y → D after (a ++ u :: v :: b) (tailT y.frm y.grp x y.hav)
  | gCols {a x} : D columns a x → D grouped a (tailT .nil x.kids .nil .nil)
  | gHaving {a b u x y} : tok u = having → D columns a x → D cnd b y → D grouped (a ++ u :: b) (tailT .nil x.kids .nil y)
  | iOne {a x} : D NT.item a x → D items a (nd { kind := [114, 111, 119] } (l1 x))
  | iMore {a b u x y} : tok u = comma → D items a x → D NT.item b y → D items (a ++ u :: b) (nd { kind := [114, 111, 119] } (x.kids.snoc y))
  | item {a x} : D expr a x → D NT.item a (nd { kind := [105, 116, 101, 109] } (l1 x))
  | itemAs {a u v x} : tok u = T.as_ → tok v = name → D expr a x → D NT.item (a ++ [u, v]) (nd { kind := [105, 116, 101, 109], as_ := v.text } (l1 x))
  | sOne {a x} : D source a x → D sources a (nd { kind := [114, 111, 119] } (l1 x))
  | sMore {a b u x y} : tok u = comma → D sources a x → D source b y → D sources (a ++ u :: b) (nd { kind := [114, 111, 119] } (x.kids.snoc y))
  | src {u} : tok u = name → D source [u] (nd { kind := [115, 111, 117, 114, 99, 101], text := u.text } .nil)
  | srcAs {u v w} : tok u = name → tok v = T.as_ → tok w = name → D source [u, v, w] (nd { kind := [115, 111, 117, 114, 99, 101], text := u.text, as_ := w.text } .nil)
  | cOne {a x} : D column a x → D columns a (nd { kind := [114, 111, 119] } (l1 x))
  | cMore {a b u x y} : tok u = comma → D columns a x → D column b y → D columns (a ++ u :: b) (nd { kind := [114, 111, 119] } (x.kids.snoc y))
  | col {u} : tok u = name → D column [u] (nd { kind := [99, 111, 108, 117, 109, 110], text := u.text } .nil)
  | colOf {u v w} : tok u = name → tok v = dot → tok w = name → D column [u, v, w] (nd { kind := [99, 111, 108, 117, 109, 110], of_ := u.text, text := w.text } .nil)
  | kConj {a x} : D conj a x → D cnd a x
  | kOr {a b u x y} : tok u = or_ → D cnd a x → D conj b y → D cnd (a ++ u :: b) (nd { kind := u.text } (l2 x y))
  | jNeg {a x} : D neg a x → D conj a x
  | jAnd {a b u x y} : tok u = and_ → D conj a x → D neg b y → D conj (a ++ u :: b) (nd { kind := u.text } (l2 x y))
  | nNot {a u x} : tok u = T.not_ → D neg a x → D neg (u :: a) (nd { kind := [110, 111, 116] } (l1 x))
  | nBasic {a x} : D basic a x → D neg a x
  | bExists {a u o c x} : tok u = exists_ → tok o = lp → tok c = rp → D query a x → D basic (u :: o :: (a ++ [c])) (nd { kind := [101, 120, 105, 115, 116, 115] } (l1 x))
  | bRound {a o c x} : tok o = lp → tok c = rp → D cnd a x → D basic (o :: (a ++ [c])) x
  | bNull {a u v x} : tok u = is_ → tok v = null → D expr a x → D basic (a ++ [u, v]) (nd { kind := [105, 115, 110, 117, 108, 108] } (l1 x))
  | bNotNull {a u n v x} : tok u = is_ → tok n = T.not_ → tok v = null → D expr a x → D basic (a ++ [u, n, v]) (nd { kind := [105, 115, 110, 117, 108, 108], not_ := true } (l1 x))
  | bIn {a q u o c x y} : tok u = in_ → tok o = lp → tok c = rp → D expr a x → D query q y → D basic (a ++ u :: o :: (q ++ [c])) (nd { kind := [105, 110] } (l2 x y))
  | bNotIn {a q n u o c x y} : tok n = T.not_ → tok u = in_ → tok o = lp → tok c = rp → D expr a x → D query q y → D basic (a ++ n :: u :: o :: (q ++ [c])) (nd { kind := [105, 110], not_ := true } (l2 x y))
  | bHow {a q u h o c x y} : tok u = cmp → isHow (tok h) = true → tok o = lp → tok c = rp → D expr a x → D query q y → D basic (a ++ u :: h :: o :: (q ++ [c])) (nd { kind := h.text, sign := u.text } (l2 x y))
  | bCmp {a b u x y} : tok u = cmp → D expr a x → D expr b y → D basic (a ++ u :: b) (nd { kind := [99, 111, 109, 112, 97, 114, 101], sign := u.text } (l2 x y))
  | eTerm {a x} : D term a x → D expr a x
  | eMore {a b u x y} : isAdd (tok u) = true → D expr a x → D term b y → D expr (a ++ u :: b) (nd { kind := u.text } (l2 x y))
  | mFac {a x} : D factor a x → D term a x
  | mMore {a b u x y} : isMul (tok u) = true → D term a x → D factor b y → D term (a ++ u :: b) (nd { kind := u.text } (l2 x y))
  | fNeg {a u x} : tok u = minus → D factor a x → D factor (u :: a) (nd { kind := [110, 101, 103] } (l1 x))
  | fNum {u} : tok u = lit → u.sort = kNum → D factor [u] (nd { kind := kNum, num := u.num } .nil)
  | fText {u} : tok u = lit → u.sort = kText → D factor [u] (nd { kind := kText, text := u.text } .nil)
  | fNull {u} : tok u = null → D factor [u] (nd { kind := [110, 117, 108, 108] } .nil)
  | fStar {u o s c} : tok u = count → tok o = lp → tok s = star → tok c = rp → D factor [u, o, s, c] (nd { kind := [99, 111, 117, 110, 116], star := true } .nil)
  | fAgg {a u o c x} : isAgg (tok u) = true → tok o = lp → tok c = rp → D expr a x → D factor (u :: o :: (a ++ [c])) (nd { kind := u.text } (l1 x))
  | fRound {a o c x} : tok o = lp → tok c = rp → D expr a x → D factor (o :: (a ++ [c])) x
  | fCol {a x} : D column a x → D factor a x
theorem D.g {k : NT} {l : List RW} {t : Tr} (h : D k l t) : G k (l.map tok) := by
  induction h
  case qCore => (try simp only [List.map_append, List.map_cons, List.map_nil, *]); apply G.qCore <;> assumption
  case qJoin => (try simp only [List.map_append, List.map_cons, List.map_nil, *]); apply G.qJoin <;> assumption
  case qJoinAll => (try simp only [List.map_append, List.map_cons, List.map_nil, *]); apply G.qJoinAll <;> assumption
  case cRound => (try simp only [List.map_append, List.map_cons, List.map_nil, *]); apply G.cRound <;> assumption
  case cStar => (try simp only [List.map_append, List.map_cons, List.map_nil, *]); apply G.cStar <;> assumption
  case cStarD => (try simp only [List.map_append, List.map_cons, List.map_nil, *]); apply G.cStarD <;> assumption
  case cSel => (try simp only [List.map_append, List.map_cons, List.map_nil, *]); apply G.cSel <;> assumption
  case cSelD => (try simp only [List.map_append, List.map_cons, List.map_nil, *]); apply G.cSelD <;> assumption
  case tSrc => (try simp only [List.map_append, List.map_cons, List.map_nil, *]); apply G.tSrc <;> assumption
  case tWhere => (try simp only [List.map_append, List.map_cons, List.map_nil, *]); apply G.tWhere <;> assumption
  case tGroup => (try simp only [List.map_append, List.map_cons, List.map_nil, *]); apply G.tGroup <;> assumption
  case aCond => (try simp only [List.map_append, List.map_cons, List.map_nil, *]); apply G.aCond <;> assumption
  case aGroup => (try simp only [List.map_append, List.map_cons, List.map_nil, *]); apply G.aGroup <;> assumption
  case gCols => (try simp only [List.map_append, List.map_cons, List.map_nil, *]); apply G.gCols <;> assumption
  case gHaving => (try simp only [List.map_append, List.map_cons, List.map_nil, *]); apply G.gHaving <;> assumption
  case iOne => (try simp only [List.map_append, List.map_cons, List.map_nil, *]); apply G.iOne <;> assumption
  case iMore => (try simp only [List.map_append, List.map_cons, List.map_nil, *]); apply G.iMore <;> assumption
  case item => (try simp only [List.map_append, List.map_cons, List.map_nil, *]); apply G.item <;> assumption
  case itemAs => (try simp only [List.map_append, List.map_cons, List.map_nil, *]); apply G.itemAs <;> assumption
  case sOne => (try simp only [List.map_append, List.map_cons, List.map_nil, *]); apply G.sOne <;> assumption
  case sMore => (try simp only [List.map_append, List.map_cons, List.map_nil, *]); apply G.sMore <;> assumption
  case src => (try simp only [List.map_append, List.map_cons, List.map_nil, *]); apply G.src <;> assumption
  case srcAs => (try simp only [List.map_append, List.map_cons, List.map_nil, *]); apply G.srcAs <;> assumption
  case cOne => (try simp only [List.map_append, List.map_cons, List.map_nil, *]); apply G.cOne <;> assumption
  case cMore => (try simp only [List.map_append, List.map_cons, List.map_nil, *]); apply G.cMore <;> assumption
  case col => (try simp only [List.map_append, List.map_cons, List.map_nil, *]); apply G.col <;> assumption
  case colOf => (try simp only [List.map_append, List.map_cons, List.map_nil, *]); apply G.colOf <;> assumption
  case kConj => (try simp only [List.map_append, List.map_cons, List.map_nil, *]); apply G.kConj <;> assumption
  case kOr => (try simp only [List.map_append, List.map_cons, List.map_nil, *]); apply G.kOr <;> assumption
  case jNeg => (try simp only [List.map_append, List.map_cons, List.map_nil, *]); apply G.jNeg <;> assumption
  case jAnd => (try simp only [List.map_append, List.map_cons, List.map_nil, *]); apply G.jAnd <;> assumption
  case nNot => (try simp only [List.map_append, List.map_cons, List.map_nil, *]); apply G.nNot <;> assumption
  case nBasic => (try simp only [List.map_append, List.map_cons, List.map_nil, *]); apply G.nBasic <;> assumption
  case bExists => (try simp only [List.map_append, List.map_cons, List.map_nil, *]); apply G.bExists <;> assumption
  case bRound => (try simp only [List.map_append, List.map_cons, List.map_nil, *]); apply G.bRound <;> assumption
  case bNull => (try simp only [List.map_append, List.map_cons, List.map_nil, *]); apply G.bNull <;> assumption
  case bNotNull => (try simp only [List.map_append, List.map_cons, List.map_nil, *]); apply G.bNotNull <;> assumption
  case bIn => (try simp only [List.map_append, List.map_cons, List.map_nil, *]); apply G.bIn <;> assumption
  case bNotIn => (try simp only [List.map_append, List.map_cons, List.map_nil, *]); apply G.bNotIn <;> assumption
  case bHow => (try simp only [List.map_append, List.map_cons, List.map_nil, *]); apply G.bHow <;> assumption
  case bCmp => (try simp only [List.map_append, List.map_cons, List.map_nil, *]); apply G.bCmp <;> assumption
  case eTerm => (try simp only [List.map_append, List.map_cons, List.map_nil, *]); apply G.eTerm <;> assumption
  case eMore => (try simp only [List.map_append, List.map_cons, List.map_nil, *]); apply G.eMore <;> assumption
  case mFac => (try simp only [List.map_append, List.map_cons, List.map_nil, *]); apply G.mFac <;> assumption
  case mMore => (try simp only [List.map_append, List.map_cons, List.map_nil, *]); apply G.mMore <;> assumption
  case fNeg => (try simp only [List.map_append, List.map_cons, List.map_nil, *]); apply G.fNeg <;> assumption
  case fNum => (try simp only [List.map_append, List.map_cons, List.map_nil, *]); apply G.fLit <;> assumption
  case fText => (try simp only [List.map_append, List.map_cons, List.map_nil, *]); apply G.fLit <;> assumption
  case fNull => (try simp only [List.map_append, List.map_cons, List.map_nil, *]); apply G.fNull <;> assumption
  case fStar => (try simp only [List.map_append, List.map_cons, List.map_nil, *]); apply G.fStar <;> assumption
  case fAgg => (try simp only [List.map_append, List.map_cons, List.map_nil, *]); apply G.fAgg <;> assumption
  case fRound => (try simp only [List.map_append, List.map_cons, List.map_nil, *]); apply G.fRound <;> assumption
  case fCol => (try simp only [List.map_append, List.map_cons, List.map_nil, *]); apply G.fCol <;> assumption
end Gr
end Go.Proofs.YtfkdfplnhlnnoaaGreatDoor
end
