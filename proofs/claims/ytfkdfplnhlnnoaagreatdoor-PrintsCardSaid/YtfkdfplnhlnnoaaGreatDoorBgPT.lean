import Derived.Test.YtfkdfplnhlnnoaaGreatDoorBgJa03
namespace Go.Proofs.YtfkdfplnhlnnoaaGreatDoor
namespace Gr
set_option linter.unusedSimpArgs false
set_option linter.unusedVariables false
open T NT
/-- what is read: one; or on from what was read (R, ask) -/
inductive PT | P (k : NT) | R (k : NT) (x : Tr) | ask (x : Tr) | round (k : NT) | alias
open PT
def eatW (t : T) : List RW → Option (RW × List RW)
  | u :: r => if tok u = t then some (u, r) else none
  | [] => none
def skipW (t : T) : List RW → Bool × List RW
  | u :: r => if tok u = t then (true, r) else (false, u :: r)
  | [] => (false, [])
def rowT (x : Tr) : Tr := nd { kind := [114, 111, 119] } x
def opT (u : RW) (x y : Tr) : Tr := nd { kind := u.text } (l2 x y)
def parseT : Nat → PT → List RW → Option (Tr × List RW)
  | 0, _, _ => none
  | n + 1, P query, l => (parseT n (P core) l).bind fun p => parseT n (R query p.1) p.2
  | n + 1, R query x, l => match l with
    | u :: r => if isSet (tok u) then
        (parseT n (P core) (skipW all_ r).2).bind fun p => parseT n (R query (nd { kind := u.text, all := (skipW all_ r).1 } (l2 x p.1))) p.2
      else some (x, u :: r)
    | [] => some (x, [])
  | n + 1, P core, l => match l with
    | u :: r => if tok u = lp then parseT n (round query) (u :: r)
      else if tok u = sel then
        (match (skipW dist r).2 with
          | s :: r2 => if tok s = star then (eatW fr_ r2).bind fun e => (parseT n (P tail) e.2).bind fun p => some (selT true (skipW dist r).1 .nil p.1, p.2)
            else (parseT n (P items) (s :: r2)).bind fun q => (eatW fr_ q.2).bind fun e => (parseT n (P tail) e.2).bind fun p => some (selT false (skipW dist r).1 q.1.kids p.1, p.2)
          | [] => none)
      else none
    | [] => none
  | n + 1, round k, l => (eatW lp l).bind fun e => (parseT n (P k) e.2).bind fun p => (eatW rp p.2).bind fun e2 => some (p.1, e2.2)
  | n + 1, P tail, l => (parseT n (P sources) l).bind fun p => match p.2 with
    | u :: r => if tok u = where_ then (parseT n (P after) r).bind fun q => some (tailT p.1.kids q.1.grp q.1.whr q.1.hav, q.2)
      else if tok u = group then (eatW by_ r).bind fun e => (parseT n (P grouped) e.2).bind fun q => some (tailT p.1.kids q.1.grp q.1.whr q.1.hav, q.2)
      else some (tailT p.1.kids .nil .nil .nil, u :: r)
    | [] => some (tailT p.1.kids .nil .nil .nil, [])
  | n + 1, P after, l => (parseT n (P cnd) l).bind fun p => match p.2 with
    | u :: r => if tok u = group then (eatW by_ r).bind fun e => (parseT n (P grouped) e.2).bind fun q => some (tailT q.1.frm q.1.grp p.1 q.1.hav, q.2)
      else some (tailT .nil .nil p.1 .nil, u :: r)
    | [] => some (tailT .nil .nil p.1 .nil, [])
  | n + 1, P grouped, l => (parseT n (P columns) l).bind fun p => match p.2 with
    | u :: r => if tok u = having then (parseT n (P cnd) r).bind fun q => some (tailT .nil p.1.kids .nil q.1, q.2)
      else some (tailT .nil p.1.kids .nil .nil, u :: r)
    | [] => some (tailT .nil p.1.kids .nil .nil, [])
  | n + 1, P items, l => (parseT n (P NT.item) l).bind fun p => parseT n (R items (rowT (l1 p.1))) p.2
  | n + 1, R items x, l => match l with
    | u :: r => if tok u = comma then (parseT n (P NT.item) r).bind fun p => parseT n (R items (rowT (x.kids.snoc p.1))) p.2 else some (x, u :: r)
    | [] => some (x, [])
  | n + 1, P NT.item, l => (parseT n (P expr) l).bind fun p => (parseT n PT.alias p.2).bind fun q => some (nd { kind := [105, 116, 101, 109], as_ := (match q.1 with | .node f _ _ _ _ _ _ => f.as_ | _ => []) } (l1 p.1), q.2)
  | _ + 1, PT.alias, l => match l with
    | u :: r => if tok u = T.as_ then (eatW name r).bind fun e => some (nd { as_ := e.1.text } .nil, e.2) else some (nd {} .nil, u :: r)
    | [] => some (nd {} .nil, [])
  | n + 1, P sources, l => (parseT n (P source) l).bind fun p => parseT n (R sources (rowT (l1 p.1))) p.2
  | n + 1, R sources x, l => match l with
    | u :: r => if tok u = comma then (parseT n (P source) r).bind fun p => parseT n (R sources (rowT (x.kids.snoc p.1))) p.2 else some (x, u :: r)
    | [] => some (x, [])
  | n + 1, P source, l => (eatW name l).bind fun e => (parseT n PT.alias e.2).bind fun q => some (nd { kind := [115, 111, 117, 114, 99, 101], text := e.1.text, as_ := (match q.1 with | .node f _ _ _ _ _ _ => f.as_ | _ => []) } .nil, q.2)
  | n + 1, P columns, l => (parseT n (P column) l).bind fun p => parseT n (R columns (rowT (l1 p.1))) p.2
  | n + 1, R columns x, l => match l with
    | u :: r => if tok u = comma then (parseT n (P column) r).bind fun p => parseT n (R columns (rowT (x.kids.snoc p.1))) p.2 else some (x, u :: r)
    | [] => some (x, [])
  | _ + 1, P column, l => (eatW name l).bind fun e => match e.2 with
    | u :: r => if tok u = dot then (eatW name r).bind fun e2 => some (nd { kind := [99, 111, 108, 117, 109, 110], of_ := e.1.text, text := e2.1.text } .nil, e2.2)
      else some (nd { kind := [99, 111, 108, 117, 109, 110], text := e.1.text } .nil, u :: r)
    | [] => some (nd { kind := [99, 111, 108, 117, 109, 110], text := e.1.text } .nil, [])
  | n + 1, P cnd, l => (parseT n (P conj) l).bind fun p => parseT n (R cnd p.1) p.2
  | n + 1, R cnd x, l => match l with
    | u :: r => if tok u = or_ then (parseT n (P conj) r).bind fun p => parseT n (R cnd (opT u x p.1)) p.2 else some (x, u :: r)
    | [] => some (x, [])
  | n + 1, P conj, l => (parseT n (P neg) l).bind fun p => parseT n (R conj p.1) p.2
  | n + 1, R conj x, l => match l with
    | u :: r => if tok u = and_ then (parseT n (P neg) r).bind fun p => parseT n (R conj (opT u x p.1)) p.2 else some (x, u :: r)
    | [] => some (x, [])
  | n + 1, P neg, l => match l with
    | u :: r => if tok u = T.not_ then (parseT n (P neg) r).bind fun p => some (nd { kind := [110, 111, 116] } (l1 p.1), p.2) else parseT n (P basic) (u :: r)
    | [] => none
  | n + 1, P basic, l => match l with
    | u :: r => if tok u = exists_ then (parseT n (round query) r).bind fun p => some (nd { kind := [101, 120, 105, 115, 116, 115] } (l1 p.1), p.2)
      else if opensC 0 ((u :: r).map tok) then parseT n (round cnd) (u :: r) else (parseT n (P expr) (u :: r)).bind fun p => parseT n (PT.ask p.1) p.2
    | [] => none
  | n + 1, PT.ask x, l => match l with
    | u :: r => if tok u = is_ then (eatW null (skipW T.not_ r).2).bind fun e => some (nd { kind := [105, 115, 110, 117, 108, 108], not_ := (skipW T.not_ r).1 } (l1 x), e.2)
      else if tok u = cmp then
        (match r with
          | v :: r' => if isHow (tok v) then (parseT n (round query) r').bind fun p => some (nd { kind := v.text, sign := u.text } (l2 x p.1), p.2)
            else (parseT n (P expr) (v :: r')).bind fun p => some (nd { kind := [99, 111, 109, 112, 97, 114, 101], sign := u.text } (l2 x p.1), p.2)
          | [] => none)
      else (eatW in_ (skipW T.not_ (u :: r)).2).bind fun e => (parseT n (round query) e.2).bind fun p => some (nd { kind := [105, 110], not_ := (skipW T.not_ (u :: r)).1 } (l2 x p.1), p.2)
    | [] => none
  | n + 1, P expr, l => (parseT n (P term) l).bind fun p => parseT n (R expr p.1) p.2
  | n + 1, R expr x, l => match l with
    | u :: r => if isAdd (tok u) then (parseT n (P term) r).bind fun p => parseT n (R expr (opT u x p.1)) p.2 else some (x, u :: r)
    | [] => some (x, [])
  | n + 1, P term, l => (parseT n (P factor) l).bind fun p => parseT n (R term p.1) p.2
  | n + 1, R term x, l => match l with
    | u :: r => if isMul (tok u) then (parseT n (P factor) r).bind fun p => parseT n (R term (opT u x p.1)) p.2 else some (x, u :: r)
    | [] => some (x, [])
  | n + 1, P factor, l => match l with
    | u :: r => if tok u = minus then (parseT n (P factor) r).bind fun p => some (nd { kind := [110, 101, 103] } (l1 p.1), p.2)
      else if tok u = null then some (nd { kind := [110, 117, 108, 108] } .nil, r)
      else if tok u = lit then (if u.sort = kNum then some (nd { kind := kNum, num := u.num } .nil, r) else some (nd { kind := kText, text := u.text } .nil, r))
      else if tok u = lp then parseT n (round expr) (u :: r)
      else if isAgg (tok u) then (eatW lp r).bind fun e =>
        (match e.2 with
          | s :: r2 => if tok u = count ∧ tok s = star then (eatW rp r2).bind fun e2 => some (nd { kind := [99, 111, 117, 110, 116], star := true } .nil, e2.2)
            else (parseT n (P expr) (s :: r2)).bind fun p => (eatW rp p.2).bind fun e2 => some (nd { kind := u.text } (l1 p.1), e2.2)
          | [] => none)
      else parseT n (P column) (u :: r)
    | [] => none
  | _ + 1, R _ _, _ => none
def OkT (pk : PT) (l : List RW) (q : Tr × List RW) : Prop := ∃ N, ∀ n, N ≤ n → parseT n pk l = some q
def GoesT (k : NT) (t : Tr) (r' : List RW) (q : Tr × List RW) : Prop := if chains k then OkT (R k t) r' q else q = (t, r')
theorem okT_now {pk : PT} {l : List RW} {q : Tr × List RW} (h : ∀ n, parseT (n + 1) pk l = some q) : OkT pk l q :=
  ⟨1, fun n hn => by obtain ⟨m, rfl⟩ : ∃ m, n = m + 1 := ⟨n - 1, by omega⟩; exact h m⟩
theorem okT_step {pk k : PT} {l l' : List RW} {q : Tr × List RW} (h : ∀ n, parseT (n + 1) pk l = parseT n k l') (h1 : OkT k l' q) : OkT pk l q := by
  obtain ⟨N, hN⟩ := h1
  refine ⟨N + 1, fun n hn => ?_⟩
  obtain ⟨m, rfl⟩ : ∃ m, n = m + 1 := ⟨n - 1, by omega⟩
  rw [h m]; exact hN m (by omega)
theorem okT_two {pk k1 : PT} {l l' : List RW} {p q : Tr × List RW} (g : Nat → Tr × List RW → Option (Tr × List RW)) (h : ∀ n, parseT (n + 1) pk l = (parseT n k1 l').bind (g n)) (h1 : OkT k1 l' p) (h2 : ∃ N, ∀ n, N ≤ n → g n p = some q) : OkT pk l q := by
  obtain ⟨N1, hN1⟩ := h1
  obtain ⟨N2, hN2⟩ := h2
  refine ⟨N1 + N2 + 1, fun n hn => ?_⟩
  obtain ⟨m, rfl⟩ : ∃ m, n = m + 1 := ⟨n - 1, by omega⟩
  rw [h m, hN1 m (by omega)]
  exact hN2 m (by omega)
theorem okT_map {pk k1 : PT} {l l' : List RW} {p : Tr × List RW} (f : Tr × List RW → Tr × List RW) (h : ∀ n, parseT (n + 1) pk l = (parseT n k1 l').bind fun p => some (f p)) (h1 : OkT k1 l' p) : OkT pk l (f p) :=
  okT_two (fun _ p => some (f p)) h h1 ⟨0, fun _ _ => rfl⟩
theorem eatW_cons {t : T} {u : RW} (h : tok u = t) (r : List RW) : eatW t (u :: r) = some (u, r) := by simp [eatW, h]
theorem okT_round {k : NT} {o c : RW} {a r : List RW} {x : Tr} (ho : tok o = lp) (hc : tok c = rp) (h : OkT (P k) (a ++ c :: r) (x, c :: r)) : OkT (round k) (o :: (a ++ [c]) ++ r) (x, r) := by
  refine okT_two (k1 := P k) (l' := a ++ c :: r) (fun _ p => (eatW rp p.2).bind fun e2 => some (p.1, e2.2)) (fun n => ?_) h ⟨0, fun n _ => ?_⟩
  · rw [parseT, List.cons_append, eatW_cons ho, List.append_assoc]; rfl
  · simp [eatW_cons hc]
def FitW (k : NT) (r : List RW) : Prop := ∀ u r', r = u :: r' → ext k (tok u) = false
theorem fitW_cons {k : NT} {u : RW} {r : List RW} (h : ext k (tok u) = false) : FitW k (u :: r) := by
  intro v r' e; cases e; exact h
theorem fitW_tok {k : NT} {u : RW} {t : T} {r : List RW} (hu : tok u = t) (h : ext k t = false) : FitW k (u :: r) := fitW_cons (by rw [hu]; exact h)
theorem FitW.mono {k k' : NT} {r : List RW} (h : FitW k r) (he : ∀ t, ext k' t = true → ext k t = true) : FitW k' r := by
  intro u r' e
  have := h u r' e
  cases hx : ext k' (tok u) with
  | false => rfl
  | true => rw [he _ hx] at this; cases this
theorem rT_stop {k : NT} {x : Tr} {r : List RW} (hc : chains k = true) (h : FitW k r) : OkT (R k x) r (x, r) := by
  cases r with
  | nil => cases k <;> first | exact absurd hc (by decide) | exact okT_now (fun n => by simp [parseT])
  | cons u r =>
    have hu := h u r rfl
    generalize ht : tok u = t at hu
    cases k <;> first | exact absurd hc (by decide) | (cases t <;> first | exact absurd hu (by decide) | exact okT_now (fun n => by simp [parseT, ht, isSet, isAdd, isMul]))
def ReadsT (k : NT) (a : List RW) (t : Tr) : Prop := ∀ q r', FitW (base k) r' → GoesT k t r' q → OkT (P k) (a ++ r') q
theorem fullT {k : NT} {a r : List RW} {t : Tr} (h : ReadsT k a t) (hf : FitW k r) : OkT (P k) (a ++ r) (t, r) := by
  refine h _ r ?_ ?_
  · refine hf.mono ?_
    cases k <;> (intro t; cases t <;> decide)
  · unfold GoesT
    cases hc : chains k with
    | true => simp only [if_true]; exact rT_stop hc hf
    | false => simp
theorem goesT_same {k : NT} {t : Tr} {r' : List RW} {q : Tr × List RW} (h : GoesT k t r' q) (hc : chains k = false) : q = (t, r') := by
  unfold GoesT at h; rw [hc] at h; simpa using h
theorem goesT_chain {k : NT} {t : Tr} {r' : List RW} {q : Tr × List RW} (h : GoesT k t r' q) (hc : chains k = true) : OkT (R k t) r' q := by
  unfold GoesT at h; rw [hc] at h; simpa using h
theorem chainT_goes {k : NT} {t : Tr} {r' : List RW} {q : Tr × List RW} (hc : chains k = true) (h : OkT (R k t) r' q) : GoesT k t r' q := by
  unfold GoesT; rw [hc]; simpa using h
def tailK (n : Nat) (p : Tr × List RW) : Option (Tr × List RW) := match p.2 with
  | u :: r => if tok u = where_ then (parseT n (P after) r).bind fun q => some (tailT p.1.kids q.1.grp q.1.whr q.1.hav, q.2)
    else if tok u = group then (eatW by_ r).bind fun e => (parseT n (P grouped) e.2).bind fun q => some (tailT p.1.kids q.1.grp q.1.whr q.1.hav, q.2)
    else some (tailT p.1.kids .nil .nil .nil, u :: r)
  | [] => some (tailT p.1.kids .nil .nil .nil, [])
theorem parseT_tail (n : Nat) (l : List RW) : parseT (n + 1) (P tail) l = (parseT n (P sources) l).bind (tailK n) := by rw [parseT]; rfl
def afterK (n : Nat) (p : Tr × List RW) : Option (Tr × List RW) := match p.2 with
  | u :: r => if tok u = group then (eatW by_ r).bind fun e => (parseT n (P grouped) e.2).bind fun q => some (tailT q.1.frm q.1.grp p.1 q.1.hav, q.2)
    else some (tailT .nil .nil p.1 .nil, u :: r)
  | [] => some (tailT .nil .nil p.1 .nil, [])
theorem parseT_after (n : Nat) (l : List RW) : parseT (n + 1) (P after) l = (parseT n (P cnd) l).bind (afterK n) := by rw [parseT]; rfl
def groupedK (n : Nat) (p : Tr × List RW) : Option (Tr × List RW) := match p.2 with
  | u :: r => if tok u = having then (parseT n (P cnd) r).bind fun q => some (tailT .nil p.1.kids .nil q.1, q.2)
    else some (tailT .nil p.1.kids .nil .nil, u :: r)
  | [] => some (tailT .nil p.1.kids .nil .nil, [])
theorem parseT_grouped (n : Nat) (l : List RW) : parseT (n + 1) (P grouped) l = (parseT n (P columns) l).bind (groupedK n) := by rw [parseT]; rfl
def asOf (t : Tr) : Bg.Str := match t with | .node f _ _ _ _ _ _ => f.as_ | _ => []
def itemK (n : Nat) (p : Tr × List RW) : Option (Tr × List RW) := (parseT n PT.alias p.2).bind fun q => some (nd { kind := [105, 116, 101, 109], as_ := asOf q.1 } (l1 p.1), q.2)
theorem parseT_item (n : Nat) (l : List RW) : parseT (n + 1) (P NT.item) l = (parseT n (P expr) l).bind (itemK n) := by rw [parseT]; rfl
theorem head_of {k : NT} {b : List RW} {t : Tr} (h : D k b t) : ∃ v b', b = v :: b' ∧ first k (tok v) = true := by
  obtain ⟨t, r, e, hf⟩ := first_of h.g
  cases b with
  | nil => cases e
  | cons v b' =>
    rw [List.map_cons] at e
    exact ⟨v, b', rfl, by rw [(List.cons.inj e).1]; exact hf⟩
theorem ext_set {t : T} (h : isSet t = true) : ext core t = false := by cases t <;> first | exact absurd h (by decide) | rfl
theorem ext_add {t : T} (h : isAdd t = true) : ext term t = false := by cases t <;> first | exact absurd h (by decide) | rfl
theorem ext_mul {t : T} (h : isMul t = true) : ext factor t = false := by cases t <;> first | exact absurd h (by decide) | rfl
theorem skipW_no {t : T} {v : RW} {r : List RW} (h : tok v ≠ t) : skipW t (v :: r) = (false, v :: r) := by simp [skipW, h]
theorem skipW_yes {t : T} {v : RW} {r : List RW} (h : tok v = t) : skipW t (v :: r) = (true, r) := by simp [skipW, h]
/-- nothing that lengthens: an alias ends -/
theorem alias_end {r : List RW} (h : ∀ u r', r = u :: r' → tok u ≠ T.as_) : OkT PT.alias r (nd {} .nil, r) := by
  cases r with
  | nil => exact okT_now (fun n => by simp [parseT])
  | cons u r => have := h u r rfl; exact okT_now (fun n => by simp [parseT, this])
theorem alias_as {u v : RW} {r : List RW} (hu : tok u = T.as_) (hv : tok v = name) : OkT PT.alias (u :: v :: r) (nd { as_ := v.text } .nil, r) := okT_now (fun n => by simp [parseT, hu, eatW_cons hv])
theorem basicT {a : List RW} {x : Tr} (h : D expr a x) (n : Nat) (s : List RW) : parseT (n + 1) (P basic) (a ++ s) = (parseT n (P expr) (a ++ s)).bind fun p => parseT n (PT.ask p.1) p.2 := by
  have ho : opensC 0 ((a ++ s).map tok) = false := by rw [List.map_append]; exact noOpen h.g rfl _
  obtain ⟨v, b, rfl, hf⟩ := head_of h
  rw [List.cons_append] at ho ⊢
  rw [parseT]
  have he : tok v ≠ exists_ := fun e => by rw [e] at hf; exact absurd hf (by decide)
  rw [if_neg he, if_neg (by rw [ho]; simp)]
theorem readsT {k : NT} {a : List RW} {t : Tr} (h : D k a t) : ReadsT k a t := by
  induction h with
  | qCore _ ih =>
    intro q r' hf hg
    exact okT_two (fun n p => parseT n (R query p.1) p.2) (fun n => by rw [parseT]) (fullT ih hf) (goesT_chain hg rfl)
  | kConj _ ih =>
    intro q r' hf hg
    exact okT_two (fun n p => parseT n (R cnd p.1) p.2) (fun n => by rw [parseT]) (fullT ih hf) (goesT_chain hg rfl)
  | jNeg _ ih =>
    intro q r' hf hg
    exact okT_two (fun n p => parseT n (R conj p.1) p.2) (fun n => by rw [parseT]) (fullT ih hf) (goesT_chain hg rfl)
  | eTerm _ ih =>
    intro q r' hf hg
    exact okT_two (fun n p => parseT n (R expr p.1) p.2) (fun n => by rw [parseT]) (fullT ih hf) (goesT_chain hg rfl)
  | mFac _ ih =>
    intro q r' hf hg
    exact okT_two (fun n p => parseT n (R term p.1) p.2) (fun n => by rw [parseT]) (fullT ih hf) (goesT_chain hg rfl)
  | iOne _ ih =>
    intro q r' hf hg
    exact okT_two (fun n p => parseT n (R items (rowT (l1 p.1))) p.2) (fun n => by rw [parseT]) (fullT ih hf) (goesT_chain hg rfl)
  | sOne _ ih =>
    intro q r' hf hg
    exact okT_two (fun n p => parseT n (R sources (rowT (l1 p.1))) p.2) (fun n => by rw [parseT]) (fullT ih hf) (goesT_chain hg rfl)
  | cOne _ ih =>
    intro q r' hf hg
    exact okT_two (fun n p => parseT n (R columns (rowT (l1 p.1))) p.2) (fun n => by rw [parseT]) (fullT ih hf) (goesT_chain hg rfl)
  | qJoin hu _ hb ih1 ih2 =>
    intro q r' hf hg
    rename_i a b u x y _
    obtain ⟨v, b', rfl, hv⟩ := head_of hb
    rw [List.append_assoc]
    have hs : skipW all_ (v :: b' ++ r') = (false, v :: b' ++ r') := skipW_no (fun e => by rw [e] at hv; exact absurd hv (by decide))
    refine ih1 q _ (fitW_cons (ext_set hu)) (chainT_goes rfl (okT_two (k1 := P core) (l' := v :: b' ++ r') (fun n p => parseT n (R query (nd { kind := u.text } (l2 x p.1))) p.2) (fun n => ?_) (fullT ih2 hf) (goesT_chain hg rfl)))
    rw [List.cons_append, parseT, hu, if_pos rfl, hs]
  | qJoinAll hu hv _ hb ih1 ih2 =>
    intro q r' hf hg
    rename_i a b u v x y _
    rw [List.append_assoc]
    refine ih1 q _ (fitW_cons (ext_set hu)) (chainT_goes rfl (okT_two (k1 := P core) (l' := b ++ r') (fun n p => parseT n (R query (nd { kind := u.text, all := true } (l2 x p.1))) p.2) (fun n => ?_) (fullT ih2 hf) (goesT_chain hg rfl)))
    rw [List.cons_append, List.cons_append, parseT, hu, if_pos rfl, skipW_yes hv]
  | iMore hu _ _ ih1 ih2 =>
    intro q r' hf hg
    rename_i a b u x y _ _
    rw [List.append_assoc]
    exact ih1 q _ (fitW_tok hu rfl) (chainT_goes rfl (okT_two (k1 := P NT.item) (l' := b ++ r') (fun n p => parseT n (R items (rowT (x.kids.snoc p.1))) p.2) (fun n => by rw [List.cons_append, parseT, if_pos hu]) (fullT ih2 hf) (goesT_chain hg rfl)))
  | sMore hu _ _ ih1 ih2 =>
    intro q r' hf hg
    rename_i a b u x y _ _
    rw [List.append_assoc]
    exact ih1 q _ (fitW_tok hu rfl) (chainT_goes rfl (okT_two (k1 := P source) (l' := b ++ r') (fun n p => parseT n (R sources (rowT (x.kids.snoc p.1))) p.2) (fun n => by rw [List.cons_append, parseT, if_pos hu]) (fullT ih2 hf) (goesT_chain hg rfl)))
  | cMore hu _ _ ih1 ih2 =>
    intro q r' hf hg
    rename_i a b u x y _ _
    rw [List.append_assoc]
    exact ih1 q _ (fitW_tok hu rfl) (chainT_goes rfl (okT_two (k1 := P column) (l' := b ++ r') (fun n p => parseT n (R columns (rowT (x.kids.snoc p.1))) p.2) (fun n => by rw [List.cons_append, parseT, if_pos hu]) (fullT ih2 hf) (goesT_chain hg rfl)))
  | kOr hu _ _ ih1 ih2 =>
    intro q r' hf hg
    rename_i a b u x y _ _
    rw [List.append_assoc]
    exact ih1 q _ (fitW_tok hu rfl) (chainT_goes rfl (okT_two (k1 := P conj) (l' := b ++ r') (fun n p => parseT n (R cnd (opT u x p.1)) p.2) (fun n => by rw [List.cons_append, parseT, if_pos hu]) (fullT ih2 hf) (goesT_chain hg rfl)))
  | jAnd hu _ _ ih1 ih2 =>
    intro q r' hf hg
    rename_i a b u x y _ _
    rw [List.append_assoc]
    exact ih1 q _ (fitW_tok hu rfl) (chainT_goes rfl (okT_two (k1 := P neg) (l' := b ++ r') (fun n p => parseT n (R conj (opT u x p.1)) p.2) (fun n => by rw [List.cons_append, parseT, if_pos hu]) (fullT ih2 hf) (goesT_chain hg rfl)))
  | eMore hu _ _ ih1 ih2 =>
    intro q r' hf hg
    rename_i a b u x y _ _
    rw [List.append_assoc]
    exact ih1 q _ (fitW_cons (ext_add hu)) (chainT_goes rfl (okT_two (k1 := P term) (l' := b ++ r') (fun n p => parseT n (R expr (opT u x p.1)) p.2) (fun n => by rw [List.cons_append, parseT, hu, if_pos rfl]) (fullT ih2 hf) (goesT_chain hg rfl)))
  | mMore hu _ _ ih1 ih2 =>
    intro q r' hf hg
    rename_i a b u x y _ _
    rw [List.append_assoc]
    exact ih1 q _ (fitW_cons (ext_mul hu)) (chainT_goes rfl (okT_two (k1 := P factor) (l' := b ++ r') (fun n p => parseT n (R term (opT u x p.1)) p.2) (fun n => by rw [List.cons_append, parseT, hu, if_pos rfl]) (fullT ih2 hf) (goesT_chain hg rfl)))
  | cRound ho hc _ ih =>
    intro q r' hf hg
    obtain rfl := goesT_same hg rfl
    exact okT_step (k := round query) (fun n => by rw [List.cons_append, parseT, if_pos ho]) (okT_round ho hc (fullT ih (fitW_tok hc rfl)))
  | cStar hs hr hf1 _ ih =>
    intro q r' hf hg
    obtain rfl := goesT_same hg rfl
    exact okT_map (fun p => (selT true false .nil p.1, p.2)) (fun n => by simp [parseT, hs, hr, skipW, eatW, hf1]) (fullT ih (hf.mono (by intro t; cases t <;> decide)))
  | cStarD hs hd hr hf1 _ ih =>
    intro q r' hf hg
    obtain rfl := goesT_same hg rfl
    exact okT_map (fun p => (selT true true .nil p.1, p.2)) (fun n => by simp [parseT, hs, hd, hr, skipW, eatW, hf1]) (fullT ih (hf.mono (by intro t; cases t <;> decide)))
  | cSel hs hf1 hl _ ih1 ih2 =>
    intro q r' hf hg
    obtain rfl := goesT_same hg rfl
    rename_i s l f t x y _
    obtain ⟨v, b', rfl, hv⟩ := head_of hl
    have h1 : OkT (P items) (v :: b' ++ f :: (t ++ r')) (y, f :: (t ++ r')) := fullT ih1 (fitW_tok hf1 rfl)
    obtain ⟨N, hN⟩ := fullT ih2 (r := r') (hf.mono (by intro t; cases t <;> decide))
    refine okT_two (k1 := P items) (l' := v :: b' ++ f :: (t ++ r')) (fun n q => (eatW fr_ q.2).bind fun e => (parseT n (P tail) e.2).bind fun p => some (selT false false q.1.kids p.1, p.2)) (fun n => ?_) h1 ⟨N, fun n hn => by simp [eatW_cons hf1, hN n hn]⟩
    have n1 : tok v ≠ dist := fun e => by rw [e] at hv; exact absurd hv (by decide)
    have n2 : tok v ≠ star := fun e => by rw [e] at hv; exact absurd hv (by decide)
    simp [parseT, hs, skipW, n1, n2]
  | cSelD hs hd hf1 hl _ ih1 ih2 =>
    intro q r' hf hg
    obtain rfl := goesT_same hg rfl
    rename_i s d l f t x y _
    obtain ⟨v, b', rfl, hv⟩ := head_of hl
    have h1 : OkT (P items) (v :: b' ++ f :: (t ++ r')) (y, f :: (t ++ r')) := fullT ih1 (fitW_tok hf1 rfl)
    obtain ⟨N, hN⟩ := fullT ih2 (r := r') (hf.mono (by intro t; cases t <;> decide))
    refine okT_two (k1 := P items) (l' := v :: b' ++ f :: (t ++ r')) (fun n q => (eatW fr_ q.2).bind fun e => (parseT n (P tail) e.2).bind fun p => some (selT false true q.1.kids p.1, p.2)) (fun n => ?_) h1 ⟨N, fun n hn => by simp [eatW_cons hf1, hN n hn]⟩
    have n2 : tok v ≠ star := fun e => by rw [e] at hv; exact absurd hv (by decide)
    simp [parseT, hs, hd, skipW, n2]
  | tSrc _ ih =>
    intro q r' hf hg
    obtain rfl := goesT_same hg rfl
    refine okT_two tailK (fun n => parseT_tail n _) (fullT ih (hf.mono (by intro t; cases t <;> decide))) ⟨0, fun n _ => ?_⟩
    cases r' with
    | nil => rfl
    | cons u r =>
      have := hf u r rfl
      have n1 : tok u ≠ where_ := fun e => by rw [e] at this; exact absurd this (by decide)
      have n2 : tok u ≠ group := fun e => by rw [e] at this; exact absurd this (by decide)
      simp [tailK, n1, n2]
  | tWhere hu _ _ ih1 ih2 =>
    intro q r' hf hg
    obtain rfl := goesT_same hg rfl
    rename_i a b u x y _ _
    rw [List.append_assoc]
    obtain ⟨N, hN⟩ := fullT ih2 (r := r') (hf.mono (by intro t; cases t <;> decide))
    exact okT_two (p := (x, u :: (b ++ r'))) tailK (fun n => parseT_tail n _) (fullT ih1 (fitW_tok hu rfl)) ⟨N, fun n hn => by simp [tailK, hu, hN n hn]⟩
  | tGroup hu hv _ _ ih1 ih2 =>
    intro q r' hf hg
    obtain rfl := goesT_same hg rfl
    rename_i a b u v x y _ _
    rw [List.append_assoc]
    obtain ⟨N, hN⟩ := fullT ih2 (r := r') (hf.mono (by intro t; cases t <;> decide))
    exact okT_two (p := (x, u :: v :: (b ++ r'))) tailK (fun n => parseT_tail n _) (fullT ih1 (fitW_tok hu rfl)) ⟨N, fun n hn => by simp [tailK, hu, eatW_cons hv, hN n hn]⟩
  | aCond _ ih =>
    intro q r' hf hg
    obtain rfl := goesT_same hg rfl
    refine okT_two afterK (fun n => parseT_after n _) (fullT ih (hf.mono (by intro t; cases t <;> decide))) ⟨0, fun n _ => ?_⟩
    cases r' with
    | nil => rfl
    | cons u r =>
      have := hf u r rfl
      have n2 : tok u ≠ group := fun e => by rw [e] at this; exact absurd this (by decide)
      simp [afterK, n2]
  | aGroup hu hv _ _ ih1 ih2 =>
    intro q r' hf hg
    obtain rfl := goesT_same hg rfl
    rename_i a b u v x y _ _
    rw [List.append_assoc]
    obtain ⟨N, hN⟩ := fullT ih2 (r := r') (hf.mono (by intro t; cases t <;> decide))
    exact okT_two (p := (x, u :: v :: (b ++ r'))) afterK (fun n => parseT_after n _) (fullT ih1 (fitW_tok hu rfl)) ⟨N, fun n hn => by simp [afterK, hu, eatW_cons hv, hN n hn]⟩
  | gCols _ ih =>
    intro q r' hf hg
    obtain rfl := goesT_same hg rfl
    refine okT_two groupedK (fun n => parseT_grouped n _) (fullT ih (hf.mono (by intro t; cases t <;> decide))) ⟨0, fun n _ => ?_⟩
    cases r' with
    | nil => rfl
    | cons u r =>
      have := hf u r rfl
      have n2 : tok u ≠ having := fun e => by rw [e] at this; exact absurd this (by decide)
      simp [groupedK, n2]
  | gHaving hu _ _ ih1 ih2 =>
    intro q r' hf hg
    obtain rfl := goesT_same hg rfl
    rename_i a b u x y _ _
    rw [List.append_assoc]
    obtain ⟨N, hN⟩ := fullT ih2 (r := r') (hf.mono (by intro t; cases t <;> decide))
    exact okT_two (p := (x, u :: (b ++ r'))) groupedK (fun n => parseT_grouped n _) (fullT ih1 (fitW_tok hu rfl)) ⟨N, fun n hn => by simp [groupedK, hu, hN n hn]⟩
  | item _ ih =>
    intro q r' hf hg
    obtain rfl := goesT_same hg rfl
    obtain ⟨N, hN⟩ := alias_end (r := r') (fun u r e => by intro e2; have := hf u r e; rw [e2] at this; exact absurd this (by decide))
    exact okT_two itemK (fun n => parseT_item n _) (fullT ih (hf.mono (by intro t; cases t <;> decide))) ⟨N, fun n hn => by simp [itemK, hN n hn, asOf, nd]⟩
  | itemAs hu hv _ ih =>
    intro q r' hf hg
    obtain rfl := goesT_same hg rfl
    rename_i a u v x _
    rw [List.append_assoc]
    obtain ⟨N, hN⟩ := alias_as (r := r') hu hv
    exact okT_two (p := (x, u :: v :: r')) itemK (fun n => parseT_item n _) (fullT ih (fitW_tok hu rfl)) ⟨N, fun n hn => by simp [itemK, hN n hn, asOf, nd]⟩
  | src hu =>
    intro q r' hf hg
    obtain rfl := goesT_same hg rfl
    obtain ⟨N, hN⟩ := alias_end (r := r') (fun u r e => by intro e2; have := hf u r e; rw [e2] at this; exact absurd this (by decide))
    refine ⟨N + 1, fun n hn => ?_⟩
    obtain ⟨m, rfl⟩ : ∃ m, n = m + 1 := ⟨n - 1, by omega⟩
    rw [List.cons_append, List.nil_append, parseT, eatW_cons hu]
    simp [hN m (by omega), nd]
  | srcAs hu hv hw =>
    intro q r' hf hg
    obtain rfl := goesT_same hg rfl
    obtain ⟨N, hN⟩ := alias_as (r := r') hv hw
    refine ⟨N + 1, fun n hn => ?_⟩
    obtain ⟨m, rfl⟩ : ∃ m, n = m + 1 := ⟨n - 1, by omega⟩
    rw [List.cons_append, List.cons_append, List.cons_append, List.nil_append, parseT, eatW_cons hu]
    simp [hN m (by omega), nd]
  | col hu =>
    intro q r' hf hg
    obtain rfl := goesT_same hg rfl
    refine okT_now (fun n => ?_)
    rw [List.cons_append, List.nil_append, parseT, eatW_cons hu]
    cases r' with
    | nil => rfl
    | cons v r =>
      have := hf v r rfl
      have n2 : tok v ≠ dot := fun e => by rw [e] at this; exact absurd this (by decide)
      simp [n2]
  | colOf hu hv hw =>
    intro q r' hf hg
    obtain rfl := goesT_same hg rfl
    refine okT_now (fun n => ?_)
    simp [parseT, eatW_cons hu, hv, eatW_cons hw]
  | nNot hu _ ih =>
    intro q r' hf hg
    obtain rfl := goesT_same hg rfl
    exact okT_map (fun p => (nd { kind := [110, 111, 116] } (l1 p.1), p.2)) (fun n => by rw [List.cons_append, parseT, if_pos hu]) (fullT ih hf)
  | nBasic hb ih =>
    intro q r' hf hg
    obtain rfl := goesT_same hg rfl
    have hn := basic_not hb.g
    obtain ⟨v, b', rfl, hv⟩ := head_of hb
    refine okT_step (k := P basic) (fun n => ?_) (fullT ih (hf.mono (by intro t; cases t <;> decide)))
    have n1 : tok v ≠ T.not_ := fun e => hn (b'.map tok) (by rw [List.map_cons, e])
    rw [List.cons_append, parseT, if_neg n1]
  | bExists hu ho hc _ ih =>
    intro q r' hf hg
    obtain rfl := goesT_same hg rfl
    exact okT_map (fun p => (nd { kind := [101, 120, 105, 115, 116, 115] } (l1 p.1), p.2)) (fun n => by rw [List.cons_append, parseT, if_pos hu]) (okT_round ho hc (fullT ih (fitW_tok hc rfl)))
  | bRound ho hc h ih =>
    intro q r' hf hg
    obtain rfl := goesT_same hg rfl
    rename_i a o c x
    refine okT_step (k := round cnd) (fun n => ?_) (okT_round ho hc (fullT ih (fitW_tok hc rfl)))
    have hop : opensC 0 ((o :: (a ++ [c]) ++ r').map tok) = true := by
      rw [List.cons_append, List.map_cons, ho, opens_step 0 lp _ (by decide) rfl, List.append_assoc, List.map_append]
      exact yesOpen h.g rfl _ _ (by decide)
    rw [List.cons_append] at hop ⊢
    rw [parseT, if_neg (by rw [ho]; decide), if_pos hop]
  | bNull hu hv h ih1 =>
    intro q r' hf hg
    obtain rfl := goesT_same hg rfl
    rw [List.append_assoc]
    exact okT_two (fun n p => parseT n (PT.ask p.1) p.2) (fun n => basicT h n _) (fullT ih1 (fitW_tok hu rfl)) (okT_now (fun n => by simp [parseT, hu, skipW, hv, eatW]))
  | bNotNull hu hn hv h ih1 =>
    intro q r' hf hg
    obtain rfl := goesT_same hg rfl
    rw [List.append_assoc]
    exact okT_two (fun n p => parseT n (PT.ask p.1) p.2) (fun n => basicT h n _) (fullT ih1 (fitW_tok hu rfl)) (okT_now (fun n => by simp [parseT, hu, hn, skipW, hv, eatW]))
  | bIn hu ho hc h _ ih1 ih2 =>
    intro q r' hf hg
    obtain rfl := goesT_same hg rfl
    rename_i a qq u o c x y _
    rw [List.append_assoc]
    exact okT_two (fun n p => parseT n (PT.ask p.1) p.2) (fun n => basicT h n _) (fullT ih1 (fitW_tok hu rfl)) (okT_map (k1 := round query) (l' := o :: (qq ++ [c]) ++ r') (fun p => (nd { kind := [105, 110] } (l2 x p.1), p.2)) (fun n => by simp [parseT, hu, skipW, eatW]) (okT_round ho hc (fullT ih2 (fitW_tok hc rfl))))
  | bNotIn hn hu ho hc h _ ih1 ih2 =>
    intro q r' hf hg
    obtain rfl := goesT_same hg rfl
    rename_i a qq n0 u o c x y _
    rw [List.append_assoc]
    exact okT_two (fun n p => parseT n (PT.ask p.1) p.2) (fun n => basicT h n _) (fullT ih1 (fitW_tok hn rfl)) (okT_map (k1 := round query) (l' := o :: (qq ++ [c]) ++ r') (fun p => (nd { kind := [105, 110], not_ := true } (l2 x p.1), p.2)) (fun n => by simp [parseT, hn, hu, skipW, eatW]) (okT_round ho hc (fullT ih2 (fitW_tok hc rfl))))
  | bHow hu hh ho hc h _ ih1 ih2 =>
    intro q r' hf hg
    obtain rfl := goesT_same hg rfl
    rename_i a qq u v o c x y _
    rw [List.append_assoc]
    exact okT_two (fun n p => parseT n (PT.ask p.1) p.2) (fun n => basicT h n _) (fullT ih1 (fitW_tok hu rfl)) (okT_map (k1 := round query) (l' := o :: (qq ++ [c]) ++ r') (fun p => (nd { kind := v.text, sign := u.text } (l2 x p.1), p.2)) (fun n => by simp [parseT, hu, hh]) (okT_round ho hc (fullT ih2 (fitW_tok hc rfl))))
  | bCmp hu h hb ih1 ih2 =>
    intro q r' hf hg
    obtain rfl := goesT_same hg rfl
    rename_i a b u x y
    obtain ⟨v, b', rfl, hv⟩ := head_of hb
    have nh : isHow (tok v) = false := by generalize tok v = t at hv; cases t <;> first | rfl | exact absurd hv (by decide)
    rw [List.append_assoc]
    exact okT_two (fun n p => parseT n (PT.ask p.1) p.2) (fun n => basicT h n _) (fullT ih1 (fitW_tok hu rfl)) (okT_map (k1 := P expr) (l' := v :: b' ++ r') (fun p => (nd { kind := [99, 111, 109, 112, 97, 114, 101], sign := u.text } (l2 x p.1), p.2)) (fun n => by simp [parseT, hu, nh]) (fullT ih2 (hf.mono (by intro t; cases t <;> decide))))
  | fNeg hu _ ih =>
    intro q r' hf hg
    obtain rfl := goesT_same hg rfl
    exact okT_map (fun p => (nd { kind := [110, 101, 103] } (l1 p.1), p.2)) (fun n => by rw [List.cons_append, parseT, if_pos hu]) (fullT ih hf)
  | fNum hu hs =>
    intro q r' hf hg
    obtain rfl := goesT_same hg rfl
    exact okT_now (fun n => by simp [parseT, hu, hs])
  | fText hu hs =>
    intro q r' hf hg
    obtain rfl := goesT_same hg rfl
    exact okT_now (fun n => by simp [parseT, hu, hs, kNum, kText])
  | fNull hu =>
    intro q r' hf hg
    obtain rfl := goesT_same hg rfl
    exact okT_now (fun n => by simp [parseT, hu])
  | fStar hu ho hs hc =>
    intro q r' hf hg
    obtain rfl := goesT_same hg rfl
    exact okT_now (fun n => by simp [parseT, hu, isAgg, eatW_cons ho, hs, eatW_cons hc])
  | fAgg hu ho hc he ih =>
    intro q r' hf hg
    obtain rfl := goesT_same hg rfl
    rename_i a u o c x
    obtain ⟨v, b', rfl, hv⟩ := head_of he
    have n2 : tok v ≠ star := fun e => by rw [e] at hv; exact absurd hv (by decide)
    refine okT_two (k1 := P expr) (l' := v :: b' ++ c :: r') (p := (x, c :: r')) (fun _ p => (eatW rp p.2).bind fun e2 => some (nd { kind := u.text } (l1 p.1), e2.2)) (fun n => ?_) (fullT ih (fitW_tok hc rfl)) ⟨0, fun n _ => by simp [eatW_cons hc]⟩
    have hu2 := hu
    generalize ht : tok u = t at hu2
    cases t <;> first | exact absurd hu2 (by decide) | simp [parseT, ht, isAgg, eatW_cons ho, n2]
  | fRound ho hc _ ih =>
    intro q r' hf hg
    obtain rfl := goesT_same hg rfl
    exact okT_step (k := round expr) (fun n => by simp [parseT, ho]) (okT_round ho hc (fullT ih (fitW_tok hc rfl)))
  | fCol hc ih =>
    intro q r' hf hg
    obtain rfl := goesT_same hg rfl
    refine okT_step (k := P column) (fun n => ?_) (fullT ih hf)
    cases hc <;> simp [parseT, isAgg, *]
/-- words have one tree -/
theorem D.one {l : List RW} {t t' : Tr} (h : D query l t) (h' : D query l t') : t = t' := by
  obtain ⟨N, hN⟩ := fullT (readsT h) (r := []) (fun u r' e => by cases e)
  obtain ⟨N', hN'⟩ := fullT (readsT h') (r := []) (fun u r' e => by cases e)
  have h1 := hN (N + N') (by omega)
  rw [hN' (N + N') (by omega)] at h1
  exact ((Prod.mk.inj (Option.some.inj h1)).1).symm
end Gr
end Go.Proofs.YtfkdfplnhlnnoaaGreatDoor
