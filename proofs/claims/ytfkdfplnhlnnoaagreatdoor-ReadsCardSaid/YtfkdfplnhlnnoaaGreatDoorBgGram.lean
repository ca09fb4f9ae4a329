namespace Go.Proofs.YtfkdfplnhlnnoaaGreatDoor
namespace Gr
set_option linter.unusedSimpArgs false
set_option linter.unusedVariables false
/-- the words of a query, as far as the grammar looks at them -/
inductive T
  | sel | dist | fr_ | where_ | group | by_ | having | as_ | union | inter | exc | all_ | any_ | and_ | or_ | not_ | exists_ | in_ | is_ | null | count | agg
  | lp | rp | comma | dot | star | plus | minus | slash | pct | cmp | name | lit
  deriving DecidableEq
inductive NT
  | query | core | tail | after | grouped | items | item | sources | source | columns | column | cnd | conj | neg | basic | expr | term | factor
  deriving DecidableEq
open T NT
def isSet (t : T) : Bool := t == union || t == inter || t == exc
def isAdd (t : T) : Bool := t == plus || t == minus
def isMul (t : T) : Bool := t == star || t == slash || t == pct
def isAgg (t : T) : Bool := t == count || t == agg
def isHow (t : T) : Bool := t == any_ || t == all_
/-- what a stretch of words may be -/
inductive G : NT → List T → Prop
  | qCore {a} : G core a → G query a
  | qJoin {a b u} : isSet u = true → G query a → G core b → G query (a ++ u :: b)
  | qJoinAll {a b u} : isSet u = true → G query a → G core b → G query (a ++ u :: all_ :: b)
  | cRound {a} : G query a → G core (lp :: (a ++ [rp]))
  | cStar {t} : G tail t → G core (sel :: star :: fr_ :: t)
  | cStarD {t} : G tail t → G core (sel :: dist :: star :: fr_ :: t)
  | cSel {l t} : G items l → G tail t → G core (sel :: (l ++ fr_ :: t))
  | cSelD {l t} : G items l → G tail t → G core (sel :: dist :: (l ++ fr_ :: t))
  | tSrc {a} : G sources a → G tail a
  | tWhere {a b} : G sources a → G after b → G tail (a ++ where_ :: b)
  | tGroup {a b} : G sources a → G grouped b → G tail (a ++ group :: by_ :: b)
  | aCond {a} : G cnd a → G after a
  | aGroup {a b} : G cnd a → G grouped b → G after (a ++ group :: by_ :: b)
  | gCols {a} : G columns a → G grouped a
  | gHaving {a b} : G columns a → G cnd b → G grouped (a ++ having :: b)
  | iOne {a} : G item a → G items a
  | iMore {a b} : G items a → G item b → G items (a ++ comma :: b)
  | item {a} : G expr a → G item a
  | itemAs {a} : G expr a → G item (a ++ [as_, name])
  | sOne {a} : G source a → G sources a
  | sMore {a b} : G sources a → G source b → G sources (a ++ comma :: b)
  | src : G source [name]
  | srcAs : G source [name, as_, name]
  | cOne {a} : G column a → G columns a
  | cMore {a b} : G columns a → G column b → G columns (a ++ comma :: b)
  | col : G column [name]
  | colOf : G column [name, dot, name]
  | kConj {a} : G conj a → G cnd a
  | kOr {a b} : G cnd a → G conj b → G cnd (a ++ or_ :: b)
  | jNeg {a} : G neg a → G conj a
  | jAnd {a b} : G conj a → G neg b → G conj (a ++ and_ :: b)
  | nNot {a} : G neg a → G neg (not_ :: a)
  | nBasic {a} : G basic a → G neg a
  | bExists {a} : G query a → G basic (exists_ :: lp :: (a ++ [rp]))
  | bRound {a} : G cnd a → G basic (lp :: (a ++ [rp]))
  | bNull {a} : G expr a → G basic (a ++ [is_, null])
  | bNotNull {a} : G expr a → G basic (a ++ [is_, not_, null])
  | bIn {a q} : G expr a → G query q → G basic (a ++ in_ :: lp :: (q ++ [rp]))
  | bNotIn {a q} : G expr a → G query q → G basic (a ++ not_ :: in_ :: lp :: (q ++ [rp]))
  | bHow {a q h} : isHow h = true → G expr a → G query q → G basic (a ++ cmp :: h :: lp :: (q ++ [rp]))
  | bCmp {a b} : G expr a → G expr b → G basic (a ++ cmp :: b)
  | eTerm {a} : G term a → G expr a
  | eMore {a b u} : isAdd u = true → G expr a → G term b → G expr (a ++ u :: b)
  | mFac {a} : G factor a → G term a
  | mMore {a b u} : isMul u = true → G term a → G factor b → G term (a ++ u :: b)
  | fNeg {a} : G factor a → G factor (minus :: a)
  | fLit : G factor [lit]
  | fNull : G factor [null]
  | fStar : G factor [count, lp, star, rp]
  | fAgg {a u} : isAgg u = true → G expr a → G factor (u :: lp :: (a ++ [rp]))
  | fRound {a} : G expr a → G factor (lp :: (a ++ [rp]))
  | fCol {a} : G column a → G factor a
/-- is the next word this one? what is behind it -/
def eat (t : T) : List T → Option (List T)
  | u :: r => if u = t then some r else none
  | [] => none
/-- what is behind a word that may stand there -/
def skip (t : T) : List T → List T
  | u :: r => if u = t then r else u :: r
  | [] => []
theorem skip_cases (t : T) (l : List T) : l = t :: skip t l ∨ (skip t l = l ∧ ∀ r, l ≠ t :: r) := by
  cases l with
  | nil => exact .inr ⟨rfl, fun r h => by cases h⟩
  | cons u r =>
    by_cases e : u = t
    · left; simp [skip, e]
    · right; refine ⟨by simp [skip, e], fun r' h => ?_⟩
      exact e (List.cons.inj h).1
def opened : T → Int
  | lp => 1
  | rp => -1
  | _ => 0
def marks (t : T) : Bool := t == cmp || t == is_ || t == in_ || t == exists_
/-- does a bracket begin a condition? -/
def opensC : Int → List T → Bool
  | _, [] => false
  | o, t :: r => if o + opened t ≤ 0 then false else if marks t then true else opensC (o + opened t) r
/-- the program's parser: P reads one; R goes on with a chain or list, one being read -/
inductive PK | P (k : NT) | R (k : NT) | ask | round (k : NT) | alias
open PK
def parse : Nat → PK → List T → Option (List T)
  | 0, _, _ => none
  | n + 1, P query, l => (parse n (P core) l).bind (parse n (R query))
  | n + 1, R query, l => match l with
    | u :: r => if isSet u then (parse n (P core) (skip all_ r)).bind (parse n (R query)) else some l
    | [] => some []
  | n + 1, P core, l => match l with
    | lp :: _ => parse n (round query) l
    | sel :: r => (match skip dist r with
        | star :: r' => some r'
        | r' => parse n (P items) r').bind fun r1 => (eat fr_ r1).bind (parse n (P tail))
    | _ => none
  | n + 1, round k, l => (eat lp l).bind fun r => (parse n (P k) r).bind (eat rp)
  | n + 1, P tail, l => (parse n (P sources) l).bind fun r => match r with
    | where_ :: r' => parse n (P after) r'
    | group :: r' => (eat by_ r').bind (parse n (P grouped))
    | r => some r
  | n + 1, P after, l => (parse n (P cnd) l).bind fun r => match r with
    | group :: r' => (eat by_ r').bind (parse n (P grouped))
    | r => some r
  | n + 1, P grouped, l => (parse n (P columns) l).bind fun r => match r with
    | having :: r' => parse n (P cnd) r'
    | r => some r
  | n + 1, P items, l => (parse n (P NT.item) l).bind (parse n (R items))
  | n + 1, R items, l => match l with
    | comma :: r => (parse n (P NT.item) r).bind (parse n (R items))
    | r => some r
  | n + 1, P NT.item, l => (parse n (P expr) l).bind (parse n PK.alias)
  | _ + 1, PK.alias, l => match l with
    | as_ :: r => eat name r
    | r => some r
  | n + 1, P sources, l => (parse n (P source) l).bind (parse n (R sources))
  | n + 1, R sources, l => match l with
    | comma :: r => (parse n (P source) r).bind (parse n (R sources))
    | r => some r
  | n + 1, P source, l => (eat name l).bind (parse n PK.alias)
  | n + 1, P columns, l => (parse n (P column) l).bind (parse n (R columns))
  | n + 1, R columns, l => match l with
    | comma :: r => (parse n (P column) r).bind (parse n (R columns))
    | r => some r
  | _ + 1, P column, l => (eat name l).bind fun r => match r with
    | dot :: r' => eat name r'
    | r => some r
  | n + 1, P cnd, l => (parse n (P conj) l).bind (parse n (R cnd))
  | n + 1, R cnd, l => match l with
    | or_ :: r => (parse n (P conj) r).bind (parse n (R cnd))
    | r => some r
  | n + 1, P conj, l => (parse n (P neg) l).bind (parse n (R conj))
  | n + 1, R conj, l => match l with
    | and_ :: r => (parse n (P neg) r).bind (parse n (R conj))
    | r => some r
  | n + 1, P neg, l => match l with
    | not_ :: r => parse n (P neg) r
    | r => parse n (P basic) r
  | n + 1, P basic, l => match l with
    | exists_ :: r => parse n (round query) r
    | l => if opensC 0 l then parse n (round cnd) l else (parse n (P expr) l).bind (parse n ask)
  | n + 1, ask, l => match l with
    | is_ :: not_ :: r => eat null r
    | is_ :: r => eat null r
    | cmp :: r => (match r with
      | any_ :: r' => parse n (round query) r'
      | all_ :: r' => parse n (round query) r'
      | r => parse n (P expr) r)
    | not_ :: r => (eat in_ r).bind (parse n (round query))
    | r => (eat in_ r).bind (parse n (round query))
  | n + 1, P expr, l => (parse n (P term) l).bind (parse n (R expr))
  | n + 1, R expr, l => match l with
    | u :: r => if isAdd u then (parse n (P term) r).bind (parse n (R expr)) else some l
    | [] => some []
  | n + 1, P term, l => (parse n (P factor) l).bind (parse n (R term))
  | n + 1, R term, l => match l with
    | u :: r => if isMul u then (parse n (P factor) r).bind (parse n (R term)) else some l
    | [] => some []
  | n + 1, P factor, l => match l with
    | minus :: r => parse n (P factor) r
    | null :: r => some r
    | lit :: r => some r
    | lp :: _ => parse n (round expr) l
    | count :: r => (eat lp r).bind fun r' => (match r' with | star :: r2 => some r2 | r2 => parse n (P expr) r2).bind (eat rp)
    | agg :: r => parse n (round expr) r
    | r => parse n (P column) r
  | _ + 1, R _, _ => none
/-- what a piece that the parser took is -/
def Took : PK → List T → Prop
  | P k, a => G k a
  | R k, a => ∀ b, G k b → G k (b ++ a)
  | ask, a => ∀ e, G expr e → G basic (e ++ a)
  | round k, a => ∃ b, a = lp :: (b ++ [rp]) ∧ G k b
  | PK.alias, a => a = [] ∨ a = [as_, name]
theorem eat_some {t : T} {l r : List T} (h : eat t l = some r) : l = t :: r := by
  cases l with
  | nil => cases h
  | cons u l =>
    by_cases e : u = t
    · simp [eat, e] at h; rw [e, h]
    · simp [eat, e] at h
theorem eat_cons (t : T) (r : List T) : eat t (t :: r) = some r := by simp [eat]
theorem bind_some {α β : Type} {o : Option α} {f : α → Option β} {r : β} (h : o.bind f = some r) : ∃ x, o = some x ∧ f x = some r := by
  cases o with
  | none => cases h
  | some x => exact ⟨x, rfl, h⟩
theorem took (n : Nat) : ∀ (pk : PK) (l r : List T), parse n pk l = some r → ∃ a, l = a ++ r ∧ Took pk a := by
  induction n with
  | zero => intro pk l r h; cases h
  | succ n ih =>
    intro pk l r h
    have chain : ∀ (k1 k2 : PK) (l r : List T), (parse n k1 l).bind (parse n k2) = some r → ∃ a b, l = a ++ (b ++ r) ∧ Took k1 a ∧ Took k2 b := by
      intro k1 k2 l r h
      obtain ⟨x, h1, h2⟩ := bind_some h
      obtain ⟨a, rfl, ha⟩ := ih _ _ _ h1
      obtain ⟨b, rfl, hb⟩ := ih _ _ _ h2
      exact ⟨a, b, rfl, ha, hb⟩
    cases pk with
    | P k =>
      cases k with
      | query =>
        simp only [parse] at h
        obtain ⟨a, b, rfl, ha, hb⟩ := chain _ _ _ _ h
        exact ⟨a ++ b, by simp, hb a (.qCore ha)⟩
      | core =>
        simp only [parse] at h
        split at h
        · obtain ⟨a, e, b, rfl, hb⟩ := ih _ _ _ h
          exact ⟨_, e, .cRound hb⟩
        · rename_i l0 r0
          obtain ⟨x, h1, h2⟩ := bind_some h
          obtain ⟨y, h3, h4⟩ := bind_some h2
          obtain ⟨t, rfl, ht⟩ := ih _ _ _ h4
          have ex := eat_some h3
          subst ex
          have key : ∃ a, skip dist r0 = a ++ fr_ :: (t ++ r) ∧ (a = [star] ∨ G items a) := by
            split at h1
            · rename_i r' e; cases h1; exact ⟨[star], e, .inl rfl⟩
            · rename_i e; obtain ⟨a, e1, ha⟩ := ih _ _ _ h1; exact ⟨a, e1, .inr ha⟩
          obtain ⟨a, ea, ha⟩ := key
          rcases skip_cases dist r0 with e | ⟨e, _⟩
          · rw [e, ea]
            rcases ha with rfl | ha
            · exact ⟨sel :: dist :: star :: fr_ :: t, by simp, .cStarD ht⟩
            · exact ⟨sel :: dist :: (a ++ fr_ :: t), by simp, .cSelD ha ht⟩
          · rw [e] at ea
            rw [ea]
            rcases ha with rfl | ha
            · exact ⟨sel :: star :: fr_ :: t, by simp, .cStar ht⟩
            · exact ⟨sel :: (a ++ fr_ :: t), by simp, .cSel ha ht⟩
        · cases h
      | tail =>
        simp only [parse] at h
        obtain ⟨x, h1, h2⟩ := bind_some h
        obtain ⟨a, rfl, ha⟩ := ih _ _ _ h1
        split at h2
        · obtain ⟨b, rfl, hb⟩ := ih _ _ _ h2
          exact ⟨a ++ where_ :: b, by simp, .tWhere ha hb⟩
        · obtain ⟨y, h3, h4⟩ := bind_some h2
          obtain ⟨b, rfl, hb⟩ := ih _ _ _ h4
          rw [eat_some h3]
          exact ⟨a ++ group :: by_ :: b, by simp, .tGroup ha hb⟩
        · cases h2; exact ⟨a, rfl, .tSrc ha⟩
      | after =>
        simp only [parse] at h
        obtain ⟨x, h1, h2⟩ := bind_some h
        obtain ⟨a, rfl, ha⟩ := ih _ _ _ h1
        split at h2
        · obtain ⟨y, h3, h4⟩ := bind_some h2
          obtain ⟨b, rfl, hb⟩ := ih _ _ _ h4
          rw [eat_some h3]
          exact ⟨a ++ group :: by_ :: b, by simp, .aGroup ha hb⟩
        · cases h2; exact ⟨a, rfl, .aCond ha⟩
      | grouped =>
        simp only [parse] at h
        obtain ⟨x, h1, h2⟩ := bind_some h
        obtain ⟨a, rfl, ha⟩ := ih _ _ _ h1
        split at h2
        · obtain ⟨b, rfl, hb⟩ := ih _ _ _ h2
          exact ⟨a ++ having :: b, by simp, .gHaving ha hb⟩
        · cases h2; exact ⟨a, rfl, .gCols ha⟩
      | items =>
        simp only [parse] at h
        obtain ⟨a, b, rfl, ha, hb⟩ := chain _ _ _ _ h
        exact ⟨a ++ b, by simp, hb a (.iOne ha)⟩
      | item =>
        simp only [parse] at h
        obtain ⟨a, b, rfl, ha, hb⟩ := chain _ _ _ _ h
        rcases hb with rfl | rfl
        · exact ⟨a, by simp, .item ha⟩
        · exact ⟨a ++ [as_, name], by simp, .itemAs ha⟩
      | sources =>
        simp only [parse] at h
        obtain ⟨a, b, rfl, ha, hb⟩ := chain _ _ _ _ h
        exact ⟨a ++ b, by simp, hb a (.sOne ha)⟩
      | source =>
        simp only [parse] at h
        obtain ⟨x, h1, h2⟩ := bind_some h
        obtain ⟨b, rfl, hb⟩ := ih _ _ _ h2
        rw [eat_some h1]
        rcases hb with rfl | rfl
        · exact ⟨[name], by simp, .src⟩
        · exact ⟨[name, as_, name], by simp, .srcAs⟩
      | columns =>
        simp only [parse] at h
        obtain ⟨a, b, rfl, ha, hb⟩ := chain _ _ _ _ h
        exact ⟨a ++ b, by simp, hb a (.cOne ha)⟩
      | column =>
        simp only [parse] at h
        obtain ⟨x, h1, h2⟩ := bind_some h
        rw [eat_some h1]
        split at h2
        · rw [eat_some h2]
          exact ⟨[name, dot, name], by simp, .colOf⟩
        · cases h2
          exact ⟨[name], by simp, .col⟩
      | cnd =>
        simp only [parse] at h
        obtain ⟨a, b, rfl, ha, hb⟩ := chain _ _ _ _ h
        exact ⟨a ++ b, by simp, hb a (.kConj ha)⟩
      | conj =>
        simp only [parse] at h
        obtain ⟨a, b, rfl, ha, hb⟩ := chain _ _ _ _ h
        exact ⟨a ++ b, by simp, hb a (.jNeg ha)⟩
      | neg =>
        simp only [parse] at h
        split at h
        · obtain ⟨a, rfl, ha⟩ := ih _ _ _ h
          exact ⟨not_ :: a, by simp, .nNot ha⟩
        · obtain ⟨a, rfl, ha⟩ := ih _ _ _ h
          exact ⟨a, rfl, .nBasic ha⟩
      | basic =>
        simp only [parse] at h
        split at h
        · obtain ⟨a, rfl, b, rfl, hb⟩ := ih _ _ _ h
          exact ⟨exists_ :: lp :: (b ++ [rp]), by simp, .bExists hb⟩
        · split at h
          · obtain ⟨a, e, b, rfl, hb⟩ := ih _ _ _ h
            exact ⟨_, e, .bRound hb⟩
          · obtain ⟨a, b, rfl, ha, hb⟩ := chain _ _ _ _ h
            exact ⟨a ++ b, by simp, hb a ha⟩
      | expr =>
        simp only [parse] at h
        obtain ⟨a, b, rfl, ha, hb⟩ := chain _ _ _ _ h
        exact ⟨a ++ b, by simp, hb a (.eTerm ha)⟩
      | term =>
        simp only [parse] at h
        obtain ⟨a, b, rfl, ha, hb⟩ := chain _ _ _ _ h
        exact ⟨a ++ b, by simp, hb a (.mFac ha)⟩
      | factor =>
        simp only [parse] at h
        split at h
        · obtain ⟨a, rfl, ha⟩ := ih _ _ _ h
          exact ⟨minus :: a, by simp, .fNeg ha⟩
        · cases h; exact ⟨[null], by simp, .fNull⟩
        · cases h; exact ⟨[lit], by simp, .fLit⟩
        · obtain ⟨a, e, b, rfl, hb⟩ := ih _ _ _ h
          exact ⟨_, e, .fRound hb⟩
        · obtain ⟨x, h1, h2⟩ := bind_some h
          obtain ⟨y, h3, h4⟩ := bind_some h2
          rw [eat_some h1]
          split at h3
          · cases h3
            rw [eat_some h4]
            exact ⟨[count, lp, star, rp], by simp, .fStar⟩
          · obtain ⟨a, rfl, ha⟩ := ih _ _ _ h3
            rw [eat_some h4]
            exact ⟨count :: lp :: (a ++ [rp]), by simp, .fAgg rfl ha⟩
        · obtain ⟨a, rfl, b, rfl, hb⟩ := ih _ _ _ h
          exact ⟨agg :: lp :: (b ++ [rp]), by simp, .fAgg rfl hb⟩
        · obtain ⟨a, rfl, ha⟩ := ih _ _ _ h
          exact ⟨a, rfl, .fCol ha⟩
    | R k =>
      cases k with
      | query =>
        simp only [parse] at h
        split at h
        · rename_i u r0
          split at h
          · rename_i hu
            obtain ⟨a, b, e, ha, hb⟩ := chain _ _ _ _ h
            rcases skip_cases all_ r0 with e1 | ⟨e1, _⟩
            · rw [e1, e]
              exact ⟨u :: all_ :: (a ++ b), by simp, fun c hc => by have := hb _ (.qJoinAll hu hc ha); simpa using this⟩
            · rw [e1] at e
              rw [e]
              exact ⟨u :: (a ++ b), by simp, fun c hc => by have := hb _ (.qJoin hu hc ha); simpa using this⟩
          · cases h; exact ⟨[], by simp, fun c hc => by simpa using hc⟩
        · cases h; exact ⟨[], by simp, fun c hc => by simpa using hc⟩
      | items =>
        simp only [parse] at h
        split at h
        · obtain ⟨a, b, rfl, ha, hb⟩ := chain _ _ _ _ h
          exact ⟨comma :: (a ++ b), by simp, fun c hc => by have := hb _ (.iMore hc ha); simpa using this⟩
        · cases h; exact ⟨[], by simp, fun c hc => by simpa using hc⟩
      | sources =>
        simp only [parse] at h
        split at h
        · obtain ⟨a, b, rfl, ha, hb⟩ := chain _ _ _ _ h
          exact ⟨comma :: (a ++ b), by simp, fun c hc => by have := hb _ (.sMore hc ha); simpa using this⟩
        · cases h; exact ⟨[], by simp, fun c hc => by simpa using hc⟩
      | columns =>
        simp only [parse] at h
        split at h
        · obtain ⟨a, b, rfl, ha, hb⟩ := chain _ _ _ _ h
          exact ⟨comma :: (a ++ b), by simp, fun c hc => by have := hb _ (.cMore hc ha); simpa using this⟩
        · cases h; exact ⟨[], by simp, fun c hc => by simpa using hc⟩
      | cnd =>
        simp only [parse] at h
        split at h
        · obtain ⟨a, b, rfl, ha, hb⟩ := chain _ _ _ _ h
          exact ⟨or_ :: (a ++ b), by simp, fun c hc => by have := hb _ (.kOr hc ha); simpa using this⟩
        · cases h; exact ⟨[], by simp, fun c hc => by simpa using hc⟩
      | conj =>
        simp only [parse] at h
        split at h
        · obtain ⟨a, b, rfl, ha, hb⟩ := chain _ _ _ _ h
          exact ⟨and_ :: (a ++ b), by simp, fun c hc => by have := hb _ (.jAnd hc ha); simpa using this⟩
        · cases h; exact ⟨[], by simp, fun c hc => by simpa using hc⟩
      | expr =>
        simp only [parse] at h
        split at h
        · split at h
          · rename_i u r0 hu
            obtain ⟨a, b, rfl, ha, hb⟩ := chain _ _ _ _ h
            exact ⟨u :: (a ++ b), by simp, fun c hc => by have := hb _ (.eMore hu hc ha); simpa using this⟩
          · cases h; exact ⟨[], by simp, fun c hc => by simpa using hc⟩
        · cases h; exact ⟨[], by simp, fun c hc => by simpa using hc⟩
      | term =>
        simp only [parse] at h
        split at h
        · split at h
          · rename_i u r0 hu
            obtain ⟨a, b, rfl, ha, hb⟩ := chain _ _ _ _ h
            exact ⟨u :: (a ++ b), by simp, fun c hc => by have := hb _ (.mMore hu hc ha); simpa using this⟩
          · cases h; exact ⟨[], by simp, fun c hc => by simpa using hc⟩
        · cases h; exact ⟨[], by simp, fun c hc => by simpa using hc⟩
      | core => simp [parse] at h
      | tail => simp [parse] at h
      | after => simp [parse] at h
      | grouped => simp [parse] at h
      | item => simp [parse] at h
      | source => simp [parse] at h
      | column => simp [parse] at h
      | neg => simp [parse] at h
      | basic => simp [parse] at h
      | factor => simp [parse] at h
    | ask =>
      simp only [parse] at h
      split at h
      · rw [eat_some h]; exact ⟨[is_, not_, null], by simp, fun e he => .bNotNull he⟩
      · rw [eat_some h]; exact ⟨[is_, null], by simp, fun e he => .bNull he⟩
      · split at h
        · obtain ⟨a, rfl, q, rfl, hq⟩ := ih _ _ _ h
          exact ⟨cmp :: any_ :: lp :: (q ++ [rp]), by simp, fun e he => .bHow rfl he hq⟩
        · obtain ⟨a, rfl, q, rfl, hq⟩ := ih _ _ _ h
          exact ⟨cmp :: all_ :: lp :: (q ++ [rp]), by simp, fun e he => .bHow rfl he hq⟩
        · obtain ⟨a, rfl, ha⟩ := ih _ _ _ h
          exact ⟨cmp :: a, by simp, fun e he => .bCmp he ha⟩
      · obtain ⟨x, h1, h2⟩ := bind_some h
        obtain ⟨a, rfl, q, rfl, hq⟩ := ih _ _ _ h2
        rw [eat_some h1]
        exact ⟨not_ :: in_ :: lp :: (q ++ [rp]), by simp, fun e he => .bNotIn he hq⟩
      · obtain ⟨x, h1, h2⟩ := bind_some h
        obtain ⟨a, rfl, q, rfl, hq⟩ := ih _ _ _ h2
        rw [eat_some h1]
        exact ⟨in_ :: lp :: (q ++ [rp]), by simp, fun e he => .bIn he hq⟩
    | round k =>
      simp only [parse] at h
      obtain ⟨x, h1, h2⟩ := bind_some h
      obtain ⟨y, h3, h4⟩ := bind_some h2
      obtain ⟨a, rfl, ha⟩ := ih _ _ _ h3
      rw [eat_some h1, eat_some h4]
      exact ⟨lp :: (a ++ [rp]), by simp, a, rfl, ha⟩
    | alias =>
      simp only [parse] at h
      split at h
      · rw [eat_some h]; exact ⟨[as_, name], by simp, .inr rfl⟩
      · cases h; exact ⟨[], by simp, .inl rfl⟩
def starts (t : T) : Bool := t == minus || t == null || t == lit || t == lp || t == count || t == agg || t == name
def first : NT → T → Bool
  | factor, t | term, t | expr, t | column, t | columns, t | NT.item, t | items, t => starts t
  | basic, t | neg, t | conj, t | cnd, t | after, t => starts t || t == not_ || t == exists_
  | source, t | sources, t | tail, t => t == name
  | grouped, t => starts t
  | core, t | query, t => t == lp || t == sel
theorem first_of {k : NT} {a : List T} (h : G k a) : ∃ t r, a = t :: r ∧ first k t = true := by
  induction h with
  | qCore _ ih => obtain ⟨t, r, e, h⟩ := ih; exact ⟨t, r, e, h⟩
  | qJoin _ _ _ ih _ | qJoinAll _ _ _ ih _ => obtain ⟨t, r, rfl, h⟩ := ih; exact ⟨t, _, rfl, h⟩
  | cRound _ _ => exact ⟨_, _, rfl, rfl⟩
  | cStar _ _ | cStarD _ _ => exact ⟨_, _, rfl, rfl⟩
  | cSel _ _ _ _ | cSelD _ _ _ _ => exact ⟨_, _, rfl, rfl⟩
  | tSrc _ ih => obtain ⟨t, r, e, h⟩ := ih; exact ⟨t, r, e, h⟩
  | tWhere _ _ ih _ | tGroup _ _ ih _ => obtain ⟨t, r, rfl, h⟩ := ih; exact ⟨t, _, rfl, h⟩
  | aCond _ ih => obtain ⟨t, r, e, h⟩ := ih; exact ⟨t, r, e, h⟩
  | aGroup _ _ ih _ => obtain ⟨t, r, rfl, h⟩ := ih; exact ⟨t, _, rfl, h⟩
  | gCols _ ih => obtain ⟨t, r, e, h⟩ := ih; exact ⟨t, r, e, h⟩
  | gHaving _ _ ih _ => obtain ⟨t, r, rfl, h⟩ := ih; exact ⟨t, _, rfl, h⟩
  | iOne _ ih | item _ ih | sOne _ ih | cOne _ ih => obtain ⟨t, r, e, h⟩ := ih; exact ⟨t, r, e, h⟩
  | iMore _ _ ih _ | sMore _ _ ih _ | cMore _ _ ih _ => obtain ⟨t, r, rfl, h⟩ := ih; exact ⟨t, _, rfl, h⟩
  | itemAs _ ih => obtain ⟨t, r, rfl, h⟩ := ih; exact ⟨t, _, rfl, h⟩
  | src | srcAs | col | colOf => exact ⟨_, _, rfl, rfl⟩
  | kConj _ ih | jNeg _ ih | nBasic _ ih => obtain ⟨t, r, e, h⟩ := ih; exact ⟨t, r, e, h⟩
  | kOr _ _ ih _ | jAnd _ _ ih _ => obtain ⟨t, r, rfl, h⟩ := ih; exact ⟨t, _, rfl, h⟩
  | nNot _ _ => exact ⟨_, _, rfl, rfl⟩
  | bExists _ _ | bRound _ _ => exact ⟨_, _, rfl, rfl⟩
  | bNull _ ih | bNotNull _ ih => obtain ⟨t, r, rfl, h⟩ := ih; exact ⟨t, _, rfl, by simp only [first] at h ⊢; rw [h]; rfl⟩
  | bIn _ _ ih _ | bNotIn _ _ ih _ | bCmp _ _ ih _ => obtain ⟨t, r, rfl, h⟩ := ih; exact ⟨t, _, rfl, by simp only [first] at h ⊢; rw [h]; rfl⟩
  | bHow _ _ _ ih _ => obtain ⟨t, r, rfl, h⟩ := ih; exact ⟨t, _, rfl, by simp only [first] at h ⊢; rw [h]; rfl⟩
  | eTerm _ ih | mFac _ ih | fCol _ ih => obtain ⟨t, r, e, h⟩ := ih; exact ⟨t, r, e, h⟩
  | eMore _ _ _ ih _ | mMore _ _ _ ih _ => obtain ⟨t, r, rfl, h⟩ := ih; exact ⟨t, _, rfl, h⟩
  | fNeg _ _ | fLit | fNull | fStar | fRound _ _ => exact ⟨_, _, rfl, rfl⟩
  | fAgg hu _ _ => exact ⟨_, _, rfl, by simp [isAgg] at hu; rcases hu with rfl | rfl <;> rfl⟩
/-- an expression holds no mark, and its brackets close -/
def isE : NT → Bool
  | expr | term | factor | column => true
  | _ => false
theorem opens_step (o : Int) (t : T) (s : List T) (h : 1 ≤ o + opened t) (hm : marks t = false) : opensC o (t :: s) = opensC (o + opened t) s := by
  rw [opensC, if_neg (by omega), hm]; simp
theorem passE {k : NT} {a : List T} (h : G k a) : isE k = true → ∀ (o : Int) (s : List T), 1 ≤ o → opensC o (a ++ s) = opensC o s := by
  induction h with
  | eTerm _ ih | mFac _ ih | fCol _ ih => intro _ o s ho; exact ih rfl o s ho
  | eMore hu _ _ ih1 ih2 =>
    rename_i a b u _ _
    intro _ o s ho
    have e0 : opened u = 0 ∧ marks u = false := by simp [isAdd] at hu; rcases hu with rfl | rfl <;> exact ⟨rfl, rfl⟩
    rw [List.append_assoc, ih1 rfl o _ ho, List.cons_append, opens_step o u _ (by omega) e0.2, e0.1, Int.add_zero]
    exact ih2 rfl o s ho
  | mMore hu _ _ ih1 ih2 =>
    rename_i a b u _ _
    intro _ o s ho
    have e0 : opened u = 0 ∧ marks u = false := by simp [isMul] at hu; rcases hu with (rfl | rfl) | rfl <;> exact ⟨rfl, rfl⟩
    rw [List.append_assoc, ih1 rfl o _ ho, List.cons_append, opens_step o u _ (by omega) e0.2, e0.1, Int.add_zero]
    exact ih2 rfl o s ho
  | fNeg _ ih =>
    intro _ o s ho
    rw [List.cons_append, opens_step o minus _ (by simp [opened]; omega) rfl]
    simp only [opened, Int.add_zero]
    exact ih rfl o s ho
  | fLit => intro _ o s ho; exact (opens_step o lit s (by simp [opened]; omega) rfl).trans (by simp [opened])
  | fNull => intro _ o s ho; exact (opens_step o null s (by simp [opened]; omega) rfl).trans (by simp [opened])
  | fStar =>
    intro _ o s ho
    show opensC o (count :: lp :: star :: rp :: s) = _
    rw [opens_step o count _ (by simp [opened]; omega) rfl, opens_step _ lp _ (by simp [opened]; omega) rfl, opens_step _ star _ (by simp [opened]; omega) rfl, opens_step _ rp _ (by simp [opened]; omega) rfl]
    simp [opened]
    congr 1; omega
  | fAgg hu _ ih =>
    rename_i a u _
    intro _ o s ho
    have key : opensC o (lp :: ((a ++ [rp]) ++ s)) = opensC o s := by
      rw [opens_step o lp _ (by simp [opened]; omega) rfl, List.append_assoc, ih rfl _ _ (by simp [opened]; omega)]
      show opensC _ (rp :: s) = _
      rw [opens_step _ rp _ (by simp [opened]; omega) rfl]
      simp [opened]
      congr 1; omega
    simp [isAgg] at hu
    rcases hu with rfl | rfl
    · exact (opens_step o count _ (by simp [opened]; omega) rfl).trans ((by simp [opened] : opensC (o + opened count) (lp :: ((a ++ [rp]) ++ s)) = opensC o (lp :: ((a ++ [rp]) ++ s))).trans key)
    · exact (opens_step o agg _ (by simp [opened]; omega) rfl).trans ((by simp [opened] : opensC (o + opened agg) (lp :: ((a ++ [rp]) ++ s)) = opensC o (lp :: ((a ++ [rp]) ++ s))).trans key)
  | fRound _ ih =>
    rename_i a _
    intro _ o s ho
    show opensC o (lp :: ((a ++ [rp]) ++ s)) = _
    rw [opens_step o lp _ (by simp [opened]; omega) rfl, List.append_assoc, ih rfl _ _ (by simp [opened]; omega)]
    show opensC _ (rp :: s) = _
    rw [opens_step _ rp _ (by simp [opened]; omega) rfl]
    simp [opened]
    congr 1; omega
  | col => intro _ o s ho; exact (opens_step o name s (by simp [opened]; omega) rfl).trans (by simp [opened])
  | colOf =>
    intro _ o s ho
    show opensC o (name :: dot :: name :: s) = _
    rw [opens_step o name _ (by simp [opened]; omega) rfl, opens_step _ dot _ (by simp [opened]; omega) rfl, opens_step _ name _ (by simp [opened]; omega) rfl]
    simp [opened]
  | _ => intro h; cases h
theorem noOpen {k : NT} {a : List T} (h : G k a) : isE k = true → ∀ (s : List T), opensC 0 (a ++ s) = false := by
  induction h with
  | eTerm _ ih | mFac _ ih | fCol _ ih => intro _ s; exact ih rfl s
  | eMore _ _ _ ih1 _ | mMore _ _ _ ih1 _ => intro _ s; rw [List.append_assoc]; exact ih1 rfl _
  | fNeg _ _ | fLit | fNull | fStar | col | colOf => intro _ s; rfl
  | fAgg hu _ _ => intro _ s; simp [isAgg] at hu; rcases hu with rfl | rfl <;> rfl
  | fRound h _ =>
    rename_i a _
    intro _ s
    show opensC 0 (lp :: ((a ++ [rp]) ++ s)) = _
    rw [opens_step 0 lp _ (by decide) rfl, List.append_assoc, passE h rfl _ _ (by decide)]
    rfl
  | _ => intro h; cases h
def isC : NT → Bool
  | cnd | conj | neg | basic => true
  | _ => false
theorem mark_now (o : Int) (t : T) (s : List T) (h : 1 ≤ o + opened t) (hm : marks t = true) : opensC o (t :: s) = true := by
  rw [opensC, if_neg (by omega), if_pos hm]
theorem yesOpen {k : NT} {a : List T} (h : G k a) : isC k = true → ∀ (o : Int) (s : List T), 1 ≤ o → opensC o (a ++ s) = true := by
  induction h with
  | kConj _ ih | jNeg _ ih | nBasic _ ih => intro _ o s ho; exact ih rfl o s ho
  | kOr _ _ ih _ | jAnd _ _ ih _ => intro _ o s ho; rw [List.append_assoc]; exact ih rfl o _ ho
  | nNot _ ih =>
    intro _ o s ho
    rw [List.cons_append, opens_step o not_ _ (by simp [opened]; omega) rfl]
    simp only [opened, Int.add_zero]
    exact ih rfl o s ho
  | bExists _ _ => intro _ o s ho; exact mark_now o exists_ _ (by simp [opened]; omega) rfl
  | bRound _ ih =>
    rename_i a _
    intro _ o s ho
    show opensC o (lp :: ((a ++ [rp]) ++ s)) = _
    rw [opens_step o lp _ (by simp [opened]; omega) rfl, List.append_assoc]
    exact ih rfl _ _ (by simp [opened]; omega)
  | bNull h _ | bNotNull h _ => intro _ o s ho; rw [List.append_assoc, passE h rfl o _ ho]; exact mark_now o is_ _ (by simp [opened]; omega) rfl
  | bIn h _ _ _ => intro _ o s ho; rw [List.append_assoc, passE h rfl o _ ho]; exact mark_now o in_ _ (by simp [opened]; omega) rfl
  | bNotIn h _ _ _ =>
    intro _ o s ho
    rw [List.append_assoc, passE h rfl o _ ho, List.cons_append, opens_step o not_ _ (by simp [opened]; omega) rfl]
    exact mark_now _ in_ _ (by simp [opened]; omega) rfl
  | bHow _ h _ _ _ => intro _ o s ho; rw [List.append_assoc, passE h rfl o _ ho]; exact mark_now o cmp _ (by simp [opened]; omega) rfl
  | bCmp h _ _ _ => intro _ o s ho; rw [List.append_assoc, passE h rfl o _ ho]; exact mark_now o cmp _ (by simp [opened]; omega) rfl
  | _ => intro h; cases h
/-- what would lengthen a piece -/
def ext : NT → T → Bool
  | factor, t | column, t => t == dot
  | term, t => t == dot || isMul t
  | expr, t | basic, t | neg, t => t == dot || isMul t || isAdd t
  | conj, t => t == dot || isMul t || isAdd t || t == and_
  | cnd, t => t == dot || isMul t || isAdd t || t == and_ || t == or_
  | NT.item, t => t == dot || isMul t || isAdd t || t == as_
  | items, t => t == dot || isMul t || isAdd t || t == as_ || t == comma
  | source, t => t == as_
  | sources, t => t == as_ || t == comma
  | columns, t => t == dot || t == comma
  | grouped, t | after, t => t == dot || isMul t || isAdd t || t == and_ || t == or_ || t == comma || t == having || t == group
  | tail, t | core, t => t == dot || isMul t || isAdd t || t == and_ || t == or_ || t == comma || t == having || t == group || t == where_ || t == as_
  | query, t => t == dot || isMul t || isAdd t || t == and_ || t == or_ || t == comma || t == having || t == group || t == where_ || t == as_ || isSet t
def Fit (k : NT) (r : List T) : Prop := ∀ u r', r = u :: r' → ext k u = false
def base : NT → NT
  | query => core | items => NT.item | sources => source | columns => column | cnd => conj | conj => neg | expr => term | term => factor
  | k => k
def chains : NT → Bool
  | query | items | sources | columns | cnd | conj | expr | term => true
  | _ => false
def Ok (pk : PK) (l r : List T) : Prop := ∃ N, ∀ n, N ≤ n → parse n pk l = some r
def Goes (k : NT) (r' r : List T) : Prop := if chains k then Ok (R k) r' r else r' = r
theorem ok_now {pk : PK} {l r : List T} (h : ∀ n, parse (n + 1) pk l = some r) : Ok pk l r :=
  ⟨1, fun n hn => by obtain ⟨m, rfl⟩ : ∃ m, n = m + 1 := ⟨n - 1, by omega⟩; exact h m⟩
theorem ok_step {pk k : PK} {l l' r : List T} (h : ∀ n, parse (n + 1) pk l = parse n k l') (h1 : Ok k l' r) : Ok pk l r := by
  obtain ⟨N, hN⟩ := h1
  refine ⟨N + 1, fun n hn => ?_⟩
  obtain ⟨m, rfl⟩ : ∃ m, n = m + 1 := ⟨n - 1, by omega⟩
  rw [h m]; exact hN m (by omega)
theorem ok_two {pk k1 : PK} {l l' m r : List T} (g : Nat → List T → Option (List T)) (h : ∀ n, parse (n + 1) pk l = (parse n k1 l').bind (g n)) (h1 : Ok k1 l' m) (h2 : ∃ N, ∀ n, N ≤ n → g n m = some r) : Ok pk l r := by
  obtain ⟨N1, hN1⟩ := h1
  obtain ⟨N2, hN2⟩ := h2
  refine ⟨N1 + N2 + 1, fun n hn => ?_⟩
  obtain ⟨p, rfl⟩ : ∃ p, n = p + 1 := ⟨n - 1, by omega⟩
  rw [h p, hN1 p (by omega)]
  exact hN2 p (by omega)
theorem ok_chain {pk k1 k2 : PK} {l l' m r : List T} (h : ∀ n, parse (n + 1) pk l = (parse n k1 l').bind (parse n k2)) (h1 : Ok k1 l' m) (h2 : Ok k2 m r) : Ok pk l r :=
  ok_two (fun n => parse n k2) h h1 h2
theorem ok_round {k : NT} {a r : List T} (h : Ok (P k) (a ++ rp :: r) (rp :: r)) : Ok (round k) (lp :: (a ++ [rp]) ++ r) r := by
  refine ok_two (k1 := P k) (l' := a ++ rp :: r) (m := rp :: r) (fun _ => eat rp) (fun n => ?_) h ⟨0, fun n _ => eat_cons rp r⟩
  simp [parse, eat]
theorem fit_cons {k : NT} {u : T} {r : List T} (h : ext k u = false) : Fit k (u :: r) := by
  intro v r' e; cases e; exact h
theorem Fit.mono {k k' : NT} {r : List T} (h : Fit k r) (he : ∀ t, ext k' t = true → ext k t = true) : Fit k' r := by
  intro u r' e
  have := h u r' e
  cases hx : ext k' u with
  | false => rfl
  | true => rw [he u hx] at this; cases this
theorem r_stop {k : NT} {r : List T} (hc : chains k = true) (h : Fit k r) : Ok (R k) r r := by
  cases r with
  | nil => cases k <;> first | exact absurd hc (by decide) | exact ok_now (fun n => by simp [parse])
  | cons u r =>
    have hu := h u r rfl
    cases k <;> first | exact absurd hc (by decide) | (cases u <;> first | exact absurd hu (by decide) | exact ok_now (fun n => by simp [parse, isSet, isAdd, isMul]))
def Reads (k : NT) (a : List T) : Prop := ∀ r r', Fit (base k) r' → Goes k r' r → Ok (P k) (a ++ r') r
theorem full {k : NT} {a r : List T} (h : Reads k a) (hf : Fit k r) : Ok (P k) (a ++ r) r := by
  refine h r r ?_ ?_
  · refine hf.mono ?_
    cases k <;> (intro t; cases t <;> decide)
  · unfold Goes
    cases hc : chains k with
    | true => simp only [if_true]; exact r_stop hc hf
    | false => simp
theorem goes_same {k : NT} {r' r : List T} (h : Goes k r' r) (hc : chains k = false) : r' = r := by
  unfold Goes at h; rw [hc] at h; simpa using h
theorem goes_chain {k : NT} {r' r : List T} (h : Goes k r' r) (hc : chains k = true) : Ok (R k) r' r := by
  unfold Goes at h; rw [hc] at h; simpa using h
theorem chain_goes {k : NT} {r' r : List T} (hc : chains k = true) (h : Ok (R k) r' r) : Goes k r' r := by
  unfold Goes; rw [hc]; simpa using h
def tailG (n : Nat) (r : List T) : Option (List T) := match r with
  | where_ :: r' => parse n (P after) r'
  | group :: r' => (eat by_ r').bind (parse n (P grouped))
  | r => some r
theorem parse_tail (n : Nat) (l : List T) : parse (n + 1) (P tail) l = (parse n (P sources) l).bind (tailG n) := by rw [parse]; rfl
def afterG (n : Nat) (r : List T) : Option (List T) := match r with
  | group :: r' => (eat by_ r').bind (parse n (P grouped))
  | r => some r
theorem parse_after (n : Nat) (l : List T) : parse (n + 1) (P after) l = (parse n (P cnd) l).bind (afterG n) := by rw [parse]; rfl
def groupedG (n : Nat) (r : List T) : Option (List T) := match r with
  | having :: r' => parse n (P cnd) r'
  | r => some r
theorem parse_grouped (n : Nat) (l : List T) : parse (n + 1) (P grouped) l = (parse n (P columns) l).bind (groupedG n) := by rw [parse]; rfl
theorem basic_not {a : List T} (h : G basic a) : ∀ l, a ≠ not_ :: l := by
  intro l e
  have key : ∀ {e' s : List T}, G expr e' → e' ++ s ≠ not_ :: l := by
    intro e' s he h2
    obtain ⟨t, r, rfl, ht⟩ := first_of he
    rw [List.cons_append] at h2
    rw [(List.cons.inj h2).1] at ht
    exact absurd ht (by decide)
  cases h with
  | bExists _ => cases e
  | bRound _ => cases e
  | bNull h => exact key h e
  | bNotNull h => exact key h e
  | bIn h _ => exact key h e
  | bNotIn h _ => exact key h e
  | bHow _ h _ => exact key h e
  | bCmp h _ => exact key h e
theorem parse_basic {a : List T} (h : G expr a) (n : Nat) (s : List T) : parse (n + 1) (P basic) (a ++ s) = (parse n (P expr) (a ++ s)).bind (parse n ask) := by
  have ho := noOpen h rfl s
  obtain ⟨t, l, rfl, ht⟩ := first_of h
  rw [List.cons_append] at ho ⊢
  cases t <;> first | exact absurd ht (by decide) | simp [parse, ho]
theorem reads {k : NT} {a : List T} (h : G k a) : Reads k a := by
  induction h with
  | qCore _ ih => intro r r' hf hg; exact ok_chain (fun n => by rw [parse]) (full ih hf) (goes_chain hg rfl)
  | iOne _ ih => intro r r' hf hg; exact ok_chain (fun n => by rw [parse]) (full ih hf) (goes_chain hg rfl)
  | sOne _ ih => intro r r' hf hg; exact ok_chain (fun n => by rw [parse]) (full ih hf) (goes_chain hg rfl)
  | cOne _ ih => intro r r' hf hg; exact ok_chain (fun n => by rw [parse]) (full ih hf) (goes_chain hg rfl)
  | kConj _ ih => intro r r' hf hg; exact ok_chain (fun n => by rw [parse]) (full ih hf) (goes_chain hg rfl)
  | jNeg _ ih => intro r r' hf hg; exact ok_chain (fun n => by rw [parse]) (full ih hf) (goes_chain hg rfl)
  | eTerm _ ih => intro r r' hf hg; exact ok_chain (fun n => by rw [parse]) (full ih hf) (goes_chain hg rfl)
  | mFac _ ih => intro r r' hf hg; exact ok_chain (fun n => by rw [parse]) (full ih hf) (goes_chain hg rfl)
  | qJoin hu _ hb ih1 ih2 =>
    rename_i a b u _
    intro r r' hf hg
    rw [List.append_assoc]
    have hs : skip all_ (b ++ r') = b ++ r' := by
      obtain ⟨t, b', rfl, ht⟩ := first_of hb
      cases t <;> first | exact absurd ht (by decide) | rfl
    refine ih1 r _ (fit_cons (by cases u <;> first | exact absurd hu (by decide) | rfl)) (chain_goes rfl (ok_chain (k1 := P core) (l' := b ++ r') (fun n => ?_) (full ih2 hf) (goes_chain hg rfl)))
    rw [List.cons_append, parse, hu, if_pos rfl, hs]
  | qJoinAll hu _ hb ih1 ih2 =>
    rename_i a b u _
    intro r r' hf hg
    rw [List.append_assoc]
    refine ih1 r _ (fit_cons (by cases u <;> first | exact absurd hu (by decide) | rfl)) (chain_goes rfl (ok_chain (k1 := P core) (l' := b ++ r') (fun n => ?_) (full ih2 hf) (goes_chain hg rfl)))
    rw [List.cons_append, parse, hu, if_pos rfl]
    rfl
  | iMore _ _ ih1 ih2 => intro r r' hf hg; rw [List.append_assoc]; exact ih1 r _ (fit_cons rfl) (chain_goes rfl (ok_chain (fun n => by rw [List.cons_append, parse]) (full ih2 hf) (goes_chain hg rfl)))
  | sMore _ _ ih1 ih2 => intro r r' hf hg; rw [List.append_assoc]; exact ih1 r _ (fit_cons rfl) (chain_goes rfl (ok_chain (fun n => by rw [List.cons_append, parse]) (full ih2 hf) (goes_chain hg rfl)))
  | cMore _ _ ih1 ih2 => intro r r' hf hg; rw [List.append_assoc]; exact ih1 r _ (fit_cons rfl) (chain_goes rfl (ok_chain (fun n => by rw [List.cons_append, parse]) (full ih2 hf) (goes_chain hg rfl)))
  | kOr _ _ ih1 ih2 => intro r r' hf hg; rw [List.append_assoc]; exact ih1 r _ (fit_cons rfl) (chain_goes rfl (ok_chain (fun n => by rw [List.cons_append, parse]) (full ih2 hf) (goes_chain hg rfl)))
  | jAnd _ _ ih1 ih2 => intro r r' hf hg; rw [List.append_assoc]; exact ih1 r _ (fit_cons rfl) (chain_goes rfl (ok_chain (fun n => by rw [List.cons_append, parse]) (full ih2 hf) (goes_chain hg rfl)))
  | eMore hu _ _ ih1 ih2 =>
    rename_i a b u _ _
    intro r r' hf hg
    rw [List.append_assoc]
    exact ih1 r _ (fit_cons (by cases u <;> first | exact absurd hu (by decide) | rfl)) (chain_goes rfl (ok_chain (fun n => by rw [List.cons_append, parse, hu, if_pos rfl]) (full ih2 hf) (goes_chain hg rfl)))
  | mMore hu _ _ ih1 ih2 =>
    rename_i a b u _ _
    intro r r' hf hg
    rw [List.append_assoc]
    exact ih1 r _ (fit_cons (by cases u <;> first | exact absurd hu (by decide) | rfl)) (chain_goes rfl (ok_chain (fun n => by rw [List.cons_append, parse, hu, if_pos rfl]) (full ih2 hf) (goes_chain hg rfl)))
  | cRound _ ih => intro r r' hf hg; obtain rfl := goes_same hg rfl; exact ok_step (fun n => by rw [List.cons_append, parse]) (ok_round (full ih (fit_cons rfl)))
  | cStar _ ih => intro r r' hf hg; obtain rfl := goes_same hg rfl; exact ok_step (fun n => by simp [parse, skip, eat]) (full ih (hf.mono (by intro t; cases t <;> decide)))
  | cStarD _ ih => intro r r' hf hg; obtain rfl := goes_same hg rfl; exact ok_step (fun n => by simp [parse, skip, eat]) (full ih (hf.mono (by intro t; cases t <;> decide)))
  | cSel hl _ ih1 ih2 =>
    rename_i l t _
    intro r r' hf hg; obtain rfl := goes_same hg rfl
    have h1 : Ok (P items) (l ++ fr_ :: (t ++ r')) (fr_ :: (t ++ r')) := full ih1 (fit_cons rfl)
    obtain ⟨N, hN⟩ := full ih2 (r := r') (hf.mono (by intro t; cases t <;> decide))
    refine ok_two (k1 := P items) (l' := l ++ fr_ :: (t ++ r')) (fun n r1 => (eat fr_ r1).bind (parse n (P tail))) (fun n => ?_) h1 ⟨N, fun n hn => by rw [eat_cons]; exact hN n hn⟩
    obtain ⟨t0, l0, rfl, ht⟩ := first_of hl
    cases t0 <;> first | exact absurd ht (by decide) | simp [parse, skip]
  | cSelD hl _ ih1 ih2 =>
    rename_i l t _
    intro r r' hf hg; obtain rfl := goes_same hg rfl
    have h1 : Ok (P items) (l ++ fr_ :: (t ++ r')) (fr_ :: (t ++ r')) := full ih1 (fit_cons rfl)
    obtain ⟨N, hN⟩ := full ih2 (r := r') (hf.mono (by intro t; cases t <;> decide))
    refine ok_two (k1 := P items) (l' := l ++ fr_ :: (t ++ r')) (fun n r1 => (eat fr_ r1).bind (parse n (P tail))) (fun n => ?_) h1 ⟨N, fun n hn => by rw [eat_cons]; exact hN n hn⟩
    obtain ⟨t0, l0, rfl, ht⟩ := first_of hl
    cases t0 <;> first | exact absurd ht (by decide) | simp [parse, skip]
  | tSrc _ ih =>
    intro r r' hf hg; obtain rfl := goes_same hg rfl
    refine ok_two tailG (fun n => parse_tail n _) (full ih (hf.mono (by intro t; cases t <;> decide))) ⟨0, fun n _ => ?_⟩
    cases r' with
    | nil => rfl
    | cons u r => have := hf u r rfl; cases u <;> first | exact absurd this (by decide) | rfl
  | tWhere _ _ ih1 ih2 =>
    rename_i a b _ _
    intro r r' hf hg; obtain rfl := goes_same hg rfl
    rw [List.append_assoc]
    exact ok_two (m := where_ :: (b ++ r')) tailG (fun n => parse_tail n _) (full ih1 (fit_cons rfl)) (full ih2 (hf.mono (by intro t; cases t <;> decide)))
  | tGroup _ _ ih1 ih2 =>
    rename_i a b _ _
    intro r r' hf hg; obtain rfl := goes_same hg rfl
    rw [List.append_assoc]
    obtain ⟨N, hN⟩ := full ih2 (r := r') (hf.mono (by intro t; cases t <;> decide))
    exact ok_two (m := group :: by_ :: (b ++ r')) tailG (fun n => parse_tail n _) (full ih1 (fit_cons rfl)) ⟨N, fun n hn => by simp [tailG, eat]; exact hN n hn⟩
  | aCond _ ih =>
    intro r r' hf hg; obtain rfl := goes_same hg rfl
    refine ok_two afterG (fun n => parse_after n _) (full ih (hf.mono (by intro t; cases t <;> decide))) ⟨0, fun n _ => ?_⟩
    cases r' with
    | nil => rfl
    | cons u r => have := hf u r rfl; cases u <;> first | exact absurd this (by decide) | rfl
  | aGroup _ _ ih1 ih2 =>
    rename_i a b _ _
    intro r r' hf hg; obtain rfl := goes_same hg rfl
    rw [List.append_assoc]
    obtain ⟨N, hN⟩ := full ih2 (r := r') (hf.mono (by intro t; cases t <;> decide))
    exact ok_two (m := group :: by_ :: (b ++ r')) afterG (fun n => parse_after n _) (full ih1 (fit_cons rfl)) ⟨N, fun n hn => by simp [afterG, eat]; exact hN n hn⟩
  | gCols _ ih =>
    intro r r' hf hg; obtain rfl := goes_same hg rfl
    refine ok_two groupedG (fun n => parse_grouped n _) (full ih (hf.mono (by intro t; cases t <;> decide))) ⟨0, fun n _ => ?_⟩
    cases r' with
    | nil => rfl
    | cons u r => have := hf u r rfl; cases u <;> first | exact absurd this (by decide) | rfl
  | gHaving _ _ ih1 ih2 =>
    rename_i a b _ _
    intro r r' hf hg; obtain rfl := goes_same hg rfl
    rw [List.append_assoc]
    exact ok_two (m := having :: (b ++ r')) groupedG (fun n => parse_grouped n _) (full ih1 (fit_cons rfl)) (full ih2 (hf.mono (by intro t; cases t <;> decide)))
  | item _ ih =>
    intro r r' hf hg; obtain rfl := goes_same hg rfl
    refine ok_chain (fun n => by rw [parse]) (full ih (hf.mono (by intro t; cases t <;> decide))) (ok_now (fun n => ?_))
    cases r' with
    | nil => rfl
    | cons u r => have := hf u r rfl; cases u <;> first | exact absurd this (by decide) | rfl
  | itemAs _ ih =>
    intro r r' hf hg; obtain rfl := goes_same hg rfl
    rw [List.append_assoc]
    exact ok_chain (k1 := P expr) (k2 := PK.alias) (m := as_ :: name :: r') (fun n => by rw [parse]; rfl) (full ih (fit_cons rfl)) (ok_now (fun n => by simp [parse, eat]))
  | src =>
    intro r r' hf hg; obtain rfl := goes_same hg rfl
    refine ok_step (k := PK.alias) (l' := r') (fun n => by simp [parse, eat]) (ok_now (fun n => ?_))
    cases r' with
    | nil => rfl
    | cons u r => have := hf u r rfl; cases u <;> first | exact absurd this (by decide) | rfl
  | srcAs =>
    intro r r' hf hg; obtain rfl := goes_same hg rfl
    exact ok_step (k := PK.alias) (l' := as_ :: name :: r') (fun n => by simp [parse, eat]) (ok_now (fun n => by simp [parse, eat]))
  | col =>
    intro r r' hf hg; obtain rfl := goes_same hg rfl
    refine ok_now (fun n => ?_)
    cases r' with
    | nil => rfl
    | cons u r => have := hf u r rfl; cases u <;> first | exact absurd this (by decide) | rfl
  | colOf => intro r r' hf hg; obtain rfl := goes_same hg rfl; exact ok_now (fun n => by simp [parse, eat])
  | nNot _ ih => intro r r' hf hg; obtain rfl := goes_same hg rfl; exact ok_step (fun n => by rw [List.cons_append, parse]) (full ih hf)
  | nBasic hb ih =>
    intro r r' hf hg; obtain rfl := goes_same hg rfl
    refine ok_step (k := P basic) (fun n => ?_) (full ih (hf.mono (by intro t; cases t <;> decide)))
    have hn := basic_not hb
    obtain ⟨t, l, rfl, ht⟩ := first_of hb
    cases t <;> first | exact absurd ht (by decide) | exact absurd rfl (hn _) | simp [parse]
  | bExists _ ih => intro r r' hf hg; obtain rfl := goes_same hg rfl; exact ok_step (fun n => by rw [List.cons_append, parse]) (ok_round (full ih (fit_cons rfl)))
  | bRound h ih =>
    rename_i a
    intro r r' hf hg; obtain rfl := goes_same hg rfl
    refine ok_step (fun n => ?_) (ok_round (full ih (fit_cons rfl)))
    have ho : opensC 0 (lp :: (a ++ [rp]) ++ r') = true := by
      rw [List.cons_append, opens_step 0 lp _ (by decide) rfl, List.append_assoc]
      exact yesOpen h rfl _ _ (by decide)
    rw [List.cons_append] at ho ⊢
    simp only [parse, ho, if_true]
  | bNull h ih =>
    intro r r' hf hg; obtain rfl := goes_same hg rfl
    rw [List.append_assoc]
    exact ok_chain (fun n => parse_basic h n _) (full ih (fit_cons rfl)) (ok_now (fun n => by simp [parse, eat]))
  | bNotNull h ih =>
    intro r r' hf hg; obtain rfl := goes_same hg rfl
    rw [List.append_assoc]
    exact ok_chain (fun n => parse_basic h n _) (full ih (fit_cons rfl)) (ok_now (fun n => by simp [parse, eat]))
  | bIn h _ ih1 ih2 =>
    rename_i a q _
    intro r r' hf hg; obtain rfl := goes_same hg rfl
    rw [List.append_assoc]
    exact ok_chain (fun n => parse_basic h n _) (full ih1 (fit_cons rfl)) (ok_step (k := round query) (l' := lp :: (q ++ [rp]) ++ r') (fun n => by simp [parse, eat]) (ok_round (full ih2 (fit_cons rfl))))
  | bNotIn h _ ih1 ih2 =>
    rename_i a q _
    intro r r' hf hg; obtain rfl := goes_same hg rfl
    rw [List.append_assoc]
    exact ok_chain (fun n => parse_basic h n _) (full ih1 (fit_cons rfl)) (ok_step (k := round query) (l' := lp :: (q ++ [rp]) ++ r') (fun n => by simp [parse, eat]) (ok_round (full ih2 (fit_cons rfl))))
  | bHow hh h _ ih1 ih2 =>
    rename_i a q u _
    intro r r' hf hg; obtain rfl := goes_same hg rfl
    rw [List.append_assoc]
    refine ok_chain (fun n => parse_basic h n _) (full ih1 (fit_cons rfl)) (ok_step (k := round query) (l' := lp :: (q ++ [rp]) ++ r') (fun n => ?_) (ok_round (full ih2 (fit_cons rfl))))
    cases u <;> first | exact absurd hh (by decide) | simp [parse]
  | bCmp h hb ih1 ih2 =>
    rename_i a b
    intro r r' hf hg; obtain rfl := goes_same hg rfl
    rw [List.append_assoc]
    refine ok_chain (fun n => parse_basic h n _) (full ih1 (fit_cons rfl)) (ok_step (k := P expr) (l' := b ++ r') (fun n => ?_) (full ih2 (hf.mono (by intro t; cases t <;> decide))))
    obtain ⟨t, l, rfl, ht⟩ := first_of hb
    cases t <;> first | exact absurd ht (by decide) | simp [parse]
  | fNeg _ ih => intro r r' hf hg; obtain rfl := goes_same hg rfl; exact ok_step (fun n => by rw [List.cons_append, parse]) (full ih hf)
  | fLit => intro r r' hf hg; obtain rfl := goes_same hg rfl; exact ok_now (fun n => by simp [parse])
  | fNull => intro r r' hf hg; obtain rfl := goes_same hg rfl; exact ok_now (fun n => by simp [parse])
  | fStar => intro r r' hf hg; obtain rfl := goes_same hg rfl; exact ok_now (fun n => by simp [parse, eat])
  | fAgg hu he ih =>
    rename_i a u
    intro r r' hf hg; obtain rfl := goes_same hg rfl
    have hin : Ok (P expr) (a ++ rp :: r') (rp :: r') := full ih (fit_cons rfl)
    cases u <;> first | exact absurd hu (by decide) | skip
    · refine ok_two (k1 := P expr) (l' := a ++ rp :: r') (m := rp :: r') (fun _ => eat rp) (fun n => ?_) hin ⟨0, fun n _ => eat_cons rp r'⟩
      obtain ⟨t, l, rfl, ht⟩ := first_of he
      cases t <;> first | exact absurd ht (by decide) | simp [parse, eat]
    · exact ok_step (k := round expr) (l' := lp :: (a ++ [rp]) ++ r') (fun n => by simp [parse]) (ok_round hin)
  | fRound _ ih => intro r r' hf hg; obtain rfl := goes_same hg rfl; exact ok_step (fun n => by rw [List.cons_append, parse]) (ok_round (full ih (fit_cons rfl)))
  | fCol hc ih =>
    intro r r' hf hg; obtain rfl := goes_same hg rfl
    refine ok_step (k := P column) (fun n => ?_) (full ih hf)
    cases hc <;> simp [parse]
/-- a text is a query just where the parser comes to its end -/
theorem parse_iff (l : List T) : (∃ n, parse n (P query) l = some []) ↔ G query l := by
  constructor
  · rintro ⟨n, h⟩
    obtain ⟨a, e, ha⟩ := took n _ _ _ h
    rw [List.append_nil] at e
    rw [e]; exact ha
  · intro h
    obtain ⟨N, hN⟩ := full (reads h) (r := []) (fun u r' e => by cases e)
    rw [List.append_nil] at hN
    exact ⟨N, hN N (Nat.le_refl _)⟩
/-- how deep the parser may yet go -/
def rank : PK → Nat
  | P query => 13 | P core => 12 | P tail => 11 | P after => 10 | P cnd => 9 | P conj => 8 | P neg => 7 | P basic => 6 | P items => 6 | P NT.item => 5 | P expr => 4 | P term => 3 | P grouped => 3
  | P factor => 2 | P sources => 2 | P columns => 2 | P source => 1 | P column => 1
  | R _ => 0 | ask => 0 | round _ => 0 | PK.alias => 0
def mz (pk : PK) (l : List T) : Nat := 20 * l.length + rank pk
theorem bind_congr {α β : Type} {o : Option α} {f g : α → Option β} (h : ∀ x, o = some x → f x = g x) : o.bind f = o.bind g := by
  cases o with
  | none => rfl
  | some x => exact h x rfl
theorem shorter {n : Nat} {k : NT} {l x : List T} (h : parse n (P k) l = some x) : x.length < l.length := by
  obtain ⟨a, rfl, ha⟩ := took n _ _ _ h
  obtain ⟨t, r, rfl, _⟩ := first_of ha
  simp
  omega
theorem eat_shorter {t : T} {l x : List T} (h : eat t l = some x) : x.length < l.length := by
  rw [eat_some h]; simp
theorem skip_le (t : T) (l : List T) : (skip t l).length ≤ l.length := by
  rcases skip_cases t l with e | ⟨e, _⟩
  · have := congrArg List.length e; simp at this; omega
  · rw [e]; exact Nat.le_refl _
def selG (n : Nat) (l : List T) : Option (List T) := match l with
  | star :: r' => some r'
  | r' => parse n (P items) r'
theorem parse_sel (n : Nat) (r : List T) : parse (n + 1) (P core) (sel :: r) = (selG n (skip dist r)).bind fun r1 => (eat fr_ r1).bind (parse n (P tail)) := by
  rw [parse]; rfl
theorem selG_le {n : Nat} {l x : List T} (h : selG n l = some x) : x.length < l.length := by
  unfold selG at h
  split at h
  · cases h; simp
  · exact shorter h
def countG (n : Nat) (l : List T) : Option (List T) := match l with
  | star :: r2 => some r2
  | r2 => parse n (P expr) r2
theorem parse_count (n : Nat) (r : List T) : parse (n + 1) (P factor) (count :: r) = (eat lp r).bind fun r' => (countG n r').bind (eat rp) := by rw [parse]; rfl
theorem stable (n : Nat) : ∀ (pk : PK) (l : List T), mz pk l < n → parse n pk l = parse (n + 1) pk l := by
  induction n with
  | zero => intro pk l h; omega
  | succ n ih =>
    have two : ∀ (k : NT) (k2 : PK) (l : List T), mz (P k) l < n → rank k2 ≤ 19 → (parse n (P k) l).bind (parse n k2) = (parse (n + 1) (P k) l).bind (parse (n + 1) k2) := by
      intro k k2 l h1 h2
      rw [← ih _ _ h1]
      refine bind_congr (fun x hx => ih _ _ ?_)
      have := shorter hx
      unfold mz at h1 ⊢
      omega
    have rnk : ∀ k, rank k ≤ 13 := by intro k; cases k <;> simp [rank]; (rename_i k; cases k <;> simp [rank])
    have less : ∀ (pk pk2 : PK) (l l2 : List T), mz pk l < n + 1 → l2.length < l.length → mz pk2 l2 < n := by
      intro pk pk2 l l2 h1 h2
      have := rnk pk2
      unfold mz at *
      omega
    intro pk l h
    cases pk with
    | P k =>
      cases k with
      | query => rw [parse, parse]; exact two _ _ _ (by simp only [mz, rank] at *; omega) (by decide)
      | core =>
        cases l with
        | nil => simp [parse]
        | cons t r =>
          cases t <;> first | rfl | skip
          · rw [parse_sel, parse_sel]
            have hsk := skip_le dist r
            have e : selG n (skip dist r) = selG (n + 1) (skip dist r) := by
              unfold selG
              split
              · rfl
              · exact ih _ _ (less _ _ _ _ h (by simp only [List.length_cons]; omega))
            rw [← e]
            refine bind_congr (fun x hx => bind_congr (fun y hy => ih _ _ (less _ _ _ _ h ?_)))
            have h1 := selG_le hx
            have h2 := eat_shorter hy
            simp only [List.length_cons]; omega
          · rw [parse, parse]; exact ih _ _ (by simp only [mz, rank] at *; omega)
      | tail =>
        rw [parse_tail, parse_tail, ← ih _ _ (by simp only [mz, rank] at *; omega)]
        refine bind_congr (fun x hx => ?_)
        have hl := shorter hx
        unfold tailG
        split
        · exact ih _ _ (less _ _ _ _ h (by simp only [List.length_cons] at hl; omega))
        · refine bind_congr (fun y hy => ih _ _ (less _ _ _ _ h ?_))
          have := eat_shorter hy
          simp only [List.length_cons] at hl; omega
        · rfl
      | after =>
        rw [parse_after, parse_after, ← ih _ _ (by simp only [mz, rank] at *; omega)]
        refine bind_congr (fun x hx => ?_)
        have hl := shorter hx
        unfold afterG
        split
        · refine bind_congr (fun y hy => ih _ _ (less _ _ _ _ h ?_))
          have := eat_shorter hy
          simp only [List.length_cons] at hl; omega
        · rfl
      | grouped =>
        rw [parse_grouped, parse_grouped, ← ih _ _ (by simp only [mz, rank] at *; omega)]
        refine bind_congr (fun x hx => ?_)
        have hl := shorter hx
        unfold groupedG
        split
        · exact ih _ _ (less _ _ _ _ h (by simp only [List.length_cons] at hl; omega))
        · rfl
      | items => rw [parse, parse]; exact two _ _ _ (by simp only [mz, rank] at *; omega) (by decide)
      | item => rw [parse, parse]; exact two _ _ _ (by simp only [mz, rank] at *; omega) (by decide)
      | sources => rw [parse, parse]; exact two _ _ _ (by simp only [mz, rank] at *; omega) (by decide)
      | source =>
        rw [parse, parse]
        exact bind_congr (fun x hx => ih _ _ (less _ _ _ _ h (eat_shorter hx)))
      | columns => rw [parse, parse]; exact two _ _ _ (by simp only [mz, rank] at *; omega) (by decide)
      | column => rw [parse, parse]
      | cnd => rw [parse, parse]; exact two _ _ _ (by simp only [mz, rank] at *; omega) (by decide)
      | conj => rw [parse, parse]; exact two _ _ _ (by simp only [mz, rank] at *; omega) (by decide)
      | neg =>
        cases l with
        | nil => simp only [parse]; exact ih _ _ (by simp only [mz, rank] at *; omega)
        | cons t r =>
          have hb := ih (P basic) (t :: r) (by simp only [mz, rank] at *; omega)
          have hn := ih (P neg) r (less _ _ _ _ h (by simp))
          cases t <;> first | (simp only [parse]; exact hn) | (simp only [parse]; exact hb) | (rw [parse, parse]; exact hb)
      | basic =>
        have two' := two expr ask l (by simp only [mz, rank] at *; omega) (by decide)
        have hr := ih (round cnd) l (by simp only [mz, rank] at *; omega)
        cases l with
        | nil => simp only [parse]; split <;> first | exact hr | exact two'
        | cons t r =>
          have he := ih (round query) r (less _ _ _ _ h (by simp))
          cases t <;> (simp only [parse]; first | exact he | (split <;> first | exact hr | exact two'))
      | expr => rw [parse, parse]; exact two _ _ _ (by simp only [mz, rank] at *; omega) (by decide)
      | term => rw [parse, parse]; exact two _ _ _ (by simp only [mz, rank] at *; omega) (by decide)
      | factor =>
        have hc := ih (P column) l (by simp only [mz, rank] at *; omega)
        have hr := ih (round expr) l (by simp only [mz, rank] at *; omega)
        cases l with
        | nil => simp only [parse]; simpa only [parse] using hc
        | cons t r =>
          have hf := ih (P factor) r (less _ _ _ _ h (by simp))
          have ha := ih (round expr) r (less _ _ _ _ h (by simp))
          have hcount : parse (n + 1) (P factor) (count :: r) = parse (n + 1 + 1) (P factor) (count :: r) := by
            rw [parse_count, parse_count]
            refine bind_congr (fun x hx => ?_)
            have hxl := eat_shorter hx
            have e : countG n x = countG (n + 1) x := by
              unfold countG
              split
              · rfl
              · exact ih _ _ (less _ _ _ _ h (by simp only [List.length_cons]; omega))
            rw [e]
          cases t <;> first | rfl | exact hcount | exact hc | (simp only [parse]; first | done | exact hf | exact hr | exact ha | exact hc)
    | R k =>
      cases l with
      | nil => cases k <;> simp [parse]
      | cons t r =>
        have tw : ∀ (k1 : NT) (k2 : PK) (x : List T), x.length ≤ r.length → (parse n (P k1) x).bind (parse n k2) = (parse (n + 1) (P k1) x).bind (parse (n + 1) k2) := fun k1 k2 x hx => two k1 k2 x (less _ _ _ _ h (by simp; omega)) (Nat.le_trans (rnk k2) (by decide))
        cases k with
        | query => rw [parse, parse]; split; exact tw _ _ _ (skip_le _ _); rfl
        | expr => rw [parse, parse]; split; exact tw _ _ _ (Nat.le_refl _); rfl
        | term => rw [parse, parse]; split; exact tw _ _ _ (Nat.le_refl _); rfl
        | items => cases t <;> first | rfl | (simp only [parse]; exact tw _ _ _ (Nat.le_refl _))
        | sources => cases t <;> first | rfl | (simp only [parse]; exact tw _ _ _ (Nat.le_refl _))
        | columns => cases t <;> first | rfl | (simp only [parse]; exact tw _ _ _ (Nat.le_refl _))
        | cnd => cases t <;> first | rfl | (simp only [parse]; exact tw _ _ _ (Nat.le_refl _))
        | conj => cases t <;> first | rfl | (simp only [parse]; exact tw _ _ _ (Nat.le_refl _))
        | _ => simp [parse]
    | ask =>
      cases l with
      | nil => simp [parse, eat]
      | cons t r =>
        have hin : (eat in_ (t :: r)).bind (parse n (round query)) = (eat in_ (t :: r)).bind (parse (n + 1) (round query)) := bind_congr (fun x hx => ih _ _ (less _ _ _ _ h (eat_shorter hx)))
        have hnot : (eat in_ r).bind (parse n (round query)) = (eat in_ r).bind (parse (n + 1) (round query)) := bind_congr (fun x hx => ih _ _ (less _ _ _ _ h (by have := eat_shorter hx; simp only [List.length_cons]; omega)))
        have hq : ∀ x : List T, x.length ≤ r.length → ∀ k, parse n k x = parse (n + 1) k x := fun x hx k => ih _ _ (less _ _ _ _ h (by simp only [List.length_cons]; omega))
        cases t <;> first
          | (simp only [parse]; exact hnot)
          | (simp only [parse]; exact hin)
          | (cases r with
             | nil => first | (simp only [parse]; done) | (simp only [parse]; exact hq _ (Nat.le_refl _) _)
             | cons u r =>
               have h1 := hq r (by simp) (round query)
               have h2 := hq (u :: r) (Nat.le_refl _) (P expr)
               cases u <;> first | (simp only [parse]; done) | (simp only [parse]; exact h1) | (simp only [parse]; exact h2))
    | round k =>
      rw [parse, parse]
      refine bind_congr (fun x hx => ?_)
      rw [← ih _ _ (less _ _ _ _ h (eat_shorter hx))]
    | alias => simp only [parse]
theorem stable_all {pk : PK} {l : List T} (n m : Nat) (h : mz pk l < n) (hm : n ≤ m) : parse m pk l = parse n pk l := by
  induction hm with
  | refl => rfl
  | step hm ih => rw [← stable _ pk l (Nat.lt_of_lt_of_le h hm)]; exact ih
/-- the parser's answer for good -/
def answer (l : List T) : Option (List T) := parse (20 * l.length + 14) (P query) l
theorem answer_iff (l : List T) : answer l = some [] ↔ G query l := by
  constructor
  · intro h; exact (parse_iff l).1 ⟨_, h⟩
  · intro h
    obtain ⟨N, hN⟩ := full (reads h) (r := []) (fun u r' e => by cases e)
    rw [List.append_nil] at hN
    have h1 := stable_all (pk := P query) (l := l) (20 * l.length + 14) (N + (20 * l.length + 14)) (by simp only [mz, rank]; omega) (by omega)
    unfold answer
    rw [← h1]
    exact hN _ (by omega)
end Gr
end Go.Proofs.YtfkdfplnhlnnoaaGreatDoor
