import Derived.Test.YtfkdfplnhlnnoaaGreatDoorBgJa03
namespace Go.Proofs.YtfkdfplnhlnnoaaGreatDoor
namespace Gr
set_option linter.unusedSimpArgs false
set_option linter.unusedVariables false
/-- a number's digits -/
def decN (n : Nat) : Bg.Str := if n < 10 then [UInt8.ofNat (48 + n)] else decN (n / 10) ++ [UInt8.ofNat (48 + n % 10)]
termination_by n
decreasing_by omega
def dec (n : Int) : Bg.Str := if n < 0 then 45 :: decN n.natAbs else decN n.natAbs
def quoteB : Bg.Str → Bg.Str
  | [] => []
  | c :: r => if c = 39 then 39 :: 39 :: quoteB r else c :: quoteB r
def quote (s : Bg.Str) : Bg.Str := 39 :: (quoteB s ++ [39])
def commas : List Bg.Str → Bg.Str
  | [] => []
  | [a] => a
  | a :: r => a ++ [44, 32] ++ commas r
def asP (s name : Bg.Str) : Bg.Str := if name = [] then s else s ++ [32, 97, 115, 32] ++ name
def notP (b : Bool) : Bg.Str := if b then [110, 111, 116, 32] else []
def selP (f : Fl) (is fs gs : List Bg.Str) (w h : Option Bg.Str) : Bg.Str :=
  [115, 101, 108, 101, 99, 116, 32] ++ (if f.dist then [100, 105, 115, 116, 105, 110, 99, 116, 32] else []) ++ (if f.star then [42] else []) ++ commas is ++ [32, 102, 114, 111, 109, 32] ++ commas fs ++ (match w with | some x => [32, 119, 104, 101, 114, 101, 32] ++ x | none => []) ++ (if gs = [] then [] else [32, 103, 114, 111, 117, 112, 32, 98, 121, 32] ++ commas gs) ++ (match h with | some x => [32, 104, 97, 118, 105, 110, 103, 32] ++ x | none => [])
def fns4 : List Bg.Str := [[99, 111, 117, 110, 116], [115, 117, 109], [109, 105, 110], [109, 97, 120]]
def sets3 : List Bg.Str := [[117, 110, 105, 111, 110], [105, 110, 116, 101, 114, 115, 101, 99, 116], [101, 120, 99, 101, 112, 116]]
/-- a part's text, of its parts' texts -/
def prN (f : Fl) (ks is fs gs : List Bg.Str) (w h : Option Bg.Str) : Bg.Str :=
  if f.kind = [110, 117, 109] then dec f.num
  else if f.kind = [116, 101, 120, 116] then quote f.text
  else if f.kind = [110, 117, 108, 108] then [110, 117, 108, 108]
  else if f.kind = [99, 111, 108, 117, 109, 110] then (if f.of_ = [] then f.text else f.of_ ++ [46] ++ f.text)
  else if f.kind = [110, 101, 103] then [40, 45] ++ ks.getD 0 [] ++ [41]
  else if f.kind ∈ fns4 then (if f.star then [99, 111, 117, 110, 116, 40, 42, 41] else f.kind ++ [40] ++ ks.getD 0 [] ++ [41])
  else if f.kind = [110, 111, 116] then [40, 110, 111, 116, 32] ++ ks.getD 0 [] ++ [41]
  else if f.kind = [101, 120, 105, 115, 116, 115] then [101, 120, 105, 115, 116, 115, 32, 40] ++ ks.getD 0 [] ++ [41]
  else if f.kind = [105, 115, 110, 117, 108, 108] then ks.getD 0 [] ++ [32, 105, 115, 32] ++ notP f.not_ ++ [110, 117, 108, 108]
  else if f.kind = [105, 110] then ks.getD 0 [] ++ [32] ++ notP f.not_ ++ [105, 110, 32, 40] ++ ks.getD 1 [] ++ [41]
  else if f.kind = [97, 110, 121] ∨ f.kind = [97, 108, 108] then ks.getD 0 [] ++ [32] ++ f.sign ++ [32] ++ f.kind ++ [32, 40] ++ ks.getD 1 [] ++ [41]
  else if f.kind = [99, 111, 109, 112, 97, 114, 101] then ks.getD 0 [] ++ [32] ++ f.sign ++ [32] ++ ks.getD 1 []
  else if f.kind = [105, 116, 101, 109] then asP (ks.getD 0 []) f.as_
  else if f.kind = [115, 111, 117, 114, 99, 101] then asP f.text f.as_
  else if f.kind = [115, 101, 108, 101, 99, 116] then selP f is fs gs w h
  else if f.kind ∈ sets3 ∧ f.all = true then [40] ++ ks.getD 0 [] ++ [32] ++ f.kind ++ [32, 97, 108, 108, 32] ++ ks.getD 1 [] ++ [41]
  else [40] ++ ks.getD 0 [] ++ [32] ++ f.kind ++ [32] ++ ks.getD 1 [] ++ [41]
def Tr.isNode : Tr → Bool | .node _ _ _ _ _ _ _ => true | _ => false
mutual
/-- a part's text -/
def pr : Tr → Bg.Str
  | .node f k i fr g w h => prN f (prs k) (prs i) (prs fr) (prs g) (if w.isNode then some (pr w) else none) (if h.isNode then some (pr h) else none)
  | .nil => []
  | .cons _ _ => []
def prs : Tr → List Bg.Str
  | .cons h t => pr h :: prs t
  | .nil => []
  | .node _ _ _ _ _ _ _ => []
end
/-- how many parts a part's print asks for -/
def arity (f : Fl) : Nat :=
  if f.kind = [110, 117, 109] ∨ f.kind = [116, 101, 120, 116] ∨ f.kind = [110, 117, 108, 108] ∨ f.kind = [99, 111, 108, 117, 109, 110] ∨ f.kind = [115, 111, 117, 114, 99, 101] ∨ f.kind = [115, 101, 108, 101, 99, 116] then 0
  else if f.kind = [110, 101, 103] ∨ f.kind = [110, 111, 116] ∨ f.kind = [101, 120, 105, 115, 116, 115] ∨ f.kind = [105, 115, 110, 117, 108, 108] ∨ f.kind = [105, 116, 101, 109] then 1
  else if f.kind ∈ fns4 then (if f.star then 0 else 1)
  else 2
/-- what is plain in a part is small -/
structure FlOk (f : Fl) : Prop where
  kind : f.kind.length ≤ 400
  sign : f.sign.length ≤ 400
  text : f.text.length ≤ 400
  of_ : f.of_.length ≤ 400
  as_ : f.as_.length ≤ 400
  lo : -9223372036854775808 ≤ f.num
  hi : f.num ≤ 9223372036854775807
/-- a part's own facts -/
structure NodeOk (f : Fl) (k i fr g w h : Tr) : Prop where
  ar : arity f ≤ k.len
  fl : FlOk f
  pr : (pr (.node f k i fr g w h)).length ≤ 400000
  ci : (commas (prs i)).length ≤ 400000
  cf : (commas (prs fr)).length ≤ 400000
  cg : (commas (prs g)).length ≤ 400000
  lk : k.len ≤ 400
  li : i.len ≤ 400
  lf : fr.len ≤ 400
  lg : g.len ≤ 400
mutual
/-- a part that can be printed -/
def Good : Tr → Prop
  | .node f k i fr g w h => NodeOk f k i fr g w h ∧ GoodL k ∧ GoodL i ∧ GoodL fr ∧ GoodL g ∧ (w.isNode = true → Good w) ∧ (h.isNode = true → Good h) ∧ (w = .nil ∨ w.isNode = true) ∧ (h = .nil ∨ h.isNode = true)
  | .nil => False
  | .cons _ _ => False
def GoodL : Tr → Prop
  | .cons h t => Good h ∧ GoodL t
  | .nil => True
  | .node _ _ _ _ _ _ _ => False
end
/-- a list's parts -/
def elems : Tr → List Tr
  | .cons h t => h :: elems t
  | _ => []
theorem elems_len : ∀ t : Tr, (elems t).length = t.len
  | .cons h t => by simp [elems, Tr.len, elems_len t]
  | .nil => rfl
  | .node _ _ _ _ _ _ _ => rfl
theorem prs_elems : ∀ t : Tr, prs t = (elems t).map pr
  | .cons h t => by simp [elems, prs, prs_elems t]
  | .nil => by simp [elems, prs]
  | .node _ _ _ _ _ _ _ => by simp [elems, prs]
theorem good_elems : ∀ t : Tr, GoodL t → ∀ x ∈ elems t, Good x
  | .cons h t, hg, x, hx => by
    rw [GoodL] at hg
    rcases List.mem_cons.1 hx with rfl | hx
    · exact hg.1
    · exact good_elems t hg.2 x hx
  | .nil, _, x, hx => by simp [elems] at hx
  | .node _ _ _ _ _ _ _, _, x, hx => by simp [elems] at hx
theorem prs_len : ∀ t : Tr, GoodL t → (prs t).length = t.len
  | .nil, _ => by simp [prs, Tr.len]
  | .cons h t, hg => by
    rw [GoodL] at hg
    simp [prs, Tr.len, prs_len t hg.2]
  | .node _ _ _ _ _ _ _, hg => by rw [GoodL] at hg; exact hg.elim
end Gr
end Go.Proofs.YtfkdfplnhlnnoaaGreatDoor
