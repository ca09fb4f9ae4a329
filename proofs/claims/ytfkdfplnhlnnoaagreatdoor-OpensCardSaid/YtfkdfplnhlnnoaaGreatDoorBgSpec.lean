/- The document's reader of tables, in plain words. -/
import Derived.Test.YtfkdfplnhlnnoaaGreatDoorBgRefF
namespace Go.Proofs.YtfkdfplnhlnnoaaGreatDoor
open Go.RowKit
set_option linter.unusedSimpArgs false
set_option linter.unusedVariables false

namespace Bg
theorem linesFrom_mem (s : Str) : ∀ cur x, x ∈ linesFrom cur s → x.length ≤ cur.length + s.length := by
  induction s with
  | nil => intro cur x hx; simp [linesFrom] at hx; subst hx; simp
  | cons c r ih =>
    intro cur x hx
    rw [linesFrom] at hx
    split at hx
    · rcases List.mem_cons.1 hx with rfl | hx
      · simp
      · have := ih [] x hx; simp at this ⊢; omega
    · have := ih _ x hx; simp at this ⊢; omega
theorem lines_mem {s x : Str} (h : x ∈ lines s) : x.length ≤ s.length := by have := linesFrom_mem s [] x h; simpa using this
theorem lines_len (s : Str) : (lines s).length ≤ s.length + 1 := linesFrom_len s []
theorem piecesN_mem (f : Nat) : ∀ (s : Str) (l : List Str), piecesN f s = some l → ∀ x ∈ l, x ≠ [] ∧ x.length ≤ s.length := by
  induction f with
  | zero => intro s l h; cases s <;> simp [piecesN] at h <;> subst h <;> simp
  | succ f ih =>
    intro s l h
    cases s with
    | nil => simp [piecesN] at h; subst h; simp
    | cons c r =>
      rw [piecesN] at h
      by_cases h32 : c = 32
      · rw [if_pos h32] at h
        intro x hx
        have := ih r l h x hx
        exact ⟨this.1, by simp; omega⟩
      · rw [if_neg h32] at h
        by_cases h0 : pieceLen (c :: r) = 0
        · simp only [h0, if_pos] at h; cases h
        · simp only [h0, if_false] at h
          have hp : (c :: r).take (pieceLen (c :: r)) ≠ [] ∧ ((c :: r).take (pieceLen (c :: r))).length ≤ (c :: r).length := by
            refine ⟨?_, by simp; omega⟩
            intro e
            have := congrArg List.length e
            simp at this; omega
          cases hd : (c :: r).drop (pieceLen (c :: r)) with
          | nil =>
            rw [hd] at h
            simp only at h
            cases h
            intro x hx
            obtain rfl : x = _ := List.mem_singleton.1 hx
            exact hp
          | cons d r' =>
            have hl : (d :: r').length ≤ (c :: r).length := by rw [← hd]; simp
            rw [hd] at h
            simp only at h
            split at h
            · cases hr : piecesN f (d :: r') with
              | none => rw [hr] at h; cases h
              | some m =>
                rw [hr] at h
                cases h
                intro x hx
                rcases List.mem_cons.1 hx with rfl | hx
                · exact hp
                · have := ih _ m hr x hx
                  exact ⟨this.1, Nat.le_trans this.2 hl⟩
            · cases h
theorem pieces_mem {s : Str} {l : List Str} (h : pieces s = some l) : ∀ x ∈ l, x ≠ [] ∧ x.length ≤ s.length := piecesN_mem _ s l h
theorem piecesN_len (f : Nat) : ∀ (s : Str) (l : List Str), piecesN f s = some l → l.length ≤ s.length := by
  induction f with
  | zero => intro s l h; cases s <;> simp [piecesN] at h <;> subst h <;> simp
  | succ f ih =>
    intro s l h
    cases s with
    | nil => simp [piecesN] at h; subst h; simp
    | cons c r =>
      rw [piecesN] at h
      by_cases h32 : c = 32
      · rw [if_pos h32] at h
        have := ih r l h
        simp; omega
      · rw [if_neg h32] at h
        by_cases h0 : pieceLen (c :: r) = 0
        · simp only [h0, if_pos] at h; cases h
        · simp only [h0, if_false] at h
          cases hd : (c :: r).drop (pieceLen (c :: r)) with
          | nil =>
            rw [hd] at h
            simp only at h
            cases h
            simp
          | cons d r' =>
            have hl : (d :: r').length = (c :: r).length - pieceLen (c :: r) := by rw [← hd]; simp
            rw [hd] at h
            simp only at h
            split at h
            · cases hr : piecesN f (d :: r') with
              | none => rw [hr] at h; cases h
              | some m =>
                rw [hr] at h
                cases h
                have := ih _ m hr
                simp only [List.length_cons] at hl this ⊢
                omega
            · cases h
theorem pieces_len {s : Str} {l : List Str} (h : pieces s = some l) : l.length ≤ s.length := piecesN_len _ s l h
end Bg

def sTable : Bg.Str := [116, 97, 98, 108, 101]
def sRow : Bg.Str := [114, 111, 119]
/-- what is known of the tables so far: their names; of the last one the types and how many rows -/
structure RSt where
  names : List Bg.Str
  last : Option (List Bg.Str × Nat)
def headOk (l : List Bg.Str) : Bool := headLen l.length && (Bg.isName (l.getD 1 []) && okPairs [] (pairsOf (l.drop 2)))
def valsOk (ps types : List Bg.Str) : Bool := (ps.zip types).all fun x => (refVal x.1 x.2).2
def rowFits (st : RSt) (n : Nat) : Option (List Bg.Str × Nat) :=
  match st.last with
  | none => none
  | some (types, rows) => if n = types.length ∧ rows ≠ 12 then some (types, rows) else none
def refPieces (st : RSt) (p : Bg.Str) (ps : List Bg.Str) : Option RSt :=
  if p = sTable then
    if headOk (p :: ps) = true ∧ st.names.length ≠ 8 ∧ (ps.getD 0 []) ∉ st.names then some ⟨st.names ++ [ps.getD 0 []], some ((pairsOf (ps.drop 1)).map (·.2), 0)⟩ else none
  else if p = sRow then
    match rowFits st ps.length with
    | none => none
    | some (types, rows) => if valsOk ps types = true then some ⟨st.names, some (types, rows + 1)⟩ else none
  else none
def refStep (st : RSt) (x : Bg.Str) : Option RSt :=
  match Bg.pieces x with
  | none => none
  | some [] => some st
  | some (p :: ps) => refPieces st p ps
def refRun : RSt → Nat → List Bg.Str → Int
  | _, _, [] => -1
  | st, k, x :: r => match refStep st x with
    | none => (k : Int) + 1
    | some st' => refRun st' (k + 1) r
def refData (s : Bg.Str) : Int := if s.length > 4000 then 0 else refRun ⟨[], none⟩ 0 (Bg.lines s)

theorem refRun_none {st : RSt} {k : Nat} {x : Bg.Str} {r : List Bg.Str} (h : refStep st x = none) : refRun st k (x :: r) = (k : Int) + 1 := by simp only [refRun, h]
theorem refRun_some {st st' : RSt} {k : Nat} {x : Bg.Str} {r : List Bg.Str} (h : refStep st x = some st') : refRun st k (x :: r) = refRun st' (k + 1) r := by simp only [refRun, h]

/-- the table that a line begins: what headed answers -/
theorem ref_headed_all (v : Value) (l : List Bg.Str) (W : World) (hl : ∀ x ∈ l, x.length ≤ 90000) (hll : l.length ≤ 90000) (hv : viewS W v l) :
    Calls Tryz.prog 15 #[v] W fun e W' => ∃ (nm : Bg.Str) (a1 a2 : Option Addr) (n1 n2 c1 c2 : Nat), e = .returned (.tuple #[.agg #[.string ⟨nm.toArray⟩, .slice a1 n1 c1, .slice a2 n2 c2, .slice none 0 0], .bool (headOk l)]) ∧
      Hid (headOk l = true → nm = l.getD 1 [] ∧ n1 = (pairsOf (l.drop 2)).length ∧ n2 = (pairsOf (l.drop 2)).length ∧ W'.ownsRow W.heap.size 9 1 (.slice a2 n2 c2) n2 (((pairsOf (l.drop 2)).map (·.2)).map strV) ∧ W'.ownsRow W.heap.size 9 1 (.slice a1 n1 c1) n1 (((pairsOf (l.drop 2)).map (·.1)).map strV)) ∧ Below W.heap.size W W' := by
  by_cases hh : headLen l.length = true
  · refine (ref_headed v l W hl hll hv hh).mono ?_
    rintro e W' ⟨cv, tv, rfl, h1, h2, h3⟩
    obtain ⟨a1, c1, rfl⟩ := own_slice h1
    obtain ⟨a2, c2, rfl⟩ := own_slice h2
    refine ⟨l.getD 1 [], a1, a2, (pairsOf (l.drop 2)).length, (pairsOf (l.drop 2)).length, c1, c2, by unfold headOk; rw [hh, Bool.true_and]; rfl, ?_, h3⟩
    intro _
    refine ⟨rfl, rfl, rfl, ?_, ?_⟩
    · rw [List.map_map]
      exact h2
    · rw [List.map_map]
      exact h1
  · have hh' : headLen l.length = false := by simpa using hh
    refine (ref_headed_bad v l W hll hv hh').mono ?_
    rintro e W' ⟨rfl, h3⟩
    exact ⟨[], none, none, 0, 0, 0, 0, by simp [headOk, hh'], (fun h => by simp [headOk, hh'] at h), h3⟩

/-- the tables of the document's answer in memory -/
def tabsCells (ts : List (Bg.Str × Value × Value × Value)) : List Value := ts.flatMap fun t => [strV t.1, t.2.1, t.2.2.1, t.2.2.2]
/-- a table's name, columns and types -/
abbrev Tb3 := Bg.Str × List Bg.Str × List Bg.Str
/-- the tables that a line adds -/
def tbLine (tb : List Tb3) (x : Bg.Str) : List Tb3 :=
  match Bg.pieces x with
  | some (p :: ps) => if p = sTable then tb ++ [(ps.getD 0 [], (pairsOf (ps.drop 1)).map (·.1), (pairsOf (ps.drop 1)).map (·.2))] else tb
  | _ => tb
def tbRun : List Tb3 → List Bg.Str → List Tb3
  | tb, [] => tb
  | tb, x :: r => tbRun (tbLine tb x) r
/-- a table in memory -/
structure TbIn (B : Nat) (W : World) (x : Tb3) (t : Bg.Str × Value × Value × Value) : Prop where
  nm : t.1 = x.1
  cols : W.ownsRow B 9 1 t.2.1 x.2.1.length (x.2.1.map strV)
  types : W.ownsRow B 9 1 t.2.2.1 x.2.2.length (x.2.2.map strV)
  rows : ∃ a n c, t.2.2.2 = .slice a n c
structure TbsIn (B : Nat) (W : World) (tb : List Tb3) (ts : List (Bg.Str × Value × Value × Value)) : Prop where
  len : tb.length = ts.length
  all : ∀ p ∈ tb.zip ts, TbIn B W p.1 p.2
theorem TbsIn.mono {B : Nat} {W W' : World} {tb : List Tb3} {ts : List (Bg.Str × Value × Value × Value)} (h : TbsIn B W tb ts) (hk : ∀ v n xs, W.ownsRow B 9 1 v n xs → W'.ownsRow B 9 1 v n xs) : TbsIn B W' tb ts :=
  ⟨h.len, fun p hp => ⟨(h.all p hp).nm, hk _ _ _ (h.all p hp).cols, hk _ _ _ (h.all p hp).types, (h.all p hp).rows⟩⟩
theorem TbsIn.add {B : Nat} {W : World} {tb : List Tb3} {ts : List (Bg.Str × Value × Value × Value)} {x : Tb3} {t : Bg.Str × Value × Value × Value} (h : TbsIn B W tb ts) (hx : TbIn B W x t) : TbsIn B W (tb ++ [x]) (ts ++ [t]) := by
  refine ⟨by simp [h.len], fun p hp => ?_⟩
  rw [List.zip_append h.len] at hp
  rcases List.mem_append.1 hp with hp | hp
  · exact h.all p hp
  · simp at hp; rw [hp]; exact hx
/-- the last table's rows are others -/
theorem TbsIn.rows {B : Nat} {W : World} {tb : List Tb3} {ts : List (Bg.Str × Value × Value × Value)} {n : Bg.Str} {c y r : Value} {a' : Option Addr} {n' c' : Nat} (h : TbsIn B W tb (ts ++ [(n, c, y, r)])) : TbsIn B W tb (ts ++ [(n, c, y, .slice a' n' c')]) := by
  have hl := h.len
  have hne : tb ≠ [] := by intro e; rw [e] at hl; simp at hl
  obtain ⟨tb', x, rfl⟩ : ∃ tb' x, tb = tb' ++ [x] := ⟨_, _, (List.dropLast_concat_getLast hne).symm⟩
  have hl' : tb'.length = ts.length := by simpa using hl
  refine ⟨by simp [hl'], fun p hp => ?_⟩
  rw [List.zip_append hl'] at hp
  have ha := h.all
  rw [List.zip_append hl'] at ha
  rcases List.mem_append.1 hp with hp | hp
  · exact ha p (List.mem_append_left _ hp)
  · simp at hp
    have h1 := ha (x, (n, c, y, r)) (List.mem_append_right _ (by simp))
    rw [hp]
    exact ⟨h1.nm, h1.cols, h1.types, a', n', c', rfl⟩
structure RefIn (B : Nat) (st : RSt) (tb : List Tb3) (ov : Value) (W : World) : Prop where
  hB : B ≤ W.heap.size
  n8 : st.names.length ≤ 8
  mem : ∃ ts, W.ownsRow B 46 4 ov st.names.length (tabsCells ts) ∧ ts.map (·.1) = st.names ∧ TbsIn B W tb ts ∧
    match st.last with
    | none => ts = []
    | some (types, rows) => ∃ ts' nm a1 c1 a2 c2 a3 c3 rs, ts = ts' ++ [(nm, .slice a1 types.length c1, .slice a2 types.length c2, .slice a3 rows c3)] ∧
        W.ownsRow B 9 1 (.slice a2 types.length c2) types.length (types.map strV) ∧ W.ownsRow B 50 1 (.slice a3 rows c3) rows rs ∧ rows ≤ 12 ∧ types.length ≤ 6 ∧ 1 ≤ types.length
theorem tabsCells_len (ts : List (Bg.Str × Value × Value × Value)) : (tabsCells ts).length = ts.length * 4 := by
  induction ts with
  | nil => rfl
  | cons t ts ih => show ([strV t.1, t.2.1, t.2.2.1, t.2.2.2] ++ tabsCells ts).length = _; simp [ih]; omega
theorem tabsCells_app (a b : List (Bg.Str × Value × Value × Value)) : tabsCells (a ++ b) = tabsCells a ++ tabsCells b := by unfold tabsCells; rw [List.flatMap_append]
theorem tabsCells_name : ∀ (ts : List (Bg.Str × Value × Value × Value)) (i : Nat) (h : i < ts.length), (tabsCells ts)[i * 4]? = some (strV ts[i].1)
  | t :: ts, 0, _ => rfl
  | t :: ts, i + 1, h => by
    have ih := tabsCells_name ts i (by simpa using h)
    have e : tabsCells (t :: ts) = strV t.1 :: t.2.1 :: t.2.2.1 :: t.2.2.2 :: tabsCells ts := rfl
    rw [e, show (i + 1) * 4 = i * 4 + 4 from by omega]
    simpa using ih
theorem own_names {W : World} {B : Nat} {ov : Value} {ts : List (Bg.Str × Value × Value × Value)} {l : List Bg.Str} (h : W.ownsRow B 46 4 ov l.length (tabsCells ts)) (hn : ts.map (·.1) = l) : viewN W ov l := by
  subst hn
  rcases h.2 with ⟨rfl, h0⟩ | ⟨g, cap, cur, rfl, _⟩
  · have : (ts.map (·.1)) = [] := List.length_eq_zero_iff.1 h0
    rw [this]
    exact ⟨none, 0, rfl, fun i hi => by cases hi⟩
  · refine ⟨some ⟨g, 0, none⟩, cap, rfl, fun i hi => ⟨g, 0, rfl, ?_⟩⟩
    have hi' : i < ts.length := by simpa using hi
    have := h.cells (g := g) rfl (i * 4) _ (tabsCells_name ts i hi')
    rw [Addr.add_lit] at this
    simpa using this
end Go.Proofs.YtfkdfplnhlnnoaaGreatDoor
