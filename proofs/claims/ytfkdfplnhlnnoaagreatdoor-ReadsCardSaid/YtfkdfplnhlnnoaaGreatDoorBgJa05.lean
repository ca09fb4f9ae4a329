import Derived.BigQuiet
import Derived.Deep.AppendLies
import Derived.Deep.DeepCutAuto
import Derived.Deep.OwnRows
import Derived.Deep.QuietTactic
import Derived.Deep.RegionHeld3
import Derived.Deep.RegionLaw
import Derived.Deep.RegionWith
import Derived.Defers
import Derived.Maps.OwnSet
import Derived.OrdersHeld
import Derived.OrdersIn
import Derived.Recover
import Derived.Test.YtfkdfplnhlnnoaaGreatDoorBgJa04
section
namespace Go.Proofs.YtfkdfplnhlnnoaaGreatDoor
open Go.RowKit
set_option linter.unusedSimpArgs false
set_option linter.unusedVariables false
def anyElem (_ : Value) : Option (DataW Unit × List MemPlace) := some (.agg [], [])
def keyL (s : Bg.Str) : Lit := .string s
def keyD (ks : List Bg.Str) : DataW Unit := Maps.setOf (.agg []) (ks.map keyL)
/-- block b is a map of at most n entries whose keys are ks -/
def keyset (w : World) (b n : Nat) (ks : List Bg.Str) : Prop := w.ownsMap Tryz.prog 9 anyElem b n (keyD ks)
theorem strKeyed : Maps.Keyed Tryz.prog 9 := Maps.string_keyed Tryz.underlying9
theorem strKey (s : Bg.Str) (h : s.length ≤ 100000) : keyOf Tryz.prog 9 (.string ⟨s.toArray⟩) = some (keyL s) :=
  WideMaps.keyOf_string_mk Tryz.underlying9 (by rw [Bg.size_mk]; unfold maxLen; omega)
theorem keyL_is (ks : List Bg.Str) : ∀ x ∈ ks.map keyL, WideAt.IsKeyLit x := by
  intro x hx
  obtain ⟨s, _, rfl⟩ := List.mem_map.1 hx
  trivial
theorem has_keys (ks : List Bg.Str) (s : Bg.Str) : Maps.has (keyD ks) (keyL s) = ks.contains s := by
  unfold keyD
  rw [Maps.has_setOf _ _ _ (keyL_is ks), List.any_map, List.contains_eq_any_beq]
  congr 1
  funext x
  show (x == s) = (s == x)
  rw [Bool.eq_iff_iff, beq_iff_eq, beq_iff_eq]; exact eq_comm
theorem put_keys (ks : List Bg.Str) (s : Bg.Str) : (keyD ks).put (keyL s) (.agg []) = keyD (ks ++ [s]) := by
  unfold keyD
  rw [List.map_append, List.map_cons, List.map_nil, Maps.setOf_snoc]
end Go.Proofs.YtfkdfplnhlnnoaaGreatDoor
end
section
namespace Go.Proofs.YtfkdfplnhlnnoaaGreatDoor
open Go.RowKit
/-- the one entry of a panic that is a Fault -/
def thrown (b : Nat) : List PanicEntry := [{ v := .iface 76 (.pointer (some ⟨b, 0, none⟩)), recovered := false }]
set_option maxRecDepth 100000 in
set_option maxHeartbeats 400000 in
theorem throw_any (kind at_ : Int) (w : World) :
    Calls Tryz.prog 44 #[.int .i64 kind, .int .i64 at_] w fun e w' => e = .panicked (thrown w.heap.size) ∧ w.alloc (.cells #[.int .i64 kind, .int .i64 at_] 81) = w' := by
  go_enter Tryz.func44, Tryz.ntmps44
  go_wp2
  exact ⟨rfl, rfl, rfl⟩
/-- the world in which Catch calls the work: two new variables -/
abbrev catchW (w : World) (other : Int) : World := (w.alloc (.cells #[.int .i64 other] 70)).alloc (.cells #[.nilIface] 36)
/-- the fault at b, as an error -/
abbrev faultV (b : Nat) : Value := .iface 76 (.pointer (some ⟨b, 0, none⟩))
end Go.Proofs.YtfkdfplnhlnnoaaGreatDoor
end
section
namespace Go.Proofs.YtfkdfplnhlnnoaaGreatDoor
open Go.RowKit
set_option linter.unusedSimpArgs false
set_option linter.unusedVariables false
theorem zeroKind (w : World) : (zeroValue 135).run Tryz.prog w = .ok (.int .i64 0) w := by kernel_rfl
/-- what isName answers -/
def isNm (kws : List Bg.Str) (s : Bg.Str) : Bool := !kws.contains s && !s.isEmpty && decide (((if 0 < Bg.runs Bg.digits s then 0 else Bg.runs (Bg.letters ++ Bg.digits) s : Nat) : Int) = s.length)
/-- a line's fault: thrown; what lay below n0 lies there still -/
def bad (n0 : Nat) (line : Int) (w : World) (e : Ending) (w' : World) : Prop :=
  ∃ b, e = .panicked (thrown b) ∧ w'.cell? ⟨b, 0, none⟩ = some (.int .i64 1) ∧ w'.cell? ⟨b, 1, none⟩ = some (.int .i64 line) ∧ Below n0 w w'
end Go.Proofs.YtfkdfplnhlnnoaaGreatDoor
end
section
namespace Go.Proofs.YtfkdfplnhlnnoaaGreatDoor
open Go.RowKit
set_option linter.unusedSimpArgs false
set_option linter.unusedVariables false
/-- strconv's two errors lie in their variables -/
structure NumVars (w : World) : Prop where
  syn : ∃ tp p, w.var? Tryz.prog "strconv.ErrSyntax" = some #[.iface tp p]
  rng : ∃ tp p, w.var? Tryz.prog "strconv.ErrRange" = some #[.iface tp p]
theorem globSyn : Tryz.prog.globalNamed "strconv.ErrSyntax" = some 7 := by kernel_rfl
theorem globRng : Tryz.prog.globalNamed "strconv.ErrRange" = some 8 := by kernel_rfl
theorem NumVars.below {n : Nat} {w w' : World} (h : NumVars w) (hB : Below n w w') (hn : 13 ≤ n) : NumVars w' := by
  obtain ⟨⟨a, b, h1⟩, ⟨c, d, h2⟩⟩ := h
  exact ⟨⟨a, b, var?_below hB globSyn (by omega) h1⟩, ⟨c, d, var?_below hB globRng (by omega) h2⟩⟩
/-- strconv.ParseInt(s, 10, 64) by whether there is an error -/
theorem parseInt (s : Bg.Str) (w : World) (hs : s.length ≤ 90000) (hv : NumVars w) :
    Calls Tryz.prog 135 #[.string ⟨s.toArray⟩, .int .i64 10, .int .i64 64] w fun e w' => Below w.heap.size w w' ∧
      ((∃ v, Lib.parseIntB 64 s = .ok v ∧ e = .returned (.tuple #[.int .i64 v, .nilIface])) ∨
       ((∀ v, Lib.parseIntB 64 s ≠ .ok v) ∧ ∃ v t p, e = .returned (.tuple #[.int .i64 v, .iface t p]))) := by
  obtain ⟨⟨a, b, h1⟩, ⟨c, d, h2⟩⟩ := hv
  cases hp : Lib.parseIntB 64 s with
  | ok v =>
    refine (Tryz.strconv_ParseInt_10_at64_ok ⟨s.toArray⟩ (by rw [Bg.size_mk]; omega) v hp w).mono ?_
    rintro e w' ⟨rfl, hw⟩
    refine ⟨?_, .inl ⟨v, rfl, rfl⟩⟩
    rcases hw with rfl | ⟨t, rfl⟩
    · exact Below.refl _ _
    · exact Lib.bytesWorld_below _ _ _
  | «syntax» =>
    refine (Tryz.strconv_ParseInt_10_at64_syntax_var ⟨s.toArray⟩ (by rw [Bg.size_mk]; omega) hp a b w h1).mono ?_
    rintro e w' ⟨N, rfl, _, _, hB⟩
    exact ⟨hB, .inr ⟨(by intro v h; cases h), _, _, _, rfl⟩⟩
  | range =>
    refine (Tryz.strconv_ParseInt_10_at64_range_var ⟨s.toArray⟩ (by rw [Bg.size_mk]; omega) hp c d w h2).mono ?_
    rintro e w' ⟨N, rfl, _, _, hB⟩
    exact ⟨hB, .inr ⟨(by intro v h; cases h), _, _, _, rfl⟩⟩
/-- digits, with a minus ahead or not, that say a number of 64 bits -/
def numOk (s : Bg.Str) : Bool := (match Lib.parseIntB 64 s with | .ok _ => true | _ => false) && decide (Bg.runs Bg.digits (Lib.trimPrefix s [45]) = (Lib.trimPrefix s [45]).length)
/-- is a field a value of its column? (ty: 1: int, 2: text) -/
def valOk (s : Bg.Str) (ty : Int) : Bool := (s == [110, 117, 108, 108]) || (if ty = 1 then numOk s else s.head? == some 39)
/-- what stands ahead of the first c -/
def Bg.till (c : UInt8) (s : Bg.Str) : Bg.Str := s.takeWhile fun x => x ≠ c
/-- how far the first field of s goes (s is not empty and begins with no blank); none: it is none -/
def fieldLen (s : Bg.Str) : Option Nat :=
  if s.head? = some 39 then
    (let n := (Bg.quoted s).2
     if 0 < n ∧ (n = s.length ∨ s[n]? = some 32) then some n else none)
  else some (Bg.till 32 s).length
theorem below_dr {B : Nat} {a w : World} (h : Below B a w) (n : Nat) : Below B a (w.drewN n) := h.trans ⟨rfl, rfl, rfl, Nat.le_refl _, fun _ _ => rfl⟩
end Go.Proofs.YtfkdfplnhlnnoaaGreatDoor
end
section
namespace Go.Proofs.YtfkdfplnhlnnoaaGreatDoor
open Go.RowKit
set_option linter.unusedSimpArgs false
set_option linter.unusedVariables false
namespace Bg
def trimL (s : Str) : Str := Lib.trimLeftB s 32
end Bg
/-- the fields of a line -/
def fieldsN : Nat → Bg.Str → Option (List Bg.Str)
  | 0, _ => some []
  | f + 1, s =>
    match Bg.trimL s with
    | [] => some []
    | c :: r =>
      match fieldLen (c :: r) with
      | none => none
      | some n => (fieldsN f ((c :: r).drop n)).map ((c :: r).take n :: ·)
def fieldsOf (s : Bg.Str) : Option (List Bg.Str) := fieldsN (s.length + 1) s
theorem own_below {w w' : World} {B e size n : Nat} {v : Value} {xs : List Value} (h : w.ownsRow B e size v n xs) (hb : Below w.heap.size w w') : w'.ownsRow B e size v n xs := by
  refine ⟨h.1, ?_⟩
  rcases h.2 with h0 | ⟨g, cap, cur, rfl, hg, hh, r⟩
  · exact .inl h0
  · have hlt : g < w.heap.size := (Array.getElem?_eq_some_iff.1 hh).1
    exact .inr ⟨g, cap, cur, rfl, hg, (hb.block g hlt).trans hh, r⟩
end Go.Proofs.YtfkdfplnhlnnoaaGreatDoor
end
section
namespace Go.Proofs.YtfkdfplnhlnnoaaGreatDoor
open Go.RowKit
set_option linter.unusedSimpArgs false
set_option linter.unusedVariables false
/-- a type's number -/
def tyOf (k : Bg.Str) : Option Int := if k = [105, 110, 116] then some 1 else if k = [116, 101, 120, 116] then some 2 else none
end Go.Proofs.YtfkdfplnhlnnoaaGreatDoor
end
section
namespace Go.Proofs.YtfkdfplnhlnnoaaGreatDoor
open Go.RowKit
set_option linter.unusedSimpArgs false
set_option linter.unusedVariables false
/-- a value: what it is, its number, its text -/
structure RVal where
  kind : Bg.Str
  num : Int
  text : Bg.Str
def RVal.v (x : RVal) : Value := .agg #[.string ⟨x.kind.toArray⟩, .int .i64 x.num, .string ⟨x.text.toArray⟩]
/-- a slice of texts, to be read -/
def viewS (W : World) (v : Value) (l : List Bg.Str) : Prop :=
  ∃ a cap, v = .slice a l.length cap ∧ ∀ i (h : i < l.length), ∃ g o, a = some ⟨g, o, none⟩ ∧ W.cell? ⟨g, o + i, none⟩ = some (strV l[i])
theorem viewS.below {W W' : World} {v : Value} {l : List Bg.Str} (h : viewS W v l) (hB : Below W.heap.size W W') : viewS W' v l := by
  obtain ⟨a, cap, rfl, hc⟩ := h
  refine ⟨a, cap, rfl, fun i hi => ?_⟩
  obtain ⟨g, o, ha, h1⟩ := hc i hi
  exact ⟨g, o, ha, (hB.cell (p := ⟨g, o + i, none⟩) (World.block_lt_of_cell? W _ h1)).trans h1⟩
end Go.Proofs.YtfkdfplnhlnnoaaGreatDoor
end
section
namespace Go.Proofs.YtfkdfplnhlnnoaaGreatDoor
open Go.RowKit
set_option linter.unusedSimpArgs false
set_option linter.unusedVariables false
/-- a number, or where a pointer points -/
def numElem : Value → Option (DataW Unit × List MemPlace)
  | .int .i64 k => some (.lit (.int .i64 k), [])
  | .pointer (some ⟨b, 0, none⟩) => some (.lit (.int .u64 b), [])
  | .pointer none => some (.agg [], [])
  | _ => none
def nI (k : Int) : DataW Unit := .lit (.int .i64 k)
def nP (b : Nat) : DataW Unit := .lit (.int .u64 b)
def valPut (m : DataW Unit) (x : Bg.Str × DataW Unit) : DataW Unit := m.put (keyL x.1) x.2
def valD (kvs : List (Bg.Str × DataW Unit)) : DataW Unit := kvs.foldl valPut (.map [])
/-- block b is a map of at most n entries: these -/
def valset (w : World) (b n : Nat) (kvs : List (Bg.Str × DataW Unit)) : Prop := w.ownsMap Tryz.prog 9 numElem b n (valD kvs)
theorem valset_block {w w' : World} {b n : Nat} {ks : List (Bg.Str × DataW Unit)} (h : valset w b n ks) (hB : w'.heap[b]? = w.heap[b]?) : valset w' b n ks := by
  obtain ⟨es, clock, hb, r⟩ := h
  exact ⟨es, clock, hB.trans hb, r⟩
theorem valset.obj {w : World} {b n : Nat} {ks : List (Bg.Str × DataW Unit)} (h : valset w b n ks) : ∃ es ck, w.heap[b]? = some (.map es ck) := by
  obtain ⟨es, clock, hb, r⟩ := h
  exact ⟨es, clock, hb⟩
/-- places, counted from 0 -/
def placesOf (l : List Bg.Str) : List (Bg.Str × DataW Unit) := l.zipIdx.map fun p => (p.1, nI p.2)
end Go.Proofs.YtfkdfplnhlnnoaaGreatDoor
end
section
namespace Go.Proofs.YtfkdfplnhlnnoaaGreatDoor
open Go.RowKit
set_option linter.unusedSimpArgs false
set_option linter.unusedVariables false
/-- the last table: its columns' names and types, how many rows it has -/
structure Tab where
  cols : List (Bg.Str × Int)
  rows : Nat
/-- what the reader knows: the tables' names, the last table -/
structure St where
  names : List Bg.Str
  last : Option Tab
  tabs : List (Bg.Str × List (Bg.Str × Int))
def colCells (cs : List (Bg.Str × Int)) : List Value := cs.flatMap fun c => [strV c.1, .int .i64 c.2]
/-- the last table in memory, at or beyond B -/
def tabIn (B : Nat) (W : World) (v : Value) : Option Tab → Prop
  | none => v = .pointer none
  | some t => ∃ T cv pv rv rs, v = .pointer (some ⟨T, 0, none⟩) ∧ B ≤ T ∧ W.heap[T]? = some (.cells #[cv, pv, rv] 189 (0, 0)) ∧
      W.ownsRow B 195 2 cv t.cols.length (colCells t.cols) ∧ W.ownsRow B 197 1 rv t.rows rs ∧ t.cols.length ≤ 6 ∧ t.rows ≤ 12 ∧ 1 ≤ t.cols.length
/-- a table in memory, at or beyond B -/
structure TabM (B : Nat) (W : World) (T : Nat) (cols : List (Bg.Str × Int)) : Prop where
  ge : B ≤ T
  obj : ∃ cv P rv, B ≤ P ∧ W.heap[T]? = some (.cells #[cv, .map (some P), rv] 189 (0, 0)) ∧ W.ownsRow B 195 2 cv cols.length (colCells cols) ∧ valset W P cols.length (placesOf (cols.map (·.1))) ∧ ∃ a n c, rv = .slice a n c
  le : cols.length ≤ 6
  pos : 1 ≤ cols.length
def tabKvs (tl : List (Bg.Str × List (Bg.Str × Int))) (Ts : List Nat) : List (Bg.Str × DataW Unit) := (tl.zip Ts).map fun p => (p.1.1, nP p.2)
/-- all tables in memory, in the map M by their names -/
def TabsM (B : Nat) (W : World) (M : Nat) (names : List Bg.Str) (tl : List (Bg.Str × List (Bg.Str × Int))) : Prop :=
  tl.map (·.1) = names ∧ ∃ Ts : List Nat, tl.length = Ts.length ∧ valset W M tl.length (tabKvs tl Ts) ∧ ∀ p ∈ tl.zip Ts, TabM B W p.2 p.1.2
theorem own_at {W W' : World} {B e sz n : Nat} {v : Value} {xs : List Value} (h : W.ownsRow B e sz v n xs) (hb : ∀ g cu fr, B ≤ g → W.heap[g]? = some (.cells cu e fr) → W'.heap[g]? = some (.cells cu e fr)) : W'.ownsRow B e sz v n xs := by
  refine ⟨h.1, ?_⟩
  rcases h.2 with h0 | ⟨g, cap, cu, rfl, hg, hh, r⟩
  · exact .inl h0
  · exact .inr ⟨g, cap, cu, rfl, hg, hb g _ _ hg hh, r⟩
theorem TabM.typed {B T : Nat} {W W' : World} {cols : List (Bg.Str × Int)} (h : TabM B W T cols) (h1 : ∀ g es ck, B ≤ g → W.heap[g]? = some (.map es ck) → W'.heap[g]? = some (.map es ck)) (h2 : ∀ g cu fr, B ≤ g → W.heap[g]? = some (.cells cu 195 fr) → W'.heap[g]? = some (.cells cu 195 fr))
    (h3 : ∀ g a b c, B ≤ g → W.heap[g]? = some (.cells #[a, b, c] 189 (0, 0)) → ∃ c', W'.heap[g]? = some (.cells #[a, b, c'] 189 (0, 0)) ∧ (c' = c ∨ ∃ x y z, c' = .slice x y z)) : TabM B W' T cols := by
  obtain ⟨cv, P, rv, hP, ho, hc, hp, hr⟩ := h.obj
  obtain ⟨c', ho', hc'⟩ := h3 T _ _ _ h.ge ho
  refine ⟨h.ge, ⟨cv, P, c', hP, ho', own_at hc h2, ?_, ?_⟩, h.le, h.pos⟩
  · obtain ⟨es, ck, hm⟩ := hp.obj
    exact valset_block hp ((h1 P es ck hP hm).trans hm.symm)
  · rcases hc' with rfl | hc'
    · exact hr
    · exact hc'
theorem TabsM.typed {B M : Nat} {W W' : World} {names : List Bg.Str} {tl : List (Bg.Str × List (Bg.Str × Int))} (h : TabsM B W M names tl) (h0 : W'.heap[M]? = W.heap[M]?) (h1 : ∀ g es ck, B ≤ g → W.heap[g]? = some (.map es ck) → W'.heap[g]? = some (.map es ck)) (h2 : ∀ g cu fr, B ≤ g → W.heap[g]? = some (.cells cu 195 fr) → W'.heap[g]? = some (.cells cu 195 fr))
    (h3 : ∀ g a b c, B ≤ g → W.heap[g]? = some (.cells #[a, b, c] 189 (0, 0)) → ∃ c', W'.heap[g]? = some (.cells #[a, b, c'] 189 (0, 0)) ∧ (c' = c ∨ ∃ x y z, c' = .slice x y z)) : TabsM B W' M names tl := by
  obtain ⟨hn, Ts, hl, hv, ht⟩ := h
  exact ⟨hn, Ts, hl, valset_block hv h0, fun p hp => (ht p hp).typed h1 h2 h3⟩
theorem TabsM.keep {B M : Nat} {W W' : World} {names : List Bg.Str} {tl : List (Bg.Str × List (Bg.Str × Int))} (h : TabsM B W M names tl) (h0 : W'.heap[M]? = W.heap[M]?) (hb : ∀ b, b < W.heap.size → B ≤ b → W'.heap[b]? = W.heap[b]?) : TabsM B W' M names tl :=
  have hx : ∀ g o, B ≤ g → W.heap[g]? = some o → W'.heap[g]? = some o := fun g o hg e => (hb g (Array.getElem?_eq_some_iff.1 e).1 hg).trans e
  h.typed h0 (fun g _ _ hg e => hx g _ hg e) (fun g _ _ hg e => hx g _ hg e) (fun g _ _ c hg e => ⟨c, hx g _ hg e, .inl rfl⟩)
/-- the reader in memory -/
structure RInv (B R M Kb : Nat) (kws : List Bg.Str) (line : Int) (st : St) (W : World) : Prop where
  hR : R < B
  hM : M < B
  hK : Kb < B
  hRM : R ≠ M
  hMK : M ≠ Kb
  hRK : R ≠ Kb
  hB : B ≤ W.heap.size
  nd : st.names.Nodup
  names : keyset W M st.names.length st.names
  keys : keyset W Kb 100 kws
  tabs : TabsM B W M st.names st.tabs
  last : ∃ v, W.heap[R]? = some (.cells #[.int .i64 line, .map (some M), v, .map (some Kb)] 108 (0, 0)) ∧ tabIn B W v st.last
theorem cells3 {w : World} {T : Nat} {cv pv rv : Value} {ty : TypeId} (h : w.heap[T]? = some (.cells #[cv, pv, rv] ty (0, 0))) :
    w.cell? ⟨T, 0, none⟩ = some cv ∧ w.cell? ⟨T, 1, none⟩ = some pv ∧ w.cell? ⟨T, 2, none⟩ = some rv ∧ (∀ k, w.frozen? ⟨T, k, none⟩ = false) :=
  ⟨by simp [World.cell?, h], by simp [World.cell?, h], by simp [World.cell?, h], fun k => by simp [World.frozen?, h]⟩
theorem setCell_heap {w : World} {b k : Nat} {u : Value} {cur : Array Value} {e : TypeId} {fr : Nat × Nat} (h : w.heap[b]? = some (.cells cur e fr)) : (w.setCell ⟨b, k, none⟩ u).heap[b]? = some (.cells (cur.setIfInBounds k u) e fr) := by
  simp [World.setCell, Array.getElem?_modify, h]
theorem keyset_block {w w' : World} {b n : Nat} {ks : List Bg.Str} (h : keyset w b n ks) (hB : w'.heap[b]? = w.heap[b]?) : keyset w' b n ks := by
  obtain ⟨es, clock, hb, r⟩ := h
  exact ⟨es, clock, hB.trans hb, r⟩
/-- is a row's every field a value of its column? -/
def rowOk (l : List Bg.Str) (cs : List (Bg.Str × Int)) : Bool := (l.zip cs).all fun x => valOk x.1 x.2.2
end Go.Proofs.YtfkdfplnhlnnoaaGreatDoor
end
section
namespace Go.Proofs.YtfkdfplnhlnnoaaGreatDoor
open Go.RowKit
set_option linter.unusedSimpArgs false
set_option linter.unusedVariables false
def noDef : Op → Bool
  | .defer _ => false
  | _ => true
theorem noDef_ne {o : Op} (h : noDef o = true) : ∀ c, o ≠ .defer c := by
  intro c e; subst e; cases h
section
variable {P : Program} {l n : Nat} {Q : Exit → Act → World → Prop} {ops : Array Oper} {md : Region.Mode}
theorem op_round {o : Oper} {a : Act} {w : World} {K : Act → World → Prop} (hd : noDef o.op = true) (h : o.wp P a w K Q) : o.wpIn (Fence.wide.inRound l) n P a w K Q := by
  refine ⟨fun f _ => trivial, ?_⟩
  rw [Oper.semAt_eq _ _ _ (noDef_ne hd)]
  unfold Oper.wp at h
  generalize (execOp a.eval o).run P w = r at *
  cases r with
  | ok nx w' =>
    cases nx with
    | value v => exact h
    | skip => exact h
    | defer d => exact h
    | enter f args => exact ⟨fun hx => (by cases hx), (callsIn_wide (n := n - 1)).2 h⟩
    | row row args =>
      refine ⟨fun hx => (by cases hx), fun c cs _ => ?_⟩
      obtain ⟨v, w'', r, s⟩ := h c cs
      exact ⟨v, w'', r, stepsIn_wide.2 s⟩
    | _ => exact h.elim
  | halt x w' =>
    cases x with
    | panic v => exact h
    | _ => exact h.elim
/-- the same of a region in its one order -/
theorem wpList_round (hQ : ¬ LetsOut Q) : ∀ (os : List Oper) (a : Act) (w : World), os.all (fun o => noDef o.op) = true → wpList P ops Q os a w → wpListIn (Fence.wide.inRound l) n P ops Q os a w
  | [], _, _, _, h => h
  | o :: rest, a, w, hd, h => by
    rw [List.all_cons, Bool.and_eq_true] at hd
    unfold wpList at h
    unfold wpListIn
    split at h
    · rename_i hw
      rw [if_pos hw]
      rcases h with h | h
      · exact op_round hd.1 (Oper.wp_mono (fun a w => wpList_round hQ rest a w hd.2) h)
      · exact absurd h.2 hQ
    · rename_i hw
      rw [if_neg hw]
      exact ⟨fun f _ => trivial, wpList_round hQ rest _ _ hd.2 h⟩
theorem round_list {id : Nat} {os : List Oper} {a : Act} {w : World} (hnd : os.all (fun o => noDef o.op) = true) (hQ : ¬ LetsOut Q) (h : wpList P os.toArray Q os a w) : (Code.region id os.toArray false).wpIn (Fence.wide.inRound l) n P Q a w :=
  wpIn_region_lit (wpList_round hQ _ _ _ hnd h)
theorem wpB_block {bf : FuncId} {a : Act} {w : World} {id : Nat} {c : Code} (h : wpB bf P c (Exit.inBlock id Q) a w) : wpB bf P (Code.block id c) Q a w := by
  intro b k cs hro hb
  have h0 : (lone (b.atR a (.code (.block id c) :: k)) cs w).fenced P Fence.wide := fenced_calm (n := 0) trivial (wide_room _) rfl
  obtain ⟨e, a₁, w₁, hq, harr⟩ := h b (.inBlock id :: k) cs hro hb
  cases e with
  | normal => exact ⟨.normal, a₁, w₁, hq, .head h0 stepR_block (StepsIn.trans harr (.one (fenced_calm (n := 0) trivial (wide_room _) rfl) stepR_inBlock))⟩
  | exit id' =>
    by_cases hid : id' = id
    · simp only [Exit.inBlock, hid, if_true] at hq
      exact ⟨.normal, a₁, w₁, hq, .head h0 stepR_block (harr.1 k (by simp [exitTo, hid]))⟩
    · simp only [Exit.inBlock, hid, if_false] at hq
      have this : (id == id') = false := by simp; exact fun h => hid h.symm
      have hx : exitTo id' (.inBlock id :: k) = exitTo id' k := by simp [exitTo, this]
      exact ⟨.exit id', a₁, w₁, hq, fun k' hk => .head h0 stepR_block (harr.1 k' (by rw [hx]; exact hk)),
        fun hr' hk => let ⟨k₁, h1, h2⟩ := harr.2 hr' (by rw [hx]; exact hk); ⟨k₁, h1, .head h0 stepR_block h2⟩⟩
  | goto l =>
    have hx : gotoIn l (.inBlock id :: k) = gotoIn l k := by simp [gotoIn]
    exact ⟨_, a₁, w₁, hq, fun k' hk => .head h0 stepR_block (harr.1 k' (by rw [hx]; exact hk)),
      fun hr' hk => let ⟨k₁, h1, h2⟩ := harr.2 hr' (by rw [hx]; exact hk); ⟨k₁, h1, .head h0 stepR_block h2⟩⟩
  | ret => exact ⟨_, a₁, w₁, hq, .of_steps (.one h0 stepR_block) harr⟩
  | panic ch => exact ⟨_, a₁, w₁, hq, .of_steps (.one h0 stepR_block) harr⟩
  | outgrown => exact ⟨_, a₁, w₁, hq, .of_steps (.one h0 stepR_block) harr⟩
end
end Go.Proofs.YtfkdfplnhlnnoaaGreatDoor
end
section
namespace Go.Proofs.YtfkdfplnhlnnoaaGreatDoor
open Go.RowKit
set_option linter.unusedSimpArgs false
set_option linter.unusedVariables false
theorem heap_drewN (A : World) (n : Nat) : (A.drewN n).heap = A.heap := by
  simp
theorem rangeW_low {w : World} {bf : FuncId} {tmps : Array Value} {ps : Array Tmp} {assign body : Code} {b : Nat} (h : b < w.heap.size) : (rangeW w bf tmps ps assign body).heap[b]? = w.heap[b]? :=
  (Below.heap_alloc _ _ b (by simp; omega)).trans (Below.heap_alloc _ _ b h)
theorem rangeW_def (w : World) (bf : FuncId) (tmps : Array Value) (ps : Array Tmp) (assign body : Code) : (rangeW w bf tmps ps assign body).heap[w.heap.size]? = some (.deferred (some [])) :=
  (Below.heap_alloc _ _ w.heap.size (by simp)).trans (heap_alloc_new w _)
theorem rangeW_rec (w : World) (bf : FuncId) (tmps : Array Value) (ps : Array Tmp) (assign body : Code) : (rangeW w bf tmps ps assign body).heap[w.heap.size + 1]? = some (.loop (recOf bf tmps ps assign body w.heap.size .ready)) := by
  have := heap_alloc_new (w.alloc (.deferred (some []))) (.loop (recOf bf tmps ps assign body w.heap.size .ready))
  rw [World.size_alloc] at this
  exact this
/-- the end of a function whose body held one such loop -/
theorem leave_ret {P : Program} {fn : Func} {tmps : Array Value} {R : Ending → World → Prop} {D : Nat} {w : World} {v : Value} (hD : w.heap[D]? = some (.deferred (some []))) (hres : (results fn tmps).run P (w.putObj D (.deferred none)) = .ok v (w.putObj D (.deferred none))) (hR : R (.returned v) (w.putObj D (.deferred none))) :
    bodyPostM Fence.wide 0 P fn R .normal { tmps := tmps, defers := [{ target := .collected D, args := #[] }] } w := by
  show LeavesInM Fence.wide 0 P fn tmps R [{ target := .collected D, args := #[] }] .returning w
  unfold LeavesInM
  refine ⟨by simp, .inl ⟨D, _, rfl, run_takeDeferred hD, ?_⟩⟩
  unfold LeavesInM LeavesIn
  exact ⟨v, hres, hR⟩
/-- the same but for block l -/
structure OffL (l : Nat) (A A' : World) : Prop where
  os : A'.os = A.os
  tape : A'.tape = A.tape
  output : A'.output = A.output
  size : A'.heap.size = A.heap.size
  block : ∀ b, b ≠ l → A'.heap[b]? = A.heap[b]?
theorem OffL.put (l : Nat) (A : World) (o : Obj) : OffL l A (A.putObj l o) := ⟨rfl, rfl, rfl, by simp [World.putObj], fun b hb => World.putObj_heap_other hb⟩
/-- what a round's body must end in -/
def bodyQ (l D : Nat) (rb : Loop) (J : World → Prop) (Jp : List PanicEntry → World → Prop) : Exit → Act → World → Prop
  | .normal, _, w => w.heap[l]? = some (.loop rb) ∧ w.heap[D]? = some (.deferred (some [])) ∧ ∀ A', OffL l w A' → J A'
  | .panic ch, a, w => a.defers = [] ∧ Jp ch w
  | _, _, _ => False
theorem yield_body {P : Program} {l D n : Nat} {r : Loop} {fn : Func} {args : Array Value} {w : World} {J : World → Prop} {Jp : List PanicEntry → World → Prop} (hL : w.heap[l]? = some (.loop r)) (hD : w.heap[D]? = some (.deferred (some []))) (hlD : D ≠ l) (hs : args.size = r.params.size) (hr : r.state = .ready) (hp : r.pending = none) (hfn : P.funcs[r.fn]? = some fn)
    (h : ∀ rb A2, OffL l w A2 → A2.heap[l]? = some (.loop rb) → A2.heap[D]? = some (.deferred (some [])) → r.assign.wpIn (Fence.wide.inRound l) n P (Exit.then (fun a₁ w₁ => w₁ = w ∧ r.body.wpIn (Fence.wide.inRound l) n P (bodyQ l D rb J Jp) a₁ A2) (fun _ _ _ => False)) { tmps := (r.params.zip args).foldl (fun tmps (t, a) => tmps.setIfInBounds t a) r.tmps, defers := [] } w) :
    YieldAt Fence.wide n P l args w fun e W' => (e = .returned (.bool true) ∧ J W' ∧ W'.heap[l]? = some (.loop r) ∧ W'.heap[D]? = some (.deferred (some []))) ∨ (∃ ch, e = .panicked ch ∧ Jp ch W') := by
  refine ⟨r.fn, _, r.assign, r.body, run_yield hL hs, roundIn_p trivial hfn ?_⟩
  have hl : l < w.heap.size := (Array.getElem?_eq_some_iff.1 hL).1
  refine Code.wpIn_mono ?_ (h { r with state := .busy } (w.putObj l (.loop { r with state := .busy })) (OffL.put ..) (World.putObj_heap_same hl) ((World.putObj_heap_other hlD).trans hD))
  intro e a1 w1 hq
  cases e with
  | normal =>
    obtain ⟨rfl, hb⟩ := hq
    refine ⟨_, run_beginRound hL hr, Code.wpIn_mono ?_ hb⟩
    intro e a2 w2 hq2
    cases e with
    | normal =>
      obtain ⟨h1, h2, h3⟩ := hq2
      have hlt : l < w2.heap.size := (Array.getElem?_eq_some_iff.1 h1).1
      refine ⟨_, _, run_endRound none h1, .inl ⟨rfl, h3 _ (OffL.put ..), ?_, ?_⟩⟩
      · rw [World.putObj_heap_same hlt]
        cases r; simp only at hr hp; subst hr; subst hp; rfl
      · rw [World.putObj_heap_other hlD]; exact h2
    | panic ch => exact ⟨hq2.1, .inr ⟨ch, rfl, hq2.2⟩⟩
    | _ => exact hq2.elim
  | _ => exact hq.elim
end Go.Proofs.YtfkdfplnhlnnoaaGreatDoor
end
section
namespace Go.Proofs.YtfkdfplnhlnnoaaGreatDoor
open Go.RowKit
set_option linter.unusedSimpArgs false
set_option linter.unusedVariables false
theorem viewS.drew {W : World} {v : Value} {l : List Bg.Str} (h : viewS W v l) (n : Nat) : viewS (W.drewN n) v l := by
  obtain ⟨a, cap, rfl, hc⟩ := h
  exact ⟨a, cap, rfl, fun i hi => by obtain ⟨g, o, ha, h1⟩ := hc i hi; exact ⟨g, o, ha, h1⟩⟩
theorem cells4 {w : World} {T : Nat} {a b c d : Value} {ty : TypeId} (h : w.heap[T]? = some (.cells #[a, b, c, d] ty (0, 0))) :
    w.cell? ⟨T, 0, none⟩ = some a ∧ w.cell? ⟨T, 1, none⟩ = some b ∧ w.cell? ⟨T, 2, none⟩ = some c ∧ w.cell? ⟨T, 3, none⟩ = some d ∧ (∀ k, w.frozen? ⟨T, k, none⟩ = false) :=
  ⟨by simp [World.cell?, h], by simp [World.cell?, h], by simp [World.cell?, h], by simp [World.cell?, h], fun k => by simp [World.frozen?, h]⟩
/-- the columns' names and types behind a table's name -/
def pairsOf : List Bg.Str → List (Bg.Str × Bg.Str)
  | n :: t :: r => (n, t) :: pairsOf r
  | _ => []
end Go.Proofs.YtfkdfplnhlnnoaaGreatDoor
end
section
namespace Go.Proofs.YtfkdfplnhlnnoaaGreatDoor
open Go.RowKit
set_option linter.unusedSimpArgs false
set_option linter.unusedVariables false
namespace Bg
end Bg
def sTable : Bg.Str := [116, 97, 98, 108, 101]
def sRow : Bg.Str := [114, 111, 119]
/-- a table's name, columns and types -/
abbrev Tb3 := Bg.Str × List Bg.Str × List Bg.Str
/-- a table in memory -/
structure TbIn (B : Nat) (W : World) (x : Tb3) (t : Bg.Str × Value × Value × Value) : Prop where
  nm : t.1 = x.1
  cols : W.ownsRow B 9 1 t.2.1 x.2.1.length (x.2.1.map strV)
  types : W.ownsRow B 9 1 t.2.2.1 x.2.2.length (x.2.2.map strV)
  rows : ∃ a n c, t.2.2.2 = .slice a n c
structure TbsIn (B : Nat) (W : World) (tb : List Tb3) (ts : List (Bg.Str × Value × Value × Value)) : Prop where
  len : tb.length = ts.length
  all : ∀ p ∈ tb.zip ts, TbIn B W p.1 p.2
theorem TbsIn.mono {B : Nat} {W W' : World} {tb : List Tb3} {ts : List (Bg.Str × Value × Value × Value)} (h : TbsIn B W tb ts) (hk : ∀ v n xs, W.ownsRow B 9 1 v n xs → W'.ownsRow B 9 1 v n xs) : TbsIn B W' tb ts :=
  ⟨h.len, fun p hp => ⟨(h.all p hp).nm, hk _ _ _ (h.all p hp).cols, hk _ _ _ (h.all p hp).types, (h.all p hp).rows⟩⟩
theorem TbsIn.add {B : Nat} {W : World} {tb : List Tb3} {ts : List (Bg.Str × Value × Value × Value)} {x : Tb3} {t : Bg.Str × Value × Value × Value} (h : TbsIn B W tb ts) (hx : TbIn B W x t) : TbsIn B W (tb ++ [x]) (ts ++ [t]) := by
  refine ⟨by simp [h.len], fun p hp => ?_⟩
  rw [List.zip_append h.len] at hp
  rcases List.mem_append.1 hp with hp | hp
  · exact h.all p hp
  · simp at hp; rw [hp]; exact hx
/-- the last table's rows are others -/
theorem TbsIn.rows {B : Nat} {W : World} {tb : List Tb3} {ts : List (Bg.Str × Value × Value × Value)} {n : Bg.Str} {c y r : Value} {a' : Option Addr} {n' c' : Nat} (h : TbsIn B W tb (ts ++ [(n, c, y, r)])) : TbsIn B W tb (ts ++ [(n, c, y, .slice a' n' c')]) := by
  have hl := h.len
  have hne : tb ≠ [] := by intro e; rw [e] at hl; simp at hl
  obtain ⟨tb', x, rfl⟩ : ∃ tb' x, tb = tb' ++ [x] := ⟨_, _, (List.dropLast_concat_getLast hne).symm⟩
  have hl' : tb'.length = ts.length := by simpa using hl
  refine ⟨by simp [hl'], fun p hp => ?_⟩
  rw [List.zip_append hl'] at hp
  have ha := h.all
  rw [List.zip_append hl'] at ha
  rcases List.mem_append.1 hp with hp | hp
  · exact ha p (List.mem_append_left _ hp)
  · simp at hp
    have h1 := ha (x, (n, c, y, r)) (List.mem_append_right _ (by simp))
    rw [hp]
    exact ⟨h1.nm, h1.cols, h1.types, a', n', c', rfl⟩
end Go.Proofs.YtfkdfplnhlnnoaaGreatDoor
end
section
namespace Go.Proofs.YtfkdfplnhlnnoaaGreatDoor
open Go.RowKit Go.Shelf
set_option linter.unusedSimpArgs false
set_option linter.unusedVariables false
attribute [local go_sem] Oper.semAt_some
def lenOk (n : Nat) : Bool := decide (3 ≤ n ∧ n % 2 = 1 ∧ n ≤ 13)
end Go.Proofs.YtfkdfplnhlnnoaaGreatDoor
end
section
namespace Go.Proofs.YtfkdfplnhlnnoaaGreatDoor
open Go.RowKit
theorem tk {P : Program} {ops : Array Oper} {Q : Exit → Act → World → Prop} {md : Region.Mode} {S : World → Prop} (i : Nat) {oi : Oper} {v : Value} {fuel : Nat} {listed l' : Array Bool} {a a' : Act} {w : World}
    (h : wpAnyH P md ops Q S fuel l' a' w)
    (hi : ops[i]? = some oi := by rfl)
    (hs : Region.noSelect ops = true := by kernel_rfl) (hf : Region.free md ops listed i = true := by kernel_rfl) (hr : (Region.ready md ops listed).contains i = true := by kernel_rfl)
    (hQ : ∀ c a w, Q (.panic c) (a.put oi.dst v) w → Q (.panic c) a w := by exact fun _ _ _ h => h)
    (hw : Region.wanted oi (yielded ops a.tmps) = true := by rfl)
    (hy : ∀ w, S w → (execOp a.eval oi).run P w = .ok (.value v) w := by intro w hSw; (try dsimp only at hSw); go_simp <;> with_reducible rfl)
    (hS : S w := by assumption)
    (hl : listed.setIfInBounds i true = l' := by (try simp only [List.setIfInBounds_toArray, List.set_cons_zero, List.set_cons_succ]); try rfl)
    (ha : a.put oi.dst v = a' := by (try simp only [Act.put, List.setIfInBounds_toArray, List.set_cons_zero, List.set_cons_succ, List.getElem_toArray, List.getElem_cons_zero, List.getElem_cons_succ]); try rfl) :
    wpAnyH P md ops Q S (fuel + 1) listed a w := by
  subst hl ha
  exact wpAnyH_take hi hs hf hr hQ (.inl ⟨hw, hy⟩) hS h
end Go.Proofs.YtfkdfplnhlnnoaaGreatDoor
end
section
namespace Go.Proofs.YtfkdfplnhlnnoaaGreatDoor
open Go.RowKit Go.Shelf
set_option linter.unusedSimpArgs false
set_option linter.unusedVariables false
def nameOk (kws : List Bg.Str) (st : St) (x : Bg.Str) : Bool := isNm kws x && !st.names.contains x && decide (st.names.length < 8)
end Go.Proofs.YtfkdfplnhlnnoaaGreatDoor
end
section
namespace Go.Proofs.YtfkdfplnhlnnoaaGreatDoor
open Go.RowKit
set_option linter.unusedSimpArgs false
set_option linter.unusedVariables false
namespace Bg
/-- what digits say -/
def val (acc : Nat) (s : Str) : Nat := s.foldl (fun a c => a * 10 + (c.toNat - 48)) acc
theorem val_nil (acc : Nat) : val acc [] = acc := by unfold val; rw [List.foldl_nil]
theorem val_cons (acc : Nat) (c : UInt8) (r : Str) : val acc (c :: r) = val (acc * 10 + (c.toNat - 48)) r := by unfold val; rw [List.foldl_cons]
theorem val_ge (s : Str) : ∀ (acc : Nat), acc ≤ val acc s := by
  induction s with
  | nil => intro acc; rw [val_nil]; exact Nat.le_refl _
  | cons c r ih => intro acc; have := ih (acc * 10 + (c.toNat - 48)); rw [val_cons]; omega
def allDig : Str → Prop
  | [] => True
  | c :: r => (48 ≤ c.toNat ∧ c.toNat ≤ 57) ∧ allDig r
theorem allDig_of {s : Str} (h : runs digits s = s.length) : allDig s := by
  induction s with
  | nil => trivial
  | cons c r ih =>
    rw [runs_cons] at h
    by_cases hc : digits.contains c = true
    · rw [if_pos hc] at h
      exact ⟨digit_of hc, ih (by simpa using h)⟩
    · rw [if_neg hc] at h; simp at h
theorem negNum_val (s : Str) : ∀ (acc : Nat), allDig s → acc ≤ 9223372036854775808 → negNum (-(acc : Int)) s = if val acc s ≤ 9223372036854775808 then some (-(val acc s : Int)) else none := by
  induction s with
  | nil => intro acc _ h; rw [negNum, val_nil, if_pos h]
  | cons c r ih =>
    intro acc hd h
    obtain ⟨⟨h0, h9⟩, hr⟩ := hd
    rw [negNum_cons, val_cons]
    have e := tdiv_lo ((c.toNat : Int) - 48) (by omega) (by omega)
    rw [e]
    have hge := val_ge r (acc * 10 + (c.toNat - 48))
    by_cases hlt : -(acc : Int) < -((9223372036854775808 - ((c.toNat : Int) - 48)) / 10)
    · rw [if_pos hlt, if_neg (by omega)]
    · rw [if_neg hlt]
      have hn := ih (acc * 10 + (c.toNat - 48)) hr (by omega)
      rw [← hn]
      congr 1
      omega
theorem uint_val (s : Str) : ∀ (acc : Nat), allDig s → acc ≤ 18446744073709551615 → Lib.parseUintM 18446744073709551615 acc s = if val acc s ≤ 18446744073709551615 then .ok (val acc s) else .range := by
  induction s with
  | nil => intro acc _ h; rw [Lib.parseUintM, val_nil, if_pos h]
  | cons c r ih =>
    intro acc hd h
    obtain ⟨⟨h0, h9⟩, hr⟩ := hd
    have hge := val_ge r (acc * 10 + (c.toNat - 48))
    rw [Lib.parseUintM, val_cons, if_pos ⟨h0, h9⟩]
    by_cases h1 : 1844674407370955162 ≤ acc
    · rw [if_pos h1, if_neg (by omega)]
    · rw [if_neg h1]
      by_cases h2 : 18446744073709551615 < acc * 10 + (c.toNat - 48)
      · rw [if_pos h2, if_neg (by omega)]
      · rw [if_neg h2]
        exact ih _ hr (by omega)
theorem number_ok {d : Str} (hd : allDig d) (neg : Bool) : (number d neg).2 = decide (val 0 d < 9223372036854775808 ∨ (neg = true ∧ val 0 d = 9223372036854775808)) := by
  have h := negNum_val d 0 hd (by omega)
  rw [show -((0 : Nat) : Int) = 0 from rfl] at h
  by_cases hv : val 0 d ≤ 9223372036854775808
  · rw [if_pos hv] at h
    cases neg
    · rw [number_pos h, Bool.eq_iff_iff]; simp only [decide_eq_true_eq, Bool.false_eq_true, false_and, or_false]; omega
    · rw [number_neg h]; symm; apply decide_eq_true; simp only [true_and]; omega
  · rw [if_neg hv] at h
    rw [number_none neg h]; simp; omega
theorem dig_not {c : UInt8} (h : 48 ≤ c.toNat) : c ≠ 45 ∧ c ≠ 43 ∧ c ≠ 39 := by
  refine ⟨?_, ?_, ?_⟩ <;> (intro e; subst e; revert h; decide)
end Bg
/-- the keywords -/
def kwText : Bg.Str := [115, 101, 108, 101, 99, 116, 32, 100, 105, 115, 116, 105, 110, 99, 116, 32, 102, 114, 111, 109, 32, 119, 104, 101, 114, 101, 32, 103, 114, 111, 117, 112, 32, 98, 121, 32, 104, 97, 118, 105, 110, 103, 32, 97, 115, 32, 117, 110, 105, 111, 110, 32, 105, 110, 116, 101, 114, 115, 101, 99, 116, 32, 101, 120, 99, 101, 112, 116, 32, 97, 108, 108, 32, 97, 110, 121, 32, 97, 110, 100, 32, 111, 114, 32, 110, 111, 116, 32, 101, 120, 105, 115, 116, 115, 32, 105, 110, 32, 105, 115, 32, 110, 117, 108, 108, 32, 99, 111, 117, 110, 116, 32, 115, 117, 109, 32, 109, 105, 110, 32, 109, 97, 120]
def splitB (cur : Bg.Str) : Bg.Str → List Bg.Str
  | [] => [cur]
  | c :: r => if c = 32 then cur :: splitB [] r else splitB (cur ++ [c]) r
def kwsAll : List Bg.Str := splitB [] kwText
theorem tw_app (s r : Bg.Str) (h : (32 : UInt8) ∉ s) : (s ++ 32 :: r).takeWhile (fun c => c != 32) = s := by
  induction s with
  | nil => rfl
  | cons c s ih =>
    have hc : c ≠ 32 := fun e => h (by rw [e]; simp)
    rw [List.cons_append, List.takeWhile_cons, if_pos (by simpa using hc), ih (fun e => h (List.mem_cons_of_mem _ e))]
theorem key_chk1 : ((List.range 124).all fun i => (Bg.reserved.drop i).head? != some 32 || kwsAll.contains ((Bg.reserved.drop (i + 1)).takeWhile fun c => c != 32)) = true := by decide +kernel
theorem key_chk2 : (kwsAll.all Bg.isKey) = true := by decide +kernel
theorem key_kws (s : Bg.Str) (h : (32 : UInt8) ∉ s) : kwsAll.contains s = Bg.isKey s := by
  rw [Bool.eq_iff_iff]
  constructor
  · intro h1
    exact List.all_eq_true.1 key_chk2 s (by simpa using h1)
  · intro h1
    unfold Bg.isKey Bg.occ at h1
    obtain ⟨i, hi, he⟩ := List.any_eq_true.1 h1
    rw [List.mem_range] at hi
    have hl : Bg.reserved.length = 125 := rfl
    rw [hl] at hi
    simp only [List.length_cons, List.length_append, List.length_nil] at hi
    have he2 : (Bg.reserved.drop i).take (s.length + 2) = 32 :: (s ++ [32]) := by
      have := eq_of_beq he
      simpa using this
    have hd : Bg.reserved.drop i = 32 :: (s ++ [32]) ++ (Bg.reserved.drop i).drop (s.length + 2) := by rw [← he2, List.take_append_drop]
    have hd1 : Bg.reserved.drop (i + 1) = s ++ 32 :: (Bg.reserved.drop i).drop (s.length + 2) := by
      have : Bg.reserved.drop (i + 1) = (Bg.reserved.drop i).drop 1 := by rw [List.drop_drop]
      rw [this]
      conv => lhs; rw [hd]
      simp
    have hc := List.all_eq_true.1 key_chk1 i (by rw [List.mem_range]; omega)
    rw [hd1, tw_app _ _ h, hd] at hc
    simpa using hc
/-- a column's name and type -/
def pairOk (kws : List Bg.Str) (p : Bg.Str × Bg.Str) : Bool := (tyOf p.2).isSome && isNm kws p.1
def colsOf (ps : List (Bg.Str × Bg.Str)) : List (Bg.Str × Int) := ps.map fun p => (p.1, (tyOf p.2).getD 0)
abbrev tabOk (kws : List Bg.Str) (st : St) (ps : List Bg.Str) : Prop :=
  lenOk ps.length = true ∧ nameOk kws st (ps.getD 0 []) = true ∧ (pairsOf (ps.drop 1)).all (pairOk kws) = true ∧ ((pairsOf (ps.drop 1)).map (·.1)).Nodup
/-- a line of at least one field, as the program reads it -/
def codePieces (kws : List Bg.Str) (st : St) (p : Bg.Str) (ps : List Bg.Str) : Option St :=
  if p = sTable then
    if tabOk kws st ps then some ⟨st.names ++ [ps.getD 0 []], some ⟨colsOf (pairsOf (ps.drop 1)), 0⟩, st.tabs ++ [(ps.getD 0 [], colsOf (pairsOf (ps.drop 1)))]⟩ else none
  else if p = sRow then
    match st.last with
    | none => none
    | some t => if (ps.length = t.cols.length ∧ t.rows ≠ 12) ∧ rowOk ps t.cols = true then some ⟨st.names, some ⟨t.cols, t.rows + 1⟩, st.tabs⟩ else none
  else none
def codeStep (kws : List Bg.Str) (st : St) (x : Bg.Str) : Option St :=
  match fieldsOf x with
  | none => none
  | some [] => some st
  | some (p :: ps) => codePieces kws st p ps
end Go.Proofs.YtfkdfplnhlnnoaaGreatDoor
end
