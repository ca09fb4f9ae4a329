import Derived.BigQuiet
import Derived.Deep.OwnRows
import Derived.Deep.QuietTactic
import Derived.Deep.RegionHeld3
import Derived.Defers
import Derived.Maps.OwnSet
import Derived.OrdersIn
import Derived.Recover
import Derived.Test.YtamfmffdgidmgaaGreatDoorBgJa04
section
namespace Go.Proofs.YtamfmffdgidmgaaGreatDoor
open Go.RowKit
set_option linter.unusedSimpArgs false
set_option linter.unusedVariables false
def anyElem (_ : Value) : Option (DataW Unit × List MemPlace) := some (.agg [], [])
def keyL (s : Bg.Str) : Lit := .string s
def keyD (ks : List Bg.Str) : DataW Unit := Maps.setOf (.agg []) (ks.map keyL)
/-- block b is a map of at most n entries whose keys are ks -/
def keyset (w : World) (b n : Nat) (ks : List Bg.Str) : Prop := w.ownsMap Tryz.prog 9 anyElem b n (keyD ks)
theorem strKeyed : Maps.Keyed Tryz.prog 9 := Maps.string_keyed Tryz.underlying9
theorem strKey (s : Bg.Str) (h : s.length ≤ 100000) : keyOf Tryz.prog 9 (.string ⟨s.toArray⟩) = some (keyL s) :=
  WideMaps.keyOf_string_mk Tryz.underlying9 (by rw [Bg.size_mk]; unfold maxLen; omega)
theorem keyL_is (ks : List Bg.Str) : ∀ x ∈ ks.map keyL, WideAt.IsKeyLit x := by
  intro x hx
  obtain ⟨s, _, rfl⟩ := List.mem_map.1 hx
  trivial
theorem has_keys (ks : List Bg.Str) (s : Bg.Str) : Maps.has (keyD ks) (keyL s) = ks.contains s := by
  unfold keyD
  rw [Maps.has_setOf _ _ _ (keyL_is ks), List.any_map, List.contains_eq_any_beq]
  congr 1
  funext x
  show (x == s) = (s == x)
  rw [Bool.eq_iff_iff, beq_iff_eq, beq_iff_eq]; exact eq_comm
theorem put_keys (ks : List Bg.Str) (s : Bg.Str) : (keyD ks).put (keyL s) (.agg []) = keyD (ks ++ [s]) := by
  unfold keyD
  rw [List.map_append, List.map_cons, List.map_nil, Maps.setOf_snoc]
end Go.Proofs.YtamfmffdgidmgaaGreatDoor
end
section
namespace Go.Proofs.YtamfmffdgidmgaaGreatDoor
open Go.RowKit
/-- the one entry of a panic that is a Fault -/
def thrown (b : Nat) : List PanicEntry := [{ v := .iface 85 (.pointer (some ⟨b, 0, none⟩)), recovered := false }]
set_option maxRecDepth 100000 in
set_option maxHeartbeats 400000 in
theorem throw_any (kind at_ : Int) (w : World) :
    Calls Tryz.prog 62 #[.int .i64 kind, .int .i64 at_] w fun e w' => e = .panicked (thrown w.heap.size) ∧ w.alloc (.cells #[.int .i64 kind, .int .i64 at_] 90) = w' := by
  go_enter Tryz.func62, Tryz.ntmps62
  go_wp2
  exact ⟨rfl, rfl, rfl⟩
/-- the world in which Catch calls the work: two new variables -/
abbrev catchW (w : World) (other : Int) : World := (w.alloc (.cells #[.int .i64 other] 79)).alloc (.cells #[.nilIface] 40)
/-- the fault at b, as an error -/
abbrev faultV (b : Nat) : Value := .iface 85 (.pointer (some ⟨b, 0, none⟩))
end Go.Proofs.YtamfmffdgidmgaaGreatDoor
end
section
namespace Go.Proofs.YtamfmffdgidmgaaGreatDoor
open Go.RowKit
set_option linter.unusedSimpArgs false
set_option linter.unusedVariables false
theorem zeroKind (w : World) : (zeroValue 158).run Tryz.prog w = .ok (.int .i64 0) w := by kernel_rfl
/-- what isName answers -/
def isNm (kws : List Bg.Str) (s : Bg.Str) : Bool := !kws.contains s && !s.isEmpty && decide (((if 0 < Bg.runs Bg.digits s then 0 else Bg.runs (Bg.letters ++ Bg.digits) s : Nat) : Int) = s.length)
/-- a line's fault: thrown; what lay below n0 lies there still -/
def bad (n0 : Nat) (line : Int) (w : World) (e : Ending) (w' : World) : Prop :=
  ∃ b, e = .panicked (thrown b) ∧ w'.cell? ⟨b, 0, none⟩ = some (.int .i64 1) ∧ w'.cell? ⟨b, 1, none⟩ = some (.int .i64 line) ∧ Below n0 w w'
end Go.Proofs.YtamfmffdgidmgaaGreatDoor
end
section
namespace Go.Proofs.YtamfmffdgidmgaaGreatDoor
open Go.RowKit
set_option linter.unusedSimpArgs false
set_option linter.unusedVariables false
/-- strconv's two errors lie in their variables -/
structure NumVars (w : World) : Prop where
  syn : ∃ tp p, w.var? Tryz.prog "strconv.ErrSyntax" = some #[.iface tp p]
  rng : ∃ tp p, w.var? Tryz.prog "strconv.ErrRange" = some #[.iface tp p]
theorem globSyn : Tryz.prog.globalNamed "strconv.ErrSyntax" = some 8 := by kernel_rfl
theorem globRng : Tryz.prog.globalNamed "strconv.ErrRange" = some 9 := by kernel_rfl
theorem NumVars.below {n : Nat} {w w' : World} (h : NumVars w) (hB : Below n w w') (hn : 13 ≤ n) : NumVars w' := by
  obtain ⟨⟨a, b, h1⟩, ⟨c, d, h2⟩⟩ := h
  exact ⟨⟨a, b, var?_below hB globSyn (by omega) h1⟩, ⟨c, d, var?_below hB globRng (by omega) h2⟩⟩
/-- strconv.ParseInt(s, 10, 64) by whether there is an error -/
theorem parseInt (s : Bg.Str) (w : World) (hs : s.length ≤ 90000) (hv : NumVars w) :
    Calls Tryz.prog 196 #[.string ⟨s.toArray⟩, .int .i64 10, .int .i64 64] w fun e w' => Below w.heap.size w w' ∧
      ((∃ v, Lib.parseIntB 64 s = .ok v ∧ e = .returned (.tuple #[.int .i64 v, .nilIface])) ∨
       ((∀ v, Lib.parseIntB 64 s ≠ .ok v) ∧ ∃ v t p, e = .returned (.tuple #[.int .i64 v, .iface t p]))) := by
  obtain ⟨⟨a, b, h1⟩, ⟨c, d, h2⟩⟩ := hv
  cases hp : Lib.parseIntB 64 s with
  | ok v =>
    refine (Tryz.strconv_ParseInt_10_at64_ok ⟨s.toArray⟩ (by rw [Bg.size_mk]; omega) v hp w).mono ?_
    rintro e w' ⟨rfl, hw⟩
    refine ⟨?_, .inl ⟨v, rfl, rfl⟩⟩
    rcases hw with rfl | ⟨t, rfl⟩
    · exact Below.refl _ _
    · exact Lib.bytesWorld_below _ _ _
  | «syntax» =>
    refine (Tryz.strconv_ParseInt_10_at64_syntax_var ⟨s.toArray⟩ (by rw [Bg.size_mk]; omega) hp a b w h1).mono ?_
    rintro e w' ⟨N, rfl, _, _, hB⟩
    exact ⟨hB, .inr ⟨(by intro v h; cases h), _, _, _, rfl⟩⟩
  | range =>
    refine (Tryz.strconv_ParseInt_10_at64_range_var ⟨s.toArray⟩ (by rw [Bg.size_mk]; omega) hp c d w h2).mono ?_
    rintro e w' ⟨N, rfl, _, _, hB⟩
    exact ⟨hB, .inr ⟨(by intro v h; cases h), _, _, _, rfl⟩⟩
theorem below_dr {B : Nat} {a w : World} (h : Below B a w) (n : Nat) : Below B a (w.drewN n) := h.trans ⟨rfl, rfl, rfl, Nat.le_refl _, fun _ _ => rfl⟩
end Go.Proofs.YtamfmffdgidmgaaGreatDoor
end
section
namespace Go.Proofs.YtamfmffdgidmgaaGreatDoor
open Go.RowKit
set_option linter.unusedSimpArgs false
set_option linter.unusedVariables false
namespace Bg
end Bg
theorem own_below {w w' : World} {B e size n : Nat} {v : Value} {xs : List Value} (h : w.ownsRow B e size v n xs) (hb : Below w.heap.size w w') : w'.ownsRow B e size v n xs := by
  refine ⟨h.1, ?_⟩
  rcases h.2 with h0 | ⟨g, cap, cur, rfl, hg, hh, r⟩
  · exact .inl h0
  · have hlt : g < w.heap.size := (Array.getElem?_eq_some_iff.1 hh).1
    exact .inr ⟨g, cap, cur, rfl, hg, (hb.block g hlt).trans hh, r⟩
end Go.Proofs.YtamfmffdgidmgaaGreatDoor
end
section
namespace Go.Proofs.YtamfmffdgidmgaaGreatDoor
open Go.RowKit
set_option linter.unusedSimpArgs false
set_option linter.unusedVariables false
/-- a type's number -/
def tyOf (k : Bg.Str) : Option Int := if k = [105, 110, 116] then some 1 else if k = [116, 101, 120, 116] then some 2 else none
end Go.Proofs.YtamfmffdgidmgaaGreatDoor
end
section
namespace Go.Proofs.YtamfmffdgidmgaaGreatDoor
open Go.RowKit
set_option linter.unusedSimpArgs false
set_option linter.unusedVariables false
/-- a value: what it is, its number, its text -/
structure RVal where
  kind : Bg.Str
  num : Int
  text : Bg.Str
def RVal.v (x : RVal) : Value := .agg #[.string ⟨x.kind.toArray⟩, .int .i64 x.num, .string ⟨x.text.toArray⟩]
/-- a slice of texts, to be read -/
def viewS (W : World) (v : Value) (l : List Bg.Str) : Prop :=
  ∃ a cap, v = .slice a l.length cap ∧ ∀ i (h : i < l.length), ∃ g o, a = some ⟨g, o, none⟩ ∧ W.cell? ⟨g, o + i, none⟩ = some (strV l[i])
theorem viewS.below {W W' : World} {v : Value} {l : List Bg.Str} (h : viewS W v l) (hB : Below W.heap.size W W') : viewS W' v l := by
  obtain ⟨a, cap, rfl, hc⟩ := h
  refine ⟨a, cap, rfl, fun i hi => ?_⟩
  obtain ⟨g, o, ha, h1⟩ := hc i hi
  exact ⟨g, o, ha, (hB.cell (p := ⟨g, o + i, none⟩) (World.block_lt_of_cell? W _ h1)).trans h1⟩
end Go.Proofs.YtamfmffdgidmgaaGreatDoor
end
section
namespace Go.Proofs.YtamfmffdgidmgaaGreatDoor
open Go.RowKit
set_option linter.unusedSimpArgs false
set_option linter.unusedVariables false
/-- the last table: its columns' names and types, how many rows it has -/
structure Tab where
  cols : List (Bg.Str × Int)
  rows : Nat
/-- what the reader knows: the tables' names, the last table -/
structure St where
  names : List Bg.Str
  last : Option Tab
def colCells (cs : List (Bg.Str × Int)) : List Value := cs.flatMap fun c => [strV c.1, .int .i64 c.2]
/-- the last table in memory, at or beyond B -/
def tabIn (B : Nat) (W : World) (v : Value) : Option Tab → Prop
  | none => v = .pointer none
  | some t => ∃ T cv pv rv rs, v = .pointer (some ⟨T, 0, none⟩) ∧ B ≤ T ∧ W.heap[T]? = some (.cells #[cv, pv, rv] 256 (0, 0)) ∧
      W.ownsRow B 262 2 cv t.cols.length (colCells t.cols) ∧ W.ownsRow B 168 1 rv t.rows rs ∧ t.cols.length ≤ 6 ∧ t.rows ≤ 12 ∧ 1 ≤ t.cols.length
/-- the reader in memory -/
structure RInv (B R M Kb : Nat) (kws : List Bg.Str) (line : Int) (st : St) (W : World) : Prop where
  hR : R < B
  hM : M < B
  hK : Kb < B
  hRM : R ≠ M
  hMK : M ≠ Kb
  hRK : R ≠ Kb
  hB : B ≤ W.heap.size
  nd : st.names.Nodup
  names : keyset W M st.names.length st.names
  keys : keyset W Kb 100 kws
  last : ∃ v, W.heap[R]? = some (.cells #[.int .i64 line, .map (some M), v, .map (some Kb)] 132 (0, 0)) ∧ tabIn B W v st.last
theorem cells3 {w : World} {T : Nat} {cv pv rv : Value} {ty : TypeId} (h : w.heap[T]? = some (.cells #[cv, pv, rv] ty (0, 0))) :
    w.cell? ⟨T, 0, none⟩ = some cv ∧ w.cell? ⟨T, 1, none⟩ = some pv ∧ w.cell? ⟨T, 2, none⟩ = some rv ∧ (∀ k, w.frozen? ⟨T, k, none⟩ = false) :=
  ⟨by simp [World.cell?, h], by simp [World.cell?, h], by simp [World.cell?, h], fun k => by simp [World.frozen?, h]⟩
theorem setCell_heap {w : World} {b k : Nat} {u : Value} {cur : Array Value} {e : TypeId} {fr : Nat × Nat} (h : w.heap[b]? = some (.cells cur e fr)) : (w.setCell ⟨b, k, none⟩ u).heap[b]? = some (.cells (cur.setIfInBounds k u) e fr) := by
  simp [World.setCell, Array.getElem?_modify, h]
theorem keyset_block {w w' : World} {b n : Nat} {ks : List Bg.Str} (h : keyset w b n ks) (hB : w'.heap[b]? = w.heap[b]?) : keyset w' b n ks := by
  obtain ⟨es, clock, hb, r⟩ := h
  exact ⟨es, clock, hB.trans hb, r⟩
end Go.Proofs.YtamfmffdgidmgaaGreatDoor
end
section
namespace Go.Proofs.YtamfmffdgidmgaaGreatDoor
open Go.RowKit
set_option linter.unusedSimpArgs false
set_option linter.unusedVariables false
def noDef : Op → Bool
  | .defer _ => false
  | _ => true
theorem noDef_ne {o : Op} (h : noDef o = true) : ∀ c, o ≠ .defer c := by
  intro c e; subst e; cases h
section
variable {P : Program} {l n : Nat} {Q : Exit → Act → World → Prop} {ops : Array Oper} {md : Region.Mode}
theorem op_round {o : Oper} {a : Act} {w : World} {K : Act → World → Prop} (hd : noDef o.op = true) (h : o.wp P a w K Q) : o.wpIn (Fence.wide.inRound l) n P a w K Q := by
  refine ⟨fun f _ => trivial, ?_⟩
  rw [Oper.semAt_eq _ _ _ (noDef_ne hd)]
  unfold Oper.wp at h
  generalize (execOp a.eval o).run P w = r at *
  cases r with
  | ok nx w' =>
    cases nx with
    | value v => exact h
    | skip => exact h
    | defer d => exact h
    | enter f args => exact ⟨fun hx => (by cases hx), (callsIn_wide (n := n - 1)).2 h⟩
    | row row args =>
      refine ⟨fun hx => (by cases hx), fun c cs _ => ?_⟩
      obtain ⟨v, w'', r, s⟩ := h c cs
      exact ⟨v, w'', r, stepsIn_wide.2 s⟩
    | _ => exact h.elim
  | halt x w' =>
    cases x with
    | panic v => exact h
    | _ => exact h.elim
/-- the same of a region in its one order -/
theorem wpList_round (hQ : ¬ LetsOut Q) : ∀ (os : List Oper) (a : Act) (w : World), os.all (fun o => noDef o.op) = true → wpList P ops Q os a w → wpListIn (Fence.wide.inRound l) n P ops Q os a w
  | [], _, _, _, h => h
  | o :: rest, a, w, hd, h => by
    rw [List.all_cons, Bool.and_eq_true] at hd
    unfold wpList at h
    unfold wpListIn
    split at h
    · rename_i hw
      rw [if_pos hw]
      rcases h with h | h
      · exact op_round hd.1 (Oper.wp_mono (fun a w => wpList_round hQ rest a w hd.2) h)
      · exact absurd h.2 hQ
    · rename_i hw
      rw [if_neg hw]
      exact ⟨fun f _ => trivial, wpList_round hQ rest _ _ hd.2 h⟩
theorem round_list {id : Nat} {os : List Oper} {a : Act} {w : World} (hnd : os.all (fun o => noDef o.op) = true) (hQ : ¬ LetsOut Q) (h : wpList P os.toArray Q os a w) : (Code.region id os.toArray false).wpIn (Fence.wide.inRound l) n P Q a w :=
  wpIn_region_lit (wpList_round hQ _ _ _ hnd h)
theorem wpB_block {bf : FuncId} {a : Act} {w : World} {id : Nat} {c : Code} (h : wpB bf P c (Exit.inBlock id Q) a w) : wpB bf P (Code.block id c) Q a w := by
  intro b k cs hro hb
  have h0 : (lone (b.atR a (.code (.block id c) :: k)) cs w).fenced P Fence.wide := fenced_calm (n := 0) trivial (wide_room _) rfl
  obtain ⟨e, a₁, w₁, hq, harr⟩ := h b (.inBlock id :: k) cs hro hb
  cases e with
  | normal => exact ⟨.normal, a₁, w₁, hq, .head h0 stepR_block (StepsIn.trans harr (.one (fenced_calm (n := 0) trivial (wide_room _) rfl) stepR_inBlock))⟩
  | exit id' =>
    by_cases hid : id' = id
    · simp only [Exit.inBlock, hid, if_true] at hq
      exact ⟨.normal, a₁, w₁, hq, .head h0 stepR_block (harr.1 k (by simp [exitTo, hid]))⟩
    · simp only [Exit.inBlock, hid, if_false] at hq
      have this : (id == id') = false := by simp; exact fun h => hid h.symm
      have hx : exitTo id' (.inBlock id :: k) = exitTo id' k := by simp [exitTo, this]
      exact ⟨.exit id', a₁, w₁, hq, fun k' hk => .head h0 stepR_block (harr.1 k' (by rw [hx]; exact hk)),
        fun hr' hk => let ⟨k₁, h1, h2⟩ := harr.2 hr' (by rw [hx]; exact hk); ⟨k₁, h1, .head h0 stepR_block h2⟩⟩
  | goto l =>
    have hx : gotoIn l (.inBlock id :: k) = gotoIn l k := by simp [gotoIn]
    exact ⟨_, a₁, w₁, hq, fun k' hk => .head h0 stepR_block (harr.1 k' (by rw [hx]; exact hk)),
      fun hr' hk => let ⟨k₁, h1, h2⟩ := harr.2 hr' (by rw [hx]; exact hk); ⟨k₁, h1, .head h0 stepR_block h2⟩⟩
  | ret => exact ⟨_, a₁, w₁, hq, .of_steps (.one h0 stepR_block) harr⟩
  | panic ch => exact ⟨_, a₁, w₁, hq, .of_steps (.one h0 stepR_block) harr⟩
  | outgrown => exact ⟨_, a₁, w₁, hq, .of_steps (.one h0 stepR_block) harr⟩
end
end Go.Proofs.YtamfmffdgidmgaaGreatDoor
end
