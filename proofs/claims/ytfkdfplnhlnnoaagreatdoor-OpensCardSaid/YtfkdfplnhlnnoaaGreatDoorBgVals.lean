/- Maps keyed by texts, with what stands behind each key. -/
import Derived.Test.YtfkdfplnhlnnoaaGreatDoorBgMaps
namespace Go.Proofs.YtfkdfplnhlnnoaaGreatDoor
open Go.RowKit
set_option linter.unusedSimpArgs false
set_option linter.unusedVariables false

/-- a number, or where a pointer points -/
def numElem : Value → Option (DataW Unit × List MemPlace)
  | .int .i64 k => some (.lit (.int .i64 k), [])
  | .pointer (some ⟨b, 0, none⟩) => some (.lit (.int .u64 b), [])
  | .pointer none => some (.agg [], [])
  | _ => none
def nI (k : Int) : DataW Unit := .lit (.int .i64 k)
def nP (b : Nat) : DataW Unit := .lit (.int .u64 b)
def valPut (m : DataW Unit) (x : Bg.Str × DataW Unit) : DataW Unit := m.put (keyL x.1) x.2
def valD (kvs : List (Bg.Str × DataW Unit)) : DataW Unit := kvs.foldl valPut (.map [])
/-- block b is a map of at most n entries: these -/
def valset (w : World) (b n : Nat) (kvs : List (Bg.Str × DataW Unit)) : Prop := w.ownsMap Tryz.prog 9 numElem b n (valD kvs)
theorem valset_block {w w' : World} {b n : Nat} {ks : List (Bg.Str × DataW Unit)} (h : valset w b n ks) (hB : w'.heap[b]? = w.heap[b]?) : valset w' b n ks := by
  obtain ⟨es, clock, hb, r⟩ := h
  exact ⟨es, clock, hB.trans hb, r⟩
theorem valset.obj {w : World} {b n : Nat} {ks : List (Bg.Str × DataW Unit)} (h : valset w b n ks) : ∃ es ck, w.heap[b]? = some (.map es ck) := by
  obtain ⟨es, clock, hb, r⟩ := h
  exact ⟨es, clock, hb⟩
theorem valset_nil {w : World} {b : Nat} (h : w.heap[b]? = some (.map #[] 0)) : valset w b 0 [] :=
  ⟨#[], 0, h, ⟨by simp, MapKept.stamped_empty 0, by simp⟩, Nat.le_refl _, rfl⟩
theorem put_vals (kvs : List (Bg.Str × DataW Unit)) (s : Bg.Str) (d : DataW Unit) : (valD kvs).put (keyL s) d = valD (kvs ++ [(s, d)]) := by
  unfold valD
  rw [List.foldl_append]
  rfl
theorem upd_val {w w' : World} {b n : Nat} {kvs : List (Bg.Str × DataW Unit)} {s : Bg.Str} {d : DataW Unit} {val : Value} {t e : TypeId} (h : valset w b n kvs) (ht : Tryz.prog.underlying t = some (.map 9 e)) (hn : n < maxLen) (hk : s.length ≤ 100000) (hv : numElem val = some (d, []))
    (hr : (Instr.mapUpdate t (.map (some b)) (.string ⟨s.toArray⟩) val).run Tryz.prog w = .ok () w') : valset w' b (n + 1) (kvs ++ [(s, d)]) := by
  obtain ⟨w2, hr2, ho2, _⟩ := World.ownsMap.update h strKeyed ht hn (strKey s hk) hv
  rw [hr] at hr2
  cases hr2
  rw [put_vals] at ho2
  exact ho2
theorem valPut_isMap {D : DataW Unit} (h : Maps.IsMap D) (x : Bg.Str × DataW Unit) : Maps.IsMap (valPut D x) := by
  obtain ⟨es, rfl⟩ := h; exact ⟨_, rfl⟩
theorem keyL_ne {s x : Bg.Str} (h : s ≠ x) : keyL s ≠ keyL x := fun e => h (by cases e; rfl)
theorem has_fold (s : Bg.Str) : ∀ (kvs : List (Bg.Str × DataW Unit)) (m : DataW Unit), Maps.IsMap m → Maps.has (kvs.foldl valPut m) (keyL s) = ((kvs.map (·.1)).contains s || Maps.has m (keyL s))
  | [], m, _ => by simp
  | x :: r, m, hm => by
    rw [List.foldl_cons, has_fold s r _ (valPut_isMap hm x)]
    by_cases h : s = x.1
    · subst h
      have : Maps.has (valPut m x) (keyL x.1) = true := Maps.has_put_same hm (show WideAt.IsKeyLit (keyL x.1) from trivial) x.2
      rw [this]
      simp
    · have : Maps.has (valPut m x) (keyL s) = Maps.has m (keyL s) := Maps.has_put_other (keyL_ne h) x.2
      have hb : (s == x.1) = false := by simpa using h
      rw [this, List.map_cons, List.contains_cons, hb, Bool.false_or]
theorem has_vals (kvs : List (Bg.Str × DataW Unit)) (s : Bg.Str) : Maps.has (valD kvs) (keyL s) = (kvs.map (·.1)).contains s := by
  unfold valD
  rw [has_fold s kvs _ ⟨[], rfl⟩]
  simp [Maps.has]
theorem at_fold (s : Bg.Str) (d z : DataW Unit) : ∀ (kvs : List (Bg.Str × DataW Unit)) (m : DataW Unit), Maps.IsMap m → (kvs.map (·.1)).Nodup → ((s, d) ∈ kvs ∨ (s ∉ kvs.map (·.1) ∧ m.atKey (keyL s) z = d)) → (kvs.foldl valPut m).atKey (keyL s) z = d
  | [], m, _, _, h => by
    rcases h with h | h
    · cases h
    · exact h.2
  | x :: r, m, hm, hn, h => by
    rw [List.foldl_cons]
    rw [List.map_cons, List.nodup_cons] at hn
    refine at_fold s d z r _ (valPut_isMap hm x) hn.2 ?_
    rcases h with h | ⟨h1, h2⟩
    · rcases List.mem_cons.1 h with h | h
      · subst h
        exact .inr ⟨hn.1, Maps.atKey_put_same hm (show WideAt.IsKeyLit (keyL s) from trivial) d z⟩
      · exact .inl h
    · have hne : s ≠ x.1 := fun e => h1 (by rw [e]; simp)
      exact .inr ⟨fun h => h1 (by simp only [List.map_cons, List.mem_cons]; exact .inr h), (Maps.atKey_put_other (keyL_ne hne) x.2 z).trans h2⟩
theorem at_vals {kvs : List (Bg.Str × DataW Unit)} {s : Bg.Str} {d z : DataW Unit} (hn : (kvs.map (·.1)).Nodup) (h : (s, d) ∈ kvs) : (valD kvs).atKey (keyL s) z = d :=
  at_fold s d z kvs _ ⟨[], rfl⟩ hn (.inl h)
theorem elem_int {v : Value} {k : Int} {ps : List MemPlace} (h : numElem v = some (nI k, ps)) : v = .int .i64 k := by
  unfold numElem nI at h
  split at h
  · cases h; rfl
  · cases h
  · cases h
  · cases h
theorem elem_ptr {v : Value} {b : Nat} {ps : List MemPlace} (h : numElem v = some (nP b, ps)) : v = .pointer (some ⟨b, 0, none⟩) := by
  unfold numElem nP at h
  split at h
  · cases h
  · simp only [Option.some.injEq, Prod.mk.injEq, DataW.lit.injEq, Lit.int.injEq, true_and] at h
    have : _ = b := Int.ofNat.inj h.1
    rw [this]
  · cases h
  · cases h
/-- places, counted from 0 -/
def placesOf (l : List Bg.Str) : List (Bg.Str × DataW Unit) := l.zipIdx.map fun p => (p.1, nI p.2)
theorem placesOf_app (l : List Bg.Str) (x : Bg.Str) : placesOf (l ++ [x]) = placesOf l ++ [(x, nI l.length)] := by
  unfold placesOf
  rw [List.zipIdx_append]
  simp
theorem placesOf_fst (l : List Bg.Str) : (placesOf l).map (·.1) = l := by
  unfold placesOf
  rw [List.map_map]
  have : ((fun x : Bg.Str × DataW Unit => x.1) ∘ fun p : Bg.Str × Nat => (p.1, nI p.2)) = Prod.fst := rfl
  rw [this]
  simp
theorem placesOf_mem {l : List Bg.Str} {i : Nat} (h : i < l.length) : (l[i], nI i) ∈ placesOf l := by
  unfold placesOf
  refine List.mem_map.2 ⟨(l[i], i), ?_, rfl⟩
  rw [List.mem_zipIdx_iff_getElem?]
  exact List.getElem?_eq_getElem h
theorem zeroInt (w : World) : (zeroValue 3).run Tryz.prog w = .ok (.int .i64 0) w := by kernel_rfl
/-- a look-up of a place -/
theorem look_place {w : World} {P n : Nat} {names : List Bg.Str} (h : valset w P n (placesOf names)) (hn : names.Nodup) (s : Bg.Str) (hs : s.length ≤ 100000) :
    (∃ c : Nat, names[c]? = some s ∧ (Instr.lookup 185 (.map (some P)) (.string ⟨s.toArray⟩) true).run Tryz.prog w = .ok (.tuple #[.int .i64 c, .bool true]) w) ∨
    (s ∉ names ∧ ∃ v, (Instr.lookup 185 (.map (some P)) (.string ⟨s.toArray⟩) true).run Tryz.prog w = .ok (.tuple #[v, .bool false]) w) := by
  obtain ⟨v, ps, hrun, hv⟩ := World.ownsMap.look_ok (R := numElem) (D := valD (placesOf names)) h strKeyed Tryz.underlying185 (zeroInt w) rfl (strKey s hs)
  rw [has_vals, placesOf_fst] at hrun
  by_cases hm : s ∈ names
  · obtain ⟨c, hc, rfl⟩ := List.getElem_of_mem hm
    refine .inl ⟨c, List.getElem?_eq_getElem hc, ?_⟩
    rw [at_vals (by rw [placesOf_fst]; exact hn) (placesOf_mem hc)] at hv
    rw [elem_int hv, List.contains_iff_mem.2 hm] at hrun
    exact hrun
  · refine .inr ⟨hm, v, ?_⟩
    have : names.contains s = false := by rw [List.contains_eq_mem]; simpa using hm
    rw [this] at hrun
    exact hrun
end Go.Proofs.YtfkdfplnhlnnoaaGreatDoor
