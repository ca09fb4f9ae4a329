/- package tables: column. -/
import Derived.Test.YtfkdfplnhlnnoaaGreatDoorBgReadC
namespace Go.Proofs.YtfkdfplnhlnnoaaGreatDoor
open Go.RowKit
set_option linter.unusedSimpArgs false
set_option linter.unusedVariables false

/-- a type's number -/
def tyOf (k : Bg.Str) : Option Int := if k = [105, 110, 116] then some 1 else if k = [116, 101, 120, 116] then some 2 else none
theorem zeroTy (w : World) : (zeroValue 193).run Tryz.prog w = .ok (.int .i64 0) w := by kernel_rfl

theorem keyset_below {w w' : World} {b n : Nat} {ks : List Bg.Str} (h : keyset w b n ks) (hB : Below w.heap.size w w') : keyset w' b n ks := by
  obtain ⟨es, clock, hb, r⟩ := h
  exact ⟨es, clock, (hB.block b (Array.getElem?_eq_some_iff.1 hb).1).trans hb, r⟩
/-- the world in which column fills its map of types -/
abbrev colW (w : World) : World := (w.alloc (.cells #[.string ⟨#[]⟩, .int .i64 0] 195)).alloc (.map #[] 0)
theorem types_map (w : World) (kind : Bg.Str) (hkl : kind.length ≤ 90000) :
    ∃ w1 w2 ty,
      (Instr.mapUpdate 223 (.map (some (w.heap.size + 1))) (.string ⟨#[105, 110, 116]⟩) (.int .i64 1)).run Tryz.prog (colW w) = .ok () w1 ∧
      (Instr.mapUpdate 223 (.map (some (w.heap.size + 1))) (.string ⟨#[116, 101, 120, 116]⟩) (.int .i64 2)).run Tryz.prog w1 = .ok () w2 ∧
      (Instr.lookup 223 (.map (some (w.heap.size + 1))) (.string ⟨kind.toArray⟩) true).run Tryz.prog w2 = .ok (.tuple #[.int .i64 ty, .bool (tyOf kind).isSome]) w2 ∧
      (∀ t, tyOf kind = some t → ty = t) ∧ Below w.heap.size w w2 ∧ w.heap.size + 2 ≤ w2.heap.size ∧
      w2.cell? ⟨w.heap.size, 0, none⟩ = some (.string ⟨#[]⟩) ∧ w2.cell? ⟨w.heap.size, 1, none⟩ = some (.int .i64 0) ∧ w2.frozen? ⟨w.heap.size, 0, none⟩ = false ∧ w2.frozen? ⟨w.heap.size, 1, none⟩ = false := by
  have h0 := World.ownsMap_made (H := Unit) (w.alloc (.cells #[.string ⟨#[]⟩, .int .i64 0] 195)) Tryz.prog 9 (plainElem Tryz.prog 193)
  rw [World.size_alloc] at h0
  obtain ⟨w1, hr1, hown1, hg1⟩ := h0.update strKeyed Tryz.underlying223 (by unfold maxLen; omega) (strKey [105, 110, 116] (by simp)) (plainElem_int Tryz.underlying193 (a := 1) (by decide))
  obtain ⟨w2, hr2, hown2, hg2⟩ := hown1.update strKeyed Tryz.underlying223 (by unfold maxLen; omega) (strKey [116, 101, 120, 116] (by simp)) (plainElem_int Tryz.underlying193 (a := 2) (by decide))
  obtain ⟨v, ps, hl, hv⟩ := hown2.look_ok strKeyed Tryz.underlying223 (zeroTy w2) (plainElem_int Tryz.underlying193 (a := 0) (by decide)) (strKey kind (by omega))
  obtain ⟨ty, rfl, hz, _⟩ := plainElem_int_inv Tryz.underlying193 hv
  have hat := congrArg Prod.fst hz
  simp only at hat
  have hB0 : Below w.heap.size w (colW w) := ((Below.refl _ w).alloc (Nat.le_refl _) _).alloc (by simp) _
  have hB1 := hB0.grown hg1 (by simp; omega) (fun k e => by have := Option.some.inj e; omega)
  have hB2 := hB1.grown hg2 hB1.size (fun k e => by have := Option.some.inj e; omega)
  have hs1 := hg1.size
  have hs2 := hg2.size
  have hblk : w2.heap[w.heap.size]? = (colW w).heap[w.heap.size]? := (hg2.block w.heap.size (by simp at hs1; omega) (by intro e; have := Option.some.inj e; omega)).trans (hg1.block w.heap.size (by simp; omega) (by intro e; have := Option.some.inj e; omega))
  refine ⟨w1, w2, ty, hr1, hr2, ?_, ?_, hB2, by simp at hs1; omega, ?_, ?_, ?_, ?_⟩
  · have hh : Maps.has (((DataW.map []).put (keyL [105, 110, 116]) (DataW.lit (Lit.int IntKind.i64 1))).put (keyL [116, 101, 120, 116]) (DataW.lit (Lit.int IntKind.i64 2)) : DataW Unit) (keyL kind) = (tyOf kind).isSome := by
     unfold tyOf
     by_cases e1 : kind = [105, 110, 116]
     · rw [if_pos e1, e1]; rfl
     · by_cases e2 : kind = [116, 101, 120, 116]
       · rw [if_neg e1, if_pos e2, e2]; rfl
       · rw [if_neg e1, if_neg e2, Maps.has_put_other (show keyL kind ≠ keyL [116, 101, 120, 116] from fun e => e2 (Lit.string.inj e)), Maps.has_put_other (show keyL kind ≠ keyL [105, 110, 116] from fun e => e1 (Lit.string.inj e))]; rfl
    rw [hl, hh]
  · intro t ht
    unfold tyOf at ht
    by_cases e1 : kind = [105, 110, 116]
    · rw [if_pos e1] at ht
      rw [e1, Maps.atKey_put_other (show keyL [105, 110, 116] ≠ keyL [116, 101, 120, 116] from by intro e; cases e), Maps.atKey_put_same Maps.isMap_empty (show WideAt.IsKeyLit (keyL [105, 110, 116]) from trivial)] at hat
      cases ht; cases hat; rfl
    · by_cases e2 : kind = [116, 101, 120, 116]
      · rw [if_neg e1, if_pos e2] at ht
        rw [e2, Maps.atKey_put_same (Maps.isMap_empty.put _ _) (show WideAt.IsKeyLit (keyL [116, 101, 120, 116]) from trivial)] at hat
        cases ht; cases hat; rfl
      · rw [if_neg e1, if_neg e2] at ht; cases ht
  · rw [World.cell?_of_block hblk]; simp [colW]
  · rw [World.cell?_of_block hblk]; simp [colW]
  · rw [World.frozen?_of_block hblk]; simp [colW]
  · rw [World.frozen?_of_block hblk]; simp [colW]

set_option maxRecDepth 100000 in
set_option maxHeartbeats 1000000 in
theorem r_column (R Kb nK : Nat) (kws : List Bg.Str) (line : Int) (name kind : Bg.Str) (w : World) (hn : name.length ≤ 90000) (hkl : kind.length ≤ 90000) (hc : w.cell? ⟨R, 0, none⟩ = some (.int .i64 line)) (hk : w.cell? ⟨R, 3, none⟩ = some (.map (some Kb))) (hK : keyset w Kb nK kws) :
    Calls Tryz.prog 100 #[.pointer (some ⟨R, 0, none⟩), .string ⟨name.toArray⟩, .string ⟨kind.toArray⟩] w fun e w' =>
      (∃ ty, tyOf kind = some ty ∧ isNm kws name = true ∧ e = .returned (.agg #[.string ⟨name.toArray⟩, .int .i64 ty]) ∧ Below w.heap.size w w') ∨
      ((tyOf kind = none ∨ isNm kws name = false) ∧ bad w.heap.size line w e w') := by
  have hmm := @run_makeMap Tryz.prog
  have hlt : R < w.heap.size := World.block_lt_of_cell? w ⟨R, 0, none⟩ hc
  obtain ⟨w1, w2, ty, hr1, hr2, hl, hty, hB, hs2, hc0, hc1, hf0, hf1⟩ := types_map w kind hkl
  have hcr : w2.cell? ⟨R, 0, none⟩ = some (.int .i64 line) := (hB.cell (p := ⟨R, 0, none⟩) hlt).trans hc
  have hkr : w2.cell? ⟨R, 3, none⟩ = some (.map (some Kb)) := (hB.cell (p := ⟨R, 3, none⟩) hlt).trans hk
  have hKr : keyset w2 Kb nK kws := keyset_below hK hB
  have HTy : Hid (∀ t, tyOf kind = some t → ty = t) := hty
  clear hty
  cases hto : tyOf kind with
  | none =>
    rw [hto] at hl
    simp only [Option.isSome_none] at hl
    go_enter Tryz.func100, Tryz.ntmps100
    go_wp2_with fail
    refine (r_must_false R line _ hcr).mono ?_
    rintro e w3 ⟨b, rfl, hb0, hb1, hB3⟩
    go_wp2
    exact ⟨rfl, .inr ⟨.inl trivial, b, rfl, hb0, hb1, hB.trans (hB3.mono hB.size)⟩⟩
  | some t =>
    rw [hto] at hl
    simp only [Option.isSome_some] at hl
    have HT : Hid (ty = t) := HTy.out t hto
    go_enter Tryz.func100, Tryz.ntmps100
    go_wp2_with fail
    refine (r_isName R Kb nK kws name _ hn hkr hKr).mono ?_
    rintro e w3 ⟨rfl, rfl⟩
    generalize hnm : isNm kws name = nm
    have HN : Hid (isNm kws name = nm) := hnm
    clear hnm
    cases nm
    · go_wp2_with fail
      refine (r_must_false R line _ hcr).mono ?_
      rintro e w3 ⟨b, rfl, hb0, hb1, hB3⟩
      go_wp2
      exact ⟨rfl, .inr ⟨.inr (by first | exact HN.out | rfl | trivial), b, rfl, hb0, hb1, hB.trans (hB3.mono hB.size)⟩⟩
    · go_wp2_with fail
      refine (r_must_true _ _).mono ?_
      rintro e w3 ⟨rfl, rfl⟩
      go_wp2
      refine bodyPost_ret (v := .agg #[.string ⟨name.toArray⟩, .int .i64 ty]) (by simp [results, Tryz.results100, go_sem, hc0, hc1]) rfl (.inl ⟨t, rfl, HN.out, by rw [HT.out], ?_⟩)
      exact (hB.setCell (p := ⟨w.heap.size, 0, none⟩) (Nat.le_refl _) _).setCell (p := ⟨w.heap.size, 1, none⟩) (Nat.le_refl _) _
end Go.Proofs.YtfkdfplnhlnnoaaGreatDoor
