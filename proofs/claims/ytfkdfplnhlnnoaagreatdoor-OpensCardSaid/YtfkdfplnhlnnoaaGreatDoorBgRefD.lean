/- The document's answer (package bagsref): value, has, find. -/
import Derived.Test.YtfkdfplnhlnnoaaGreatDoorBgRefC
namespace Go.Proofs.YtfkdfplnhlnnoaaGreatDoor
open Go.RowKit
set_option linter.unusedSimpArgs false
set_option linter.unusedVariables false

def sNull : Bg.Str := [110, 117, 108, 108]
def sInt : Bg.Str := [105, 110, 116]
def sText : Bg.Str := [116, 101, 120, 116]
/-- a value: what it is, its number, its text -/
structure RVal where
  kind : Bg.Str
  num : Int
  text : Bg.Str
def RVal.v (x : RVal) : Value := .agg #[.string ⟨x.kind.toArray⟩, .int .i64 x.num, .string ⟨x.text.toArray⟩]
def refVal (s typ : Bg.Str) : RVal × Bool :=
  if s = sNull then (⟨sNull, 0, []⟩, true)
  else if s.head? = some 39 then (⟨sText, 0, (Bg.quoted s).1⟩, typ == sText)
  else
    let neg := decide (s.head? = some 45)
    let d := if neg then s.drop 1 else s
    if Bg.runs Bg.digits d = 0 ∨ Bg.runs Bg.digits d < d.length ∨ typ ≠ sInt then (⟨[], 0, []⟩, false)
    else (⟨sInt, (Bg.number d neg).1, []⟩, (Bg.number d neg).2)

set_option maxRecDepth 100000 in
set_option maxHeartbeats 1000000 in
theorem ref_value (s typ : Bg.Str) (w : World) (hs : s.length ≤ 90000) (hne : s ≠ []) :
    Calls Tryz.prog 17 #[.string ⟨s.toArray⟩, .string ⟨typ.toArray⟩] w fun e w' => e = .returned (.tuple #[(refVal s typ).1.v, .bool (refVal s typ).2]) ∧ Below w.heap.size w w' := by
  have hex := Bg.ext_mk
  obtain ⟨c, r, rfl⟩ : ∃ c r, s = c :: r := by cases s with | nil => exact absurd rfl hne | cons c r => exact ⟨c, r, rfl⟩
  clear hne
  by_cases hn : (c :: r == sNull) = true
  · have HV : Hid (refVal (c :: r) typ = (⟨sNull, 0, []⟩, true)) := by show _ = _; unfold refVal; rw [if_pos (by simpa using hn)]
    have hn2 : (c :: r == [110, 117, 108, 108]) = true := hn
    clear hn
    go_enter Tryz.func17, Tryz.ntmps17
    go_wp2_with fail
    refine bodyPost_ret (v := .tuple #[.agg #[.string ⟨#[110, 117, 108, 108]⟩, .int .i64 0, .string ⟨#[]⟩], .bool true]) (by simp [results, Tryz.results17, go_sem]) rfl ⟨by rw [HV.out]; rfl, ?_⟩
    exact (Below.refl _ w).alloc (Nat.le_refl _) _
  · have hn2 : (c :: r == [110, 117, 108, 108]) = false := by simpa [sNull] using hn
    clear hn
    go_enter Tryz.func17, Tryz.ntmps17
    go_wp2_with fail
    · have h39 : ((((ByteArray.mk (c :: r).toArray)[0]'(Nat.succ_pos _)).toNat : Int) == 39) = true := by assumption
      have e39 : c = 39 := Bg.beq_t 39 h39 rfl
      refine (ref_quoted (c :: r) _ hs).mono ?_
      rintro e w1 ⟨rfl, rfl⟩
      have HV : Hid (refVal (c :: r) typ = (⟨sText, 0, (Bg.quoted (c :: r)).1⟩, (typ == [116, 101, 120, 116]))) := by
        show refVal (c :: r) typ = _
        unfold refVal
        rw [if_neg (by simpa [sNull] using hn2), if_pos (by rw [e39]; rfl)]
        rfl
      clear e39
      go_wp2
      refine bodyPost_ret (v := .tuple #[.agg #[.string ⟨#[116, 101, 120, 116]⟩, .int .i64 0, .string ⟨(Bg.quoted (c :: r)).1.toArray⟩], .bool (typ == [116, 101, 120, 116])]) (by simp [results, Tryz.results17, go_sem]) rfl ⟨by rw [HV.out]; rfl, ?_⟩
      exact (Below.refl _ w).alloc (Nat.le_refl _) _
    · have h39 : ((((ByteArray.mk (c :: r).toArray)[0]'(Nat.succ_pos _)).toNat : Int) == 39) = false := by assumption
      have h45 : ((((ByteArray.mk (c :: r).toArray)[0]'(Nat.succ_pos _)).toNat : Int) == 45) = true := by assumption
      have n39 : c ≠ 39 := Bg.beq_f 39 h39 rfl
      have e45 : c = 45 := Bg.beq_t 45 h45 rfl
      have hdl : r.length ≤ 90000 := by simp at hs ⊢; omega
      refine (ref_run r Bg.digits _ (by omega) Bg.digits_len).mono ?_
      rintro e w1 ⟨rfl, rfl⟩
      have hrl := Bg.runs_le Bg.digits r
      have HV : Hid (refVal (c :: r) typ = if Bg.runs Bg.digits r = 0 ∨ Bg.runs Bg.digits r < r.length ∨ typ ≠ sInt then (⟨[], 0, []⟩, false) else (⟨sInt, (Bg.number r true).1, []⟩, (Bg.number r true).2)) := by
        show refVal (c :: r) typ = _
        unfold refVal
        rw [if_neg (by simpa [sNull] using hn2), if_neg (by simpa using n39)]
        simp only [e45, List.head?_cons, decide_true, if_true, List.drop_succ_cons, List.drop_zero]
      have HD : Hid (Bg.runs Bg.digits r = r.length → True) := fun _ => trivial
      by_cases hbad : Bg.runs Bg.digits r = 0 ∨ Bg.runs Bg.digits r < r.length ∨ typ ≠ sInt
      · have HB : Hid (refVal (c :: r) typ = (⟨[], 0, []⟩, false)) := by show _ = _; rw [HV.out, if_pos hbad]
        have hb1 : ((Bg.runs Bg.digits r : Int) == 0) = false → ¬ ((Bg.runs Bg.digits r : Int) < (r.length : Int)) → (typ == [105, 110, 116]) = false := by
          intro h1 h2
          rcases hbad with h | h | h
          · rw [h] at h1; cases h1
          · omega
          · simpa [sInt] using h
        have HB1 : Hid (((Bg.runs Bg.digits r : Int) == 0) = false → ¬ ((Bg.runs Bg.digits r : Int) < (r.length : Int)) → (typ == [105, 110, 116]) = false) := hb1
        clear hb1 hbad HV
        by_cases h1 : ((Bg.runs Bg.digits r : Int) == 0) = true
        · go_wp2
          refine bodyPost_ret (v := .tuple #[.agg #[.string ⟨#[]⟩, .int .i64 0, .string ⟨#[]⟩], .bool false]) (by simp [results, Tryz.results17, go_sem]) rfl ⟨by rw [HB.out]; rfl, ?_⟩
          exact (Below.refl _ w).alloc (Nat.le_refl _) _
        · have h1' : ((Bg.runs Bg.digits r : Int) == 0) = false := by simpa using h1
          clear h1
          by_cases h2 : Bg.runs Bg.digits r < r.length
          · go_wp2
            refine bodyPost_ret (v := .tuple #[.agg #[.string ⟨#[]⟩, .int .i64 0, .string ⟨#[]⟩], .bool false]) (by simp [results, Tryz.results17, go_sem]) rfl ⟨by rw [HB.out]; rfl, ?_⟩
            exact (Below.refl _ w).alloc (Nat.le_refl _) _
          · have h3 := HB1.out h1' (by omega)
            go_wp2
            refine bodyPost_ret (v := .tuple #[.agg #[.string ⟨#[]⟩, .int .i64 0, .string ⟨#[]⟩], .bool false]) (by simp [results, Tryz.results17, go_sem]) rfl ⟨by rw [HB.out]; rfl, ?_⟩
            exact (Below.refl _ w).alloc (Nat.le_refl _) _
      · have HB : Hid (refVal (c :: r) typ = (⟨sInt, (Bg.number r true).1, []⟩, (Bg.number r true).2)) := by show _ = _; rw [HV.out, if_neg hbad]
        have h1' : ((Bg.runs Bg.digits r : Int) == 0) = false := by simp; omega
        have h2 : ¬ Bg.runs Bg.digits r < r.length := by omega
        have h3 : (typ == [105, 110, 116]) = true := by
          have : ¬ typ ≠ sInt := fun h => hbad (.inr (.inr h))
          simpa [sInt] using this
        have HR : Hid (Bg.runs Bg.digits r = r.length) := by show _ = _; omega
        clear hbad HV
        go_wp2_with fail
        refine (ref_number r true _ hdl HR.out).mono ?_
        rintro e w1 ⟨rfl, rfl⟩
        go_wp2
        refine bodyPost_ret (v := .tuple #[.agg #[.string ⟨#[105, 110, 116]⟩, .int .i64 (Bg.number r true).1, .string ⟨#[]⟩], .bool (Bg.number r true).2]) (by simp [results, Tryz.results17, go_sem]) rfl ⟨by rw [HB.out]; rfl, ?_⟩
        exact (Below.refl _ w).alloc (Nat.le_refl _) _
    · have h39 : ((((ByteArray.mk (c :: r).toArray)[0]'(Nat.succ_pos _)).toNat : Int) == 39) = false := by assumption
      have h45 : ((((ByteArray.mk (c :: r).toArray)[0]'(Nat.succ_pos _)).toNat : Int) == 45) = false := by assumption
      have n39 : c ≠ 39 := Bg.beq_f 39 h39 rfl
      have n45 : c ≠ 45 := Bg.beq_f 45 h45 rfl
      have hdl : (c :: r).length ≤ 90000 := by simp at hs ⊢; omega
      refine (ref_run (c :: r) Bg.digits _ (by omega) Bg.digits_len).mono ?_
      rintro e w1 ⟨rfl, rfl⟩
      have hrl := Bg.runs_le Bg.digits (c :: r)
      have HV : Hid (refVal (c :: r) typ = if Bg.runs Bg.digits (c :: r) = 0 ∨ Bg.runs Bg.digits (c :: r) < (c :: r).length ∨ typ ≠ sInt then (⟨[], 0, []⟩, false) else (⟨sInt, (Bg.number (c :: r) false).1, []⟩, (Bg.number (c :: r) false).2)) := by
        show refVal (c :: r) typ = _
        unfold refVal
        rw [if_neg (by simpa [sNull] using hn2), if_neg (by simpa using n39)]
        simp only [List.head?_cons, Option.some.injEq, n45, decide_false, Bool.false_eq_true, if_false]
      have HD : Hid (Bg.runs Bg.digits (c :: r) = (c :: r).length → True) := fun _ => trivial
      by_cases hbad : Bg.runs Bg.digits (c :: r) = 0 ∨ Bg.runs Bg.digits (c :: r) < (c :: r).length ∨ typ ≠ sInt
      · have HB : Hid (refVal (c :: r) typ = (⟨[], 0, []⟩, false)) := by show _ = _; rw [HV.out, if_pos hbad]
        have hb1 : ((Bg.runs Bg.digits (c :: r) : Int) == 0) = false → ¬ ((Bg.runs Bg.digits (c :: r) : Int) < ((r.length : Int) + 1)) → (typ == [105, 110, 116]) = false := by
          intro h1 h2
          rcases hbad with h | h | h
          · rw [h] at h1; cases h1
          · simp at h; omega
          · simpa [sInt] using h
        have HB1 : Hid (((Bg.runs Bg.digits (c :: r) : Int) == 0) = false → ¬ ((Bg.runs Bg.digits (c :: r) : Int) < ((r.length : Int) + 1)) → (typ == [105, 110, 116]) = false) := hb1
        clear hb1 hbad HV
        by_cases h1 : ((Bg.runs Bg.digits (c :: r) : Int) == 0) = true
        · go_wp2
          refine bodyPost_ret (v := .tuple #[.agg #[.string ⟨#[]⟩, .int .i64 0, .string ⟨#[]⟩], .bool false]) (by simp [results, Tryz.results17, go_sem]) rfl ⟨by rw [HB.out]; rfl, ?_⟩
          exact (Below.refl _ w).alloc (Nat.le_refl _) _
        · have h1' : ((Bg.runs Bg.digits (c :: r) : Int) == 0) = false := by simpa using h1
          clear h1
          by_cases h2 : Bg.runs Bg.digits (c :: r) < r.length + 1
          · go_wp2
            refine bodyPost_ret (v := .tuple #[.agg #[.string ⟨#[]⟩, .int .i64 0, .string ⟨#[]⟩], .bool false]) (by simp [results, Tryz.results17, go_sem]) rfl ⟨by rw [HB.out]; rfl, ?_⟩
            exact (Below.refl _ w).alloc (Nat.le_refl _) _
          · have h3 := HB1.out h1' (by omega)
            go_wp2
            refine bodyPost_ret (v := .tuple #[.agg #[.string ⟨#[]⟩, .int .i64 0, .string ⟨#[]⟩], .bool false]) (by simp [results, Tryz.results17, go_sem]) rfl ⟨by rw [HB.out]; rfl, ?_⟩
            exact (Below.refl _ w).alloc (Nat.le_refl _) _
      · have HB : Hid (refVal (c :: r) typ = (⟨sInt, (Bg.number (c :: r) false).1, []⟩, (Bg.number (c :: r) false).2)) := by show _ = _; rw [HV.out, if_neg hbad]
        have h1' : ((Bg.runs Bg.digits (c :: r) : Int) == 0) = false := by simp; omega
        have h2 : ¬ Bg.runs Bg.digits (c :: r) < r.length + 1 := by simp at hbad; omega
        have h3 : (typ == [105, 110, 116]) = true := by
          have : ¬ typ ≠ sInt := fun h => hbad (.inr (.inr h))
          simpa [sInt] using this
        have HR : Hid (Bg.runs Bg.digits (c :: r) = (c :: r).length) := by show _ = _; omega
        clear hbad HV
        go_wp2_with fail
        refine (ref_number (c :: r) false _ hdl HR.out).mono ?_
        rintro e w1 ⟨rfl, rfl⟩
        go_wp2
        refine bodyPost_ret (v := .tuple #[.agg #[.string ⟨#[105, 110, 116]⟩, .int .i64 (Bg.number (c :: r) false).1, .string ⟨#[]⟩], .bool (Bg.number (c :: r) false).2]) (by simp [results, Tryz.results17, go_sem]) rfl ⟨by rw [HB.out]; rfl, ?_⟩
        exact (Below.refl _ w).alloc (Nat.le_refl _) _
/-- a slice of texts, to be read -/
def viewS (W : World) (v : Value) (l : List Bg.Str) : Prop :=
  ∃ a cap, v = .slice a l.length cap ∧ ∀ i (h : i < l.length), ∃ g o, a = some ⟨g, o, none⟩ ∧ W.cell? ⟨g, o + i, none⟩ = some (strV l[i])
theorem viewS.below {W W' : World} {v : Value} {l : List Bg.Str} (h : viewS W v l) (hB : Below W.heap.size W W') : viewS W' v l := by
  obtain ⟨a, cap, rfl, hc⟩ := h
  refine ⟨a, cap, rfl, fun i hi => ?_⟩
  obtain ⟨g, o, ha, h1⟩ := hc i hi
  exact ⟨g, o, ha, (hB.cell (p := ⟨g, o + i, none⟩) (World.block_lt_of_cell? W _ h1)).trans h1⟩


set_option maxRecDepth 100000 in
set_option maxHeartbeats 400000 in
theorem ref_has (v : Value) (l : List Bg.Str) (s : Bg.Str) (W : World) (hl : l.length ≤ 90000) (hv : viewS W v l) :
    Calls Tryz.prog 34 #[v, .string ⟨s.toArray⟩] W fun e W' => e = .returned (.bool (l.contains s)) ∧ ∃ n, W' = W.drewN n := by
  obtain ⟨a, cap, rfl, hc⟩ := hv
  have HC : Hid (∀ i (h : i < l.length), ∃ g o, a = some ⟨g, o, none⟩ ∧ W.cell? ⟨g, o + i, none⟩ = some (strV l[i])) := hc
  cases a with
  | none =>
    obtain rfl : l = [] := by
      cases l with
      | nil => rfl
      | cons x l => obtain ⟨g, o, h, _⟩ := hc 0 (by simp); cases h
    clear hc HC
    go_enter Tryz.func34, Tryz.ntmps34
    go_wp2
    go_loop [5] (fun i => i = .int .i64 0) (fun i => 0)
    case atStart => rfl
    case round =>
      obtain rfl := hrel
      go_wp2
      go_ret
      exact ⟨rfl, 0, rfl⟩
  | some ad =>
    obtain ⟨g, o, nx⟩ := ad
    clear hc
    go_enter Tryz.func34, Tryz.ntmps34
    go_wp2
    go_loopw [5] (fun i wr => ∃ k : Nat, k ≤ l.length ∧ i = .int .i64 k ∧ (∃ n, wr = W.drewN n) ∧ Hid (∀ j, j < k → (h : j < l.length) → l[j] ≠ s)) (fun i _ => l.length - (intOf i).toNat)
    case atStart => exact ⟨0, by omega, rfl, ⟨0, rfl⟩, by intro j hj; omega⟩
    case round =>
      obtain ⟨k, hk, rfl, ⟨n, rfl⟩, hn⟩ := hrel
      by_cases hlt : k < l.length
      · obtain ⟨g1, o1, e1, hcf⟩ := HC.out k hlt
        cases e1
        have cf : W.cell? ⟨g, o + k, none⟩ = some (.string ⟨l[k].toArray⟩) := hcf
        clear hcf
        go_wp2
        · have he : (l[k] == s) = true := by assumption
          go_ret
          refine ⟨ret_bool ?_, _, rfl⟩
          symm
          rw [List.contains_iff_mem, ← (beq_iff_eq.1 he)]
          exact List.getElem_mem hlt
        · have he : (l[k] == s) = false := by assumption
          refine ⟨⟨k + 1, by omega, by go_num, ⟨_, rfl⟩, ?_⟩, by simp [intOf] <;> omega⟩
          intro j hj hl2
          by_cases hjk : j = k
          · subst hjk; simpa using he
          · exact hn.out j (by omega) hl2
      · go_wp2
        go_ret
        refine ⟨ret_bool ?_, _, rfl⟩
        symm
        rw [Bool.eq_false_iff]
        intro h
        obtain ⟨j, hj, e⟩ := List.getElem_of_mem (List.contains_iff_mem.1 h)
        exact hn.out j (by omega) hj e
end Go.Proofs.YtfkdfplnhlnnoaaGreatDoor
