/- package tables: fields. -/
import Derived.Test.YtfkdfplnhlnnoaaGreatDoorBgReadB
namespace Go.Proofs.YtfkdfplnhlnnoaaGreatDoor
open Go.RowKit
set_option linter.unusedSimpArgs false
set_option linter.unusedVariables false

namespace Bg
def trimL (s : Str) : Str := Lib.trimLeftB s 32
theorem trimL_cons_blank (s : Str) : trimL (32 :: s) = trimL s := by simp [trimL, Lib.trimLeftB]
theorem trimL_cons (c : UInt8) (s : Str) (h : c ≠ 32) : trimL (c :: s) = c :: s := by simp [trimL, Lib.trimLeftB, h]
theorem trimL_nil : trimL [] = [] := by simp [trimL, Lib.trimLeftB]
theorem trimL_le : ∀ s : Str, (trimL s).length ≤ s.length
  | [] => by rw [trimL_nil]; exact Nat.le_refl _
  | c :: s => by
    by_cases h : c = 32
    · subst h; rw [trimL_cons_blank]; have := trimL_le s; simp; omega
    · rw [trimL_cons c s h]; exact Nat.le_refl _
theorem trimL_head : ∀ (s : Str) (c : UInt8) (r : Str), trimL s = c :: r → c ≠ 32
  | [], c, r, h => by rw [trimL_nil] at h; cases h
  | d :: s, c, r, h => by
    by_cases hd : d = 32
    · subst hd; rw [trimL_cons_blank] at h; exact trimL_head s c r h
    · rw [trimL_cons d s hd] at h; rw [← (List.cons.inj h).1]; exact hd
end Bg
theorem fieldLen_pos {c : UInt8} {r : Bg.Str} (h : c ≠ 32) {n : Nat} (hn : fieldLen (c :: r) = some n) : 0 < n ∧ n ≤ (c :: r).length := by
  unfold fieldLen at hn
  by_cases h39 : c = 39
  · rw [if_pos (by simp [h39])] at hn
    simp only at hn
    split at hn
    · rename_i h2
      cases hn
      exact ⟨h2.1, Bg.quoted_le c r⟩
    · cases hn
  · rw [if_neg (by simpa using h39)] at hn
    cases hn
    refine ⟨?_, (List.takeWhile_sublist _).length_le⟩
    unfold Bg.till
    rw [List.takeWhile_cons, if_pos (by simpa using h)]
    simp
/-- the fields of a line -/
def fieldsN : Nat → Bg.Str → Option (List Bg.Str)
  | 0, _ => some []
  | f + 1, s =>
    match Bg.trimL s with
    | [] => some []
    | c :: r =>
      match fieldLen (c :: r) with
      | none => none
      | some n => (fieldsN f ((c :: r).drop n)).map ((c :: r).take n :: ·)
def fieldsOf (s : Bg.Str) : Option (List Bg.Str) := fieldsN (s.length + 1) s
theorem fieldsN_fuel (f : Nat) : ∀ (s : Bg.Str) (g : Nat), s.length < f → s.length < g → fieldsN f s = fieldsN g s := by
  induction f with
  | zero => intro s g h; omega
  | succ f ih =>
    intro s g hf hg
    obtain ⟨g, rfl⟩ : ∃ g', g = g' + 1 := ⟨g - 1, by omega⟩
    rw [fieldsN, fieldsN]
    have htl := Bg.trimL_le s
    cases ht : Bg.trimL s with
    | nil => rfl
    | cons c r =>
      have hc := Bg.trimL_head s c r ht
      rw [ht] at htl
      simp only
      cases hl : fieldLen (c :: r) with
      | none => rfl
      | some n =>
        have hp := fieldLen_pos hc hl
        simp only
        rw [ih ((c :: r).drop n) g (by rw [List.length_drop]; omega) (by rw [List.length_drop]; omega)]
theorem fields_nil {s : Bg.Str} (h : Bg.trimL s = []) : fieldsOf s = some [] := by
  unfold fieldsOf; rw [fieldsN, h]
theorem fields_none {s : Bg.Str} {c : UInt8} {r : Bg.Str} (h : Bg.trimL s = c :: r) (hl : fieldLen (c :: r) = none) : fieldsOf s = none := by
  unfold fieldsOf; rw [fieldsN, h]; simp only; rw [hl]
theorem fields_step {s : Bg.Str} {c : UInt8} {r : Bg.Str} (h : Bg.trimL s = c :: r) {n : Nat} (hl : fieldLen (c :: r) = some n) :
    fieldsOf s = (fieldsOf ((c :: r).drop n)).map ((c :: r).take n :: ·) := by
  have hp := fieldLen_pos (Bg.trimL_head s c r h) hl
  have htl := Bg.trimL_le s
  rw [h] at htl
  unfold fieldsOf
  rw [fieldsN, h]
  simp only
  rw [hl]
  simp only
  rw [fieldsN_fuel s.length ((c :: r).drop n) (((c :: r).drop n).length + 1) (by rw [List.length_drop]; omega) (by omega)]

/-- what fields answers -/
def fieldsPost (w : World) (line : Int) : Option (List Bg.Str) → Ending → World → Prop
  | none, e, w' => bad w.heap.size line w e w'
  | some l, e, w' => ∃ v, e = .returned v ∧ w'.ownsRow w.heap.size 9 1 v l.length (l.map strV) ∧ Below w.heap.size w w'

theorem own_below {w w' : World} {B e size n : Nat} {v : Value} {xs : List Value} (h : w.ownsRow B e size v n xs) (hb : Below w.heap.size w w') : w'.ownsRow B e size v n xs := by
  refine ⟨h.1, ?_⟩
  rcases h.2 with h0 | ⟨g, cap, cur, rfl, hg, hh, r⟩
  · exact .inl h0
  · have hlt : g < w.heap.size := (Array.getElem?_eq_some_iff.1 hh).1
    exact .inr ⟨g, cap, cur, rfl, hg, (hb.block g hlt).trans hh, r⟩
def strLen : Value → Nat | .string s => s.size | _ => 0

theorem trimLeft (s : Bg.Str) (w : World) :
    Calls Tryz.prog 96 #[.string ⟨s.toArray⟩, .string ⟨#[32]⟩] w fun e w' => e = .returned (.string ⟨(Bg.trimL s).toArray⟩) ∧ w = w' :=
  (Tryz.strings_TrimLeft_one ⟨s.toArray⟩ 32 (by decide) w).mono fun e w' h => ⟨h.1, h.2.symm⟩

set_option maxRecDepth 100000 in
set_option maxHeartbeats 1000000 in
theorem r_fields (R : Nat) (line : Int) (s : Bg.Str) (w : World) (hs : s.length ≤ 90000) (hc : w.cell? ⟨R, 0, none⟩ = some (.int .i64 line)) :
    Calls Tryz.prog 67 #[.pointer (some ⟨R, 0, none⟩), .string ⟨s.toArray⟩] w fun e w' => fieldsPost w line (fieldsOf s) e w' := by
  have hlt : R < w.heap.size := World.block_lt_of_cell? w ⟨R, 0, none⟩ hc
  have hex := Bg.ext_mk
  obtain ⟨i0, hi, hz0, hz1, hz2⟩ := info_parts Tryz.infoStr
  go_enter Tryz.func67, Tryz.ntmps67
  go_wp2_with fail
  refine (trimLeft s _).mono ?_
  rintro e w' ⟨rfl, rfl⟩
  go_wp2
  go_loopw [5, 6, 7] (fun v t _ wr => ∃ (x : Bg.Str) (out : List Bg.Str), x.length ≤ s.length ∧ out.length + x.length ≤ s.length ∧ t = .string ⟨(Bg.trimL x).toArray⟩ ∧ wr.ownsRow w.heap.size 9 1 v out.length (out.map strV) ∧ Below w.heap.size w wr ∧ Hid ((fieldsOf x).map (out ++ ·) = fieldsOf s))
    (fun _ t _ _ => strLen t)
  case atStart => exact ⟨s, [], Nat.le_refl _, by simp, rfl, World.ownsRow_nil _ _ _ _, Below.refl _ _, by simp [Hid]⟩
  case round =>
    obtain ⟨x, out, hx, ho, rfl, hown, hB, hq⟩ := hrel
    have hcr : wr.cell? ⟨R, 0, none⟩ = some (.int .i64 line) := (hB.cell (p := ⟨R, 0, none⟩) hlt).trans hc
    have htl := Bg.trimL_le x
    cases ht : Bg.trimL x with
    | nil =>
      have HR : Hid (fieldsOf s = some out) := by show _ = some out; rw [← hq.out, fields_nil ht]; simp
      clear ht
      go_wp2_with fail
      go_ret
      rw [HR.out]
      exact ⟨_, rfl, hown, hB⟩
    | cons c r =>
      rw [ht] at htl
      have hc32 := Bg.trimL_head x c r ht
      have HT : Hid (Bg.trimL x = c :: r) := ht
      clear ht
      go_wp2_with fail
      refine (r_fieldEnd R line (c :: r) _ (by omega) (by simp) hcr).mono ?_
      rintro e w1 (⟨n, hn, rfl, hB1⟩ | ⟨hn, b, rfl, hb0, hb1, hB3⟩)
      · have hp := fieldLen_pos hc32 hn
        have HN : Hid (fieldLen (c :: r) = some n) := hn
        clear hn hc32
        obtain ⟨hp1, hp2⟩ := hp
        have hown1 := own_below hown hB1
        have hB2 : Below w.heap.size w w1 := hB.trans (hB1.mono hB.size)
        simp only [List.length_cons] at hp2 htl
        clear hown hB hB1 hcr
        go_wp2_with (at_builtin; refine wpList_append_own _ rfl _ _ 40 rfl w.heap.size 9 i0 (.string ⟨#[]⟩) 1 16 Tryz.underlying40 hi hz0 hz1 hz2 rfl (by decide) _ _ _ rfl (hown1.alloc _) ⟨w1.heap.size, 0, none⟩ 1 1 [strV ((c :: r).take n)] rfl rfl (cell_one_new _ _ _) (by simp [Value.oneCell', strV]) (by unfold maxLen; omega) (by omega) (by have := hB2.size; simp; omega) ?_; intro v' w2 hown' hgrow _)
        rw [List.take_of_length_le (by rw [List.length_drop, List.length_cons]; exact Nat.le_refl _)]
        have hB3 := below_append hB2 hB2.size hown1 hgrow
        have HS : Hid (fieldsOf s = (fieldsOf ((c :: r).drop n)).map ((out ++ [(c :: r).take n]) ++ ·)) := by
          show fieldsOf s = _
          rw [← hq.out, fields_step HT.out HN.out, Option.map_map]
          congr 1; funext l; simp
        clear hgrow hown1 hB2
        have hdl : ((c :: r).drop n).length = r.length + 1 - n := by rw [List.length_drop, List.length_cons]
        generalize (c :: r).drop n = y at hdl HS ⊢
        refine (trimLeft y _).mono ?_
        rintro e w3 ⟨rfl, rfl⟩
        go_wp2
        have hyl := Bg.trimL_le y
        refine ⟨⟨y, out ++ [(c :: r).take n], by omega, by simp; omega, rfl, by simpa using hown', hB3, HS.out.symm⟩, ?_⟩
        simp only [strLen, Bg.size_mk, List.length_cons]
        omega
      · have HR : Hid (fieldsOf s = none) := by show _ = none; rw [← hq.out, fields_none HT.out hn]; rfl
        clear hn hc32
        go_wp2
        refine ⟨rfl, ?_⟩
        rw [HR.out]
        exact ⟨b, rfl, hb0, hb1, hB.trans (hB3.mono hB.size)⟩
end Go.Proofs.YtfkdfplnhlnnoaaGreatDoor
