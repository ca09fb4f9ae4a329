import Derived.Test.YtfkdfplnhlnnoaaGreatDoorBgJa06
section
namespace Go.Proofs.YtfkdfplnhlnnoaaGreatDoor
open Go.RowKit
namespace Gr
set_option linter.unusedSimpArgs false
set_option linter.unusedVariables false
/-- the program's word of a document's word -/
def pKind (w : RW) : Int := if w.sort = kName then 2 else if w.sort = kNum ∨ w.sort = kText then 3 else 1
def pSpelt (w : RW) : Bg.Str := if w.sort = kNum ∨ w.sort = kText then [] else w.text
def pVal (w : RW) : Value := if w.sort = kNum then .iface 229 (.int .i64 w.num) else if w.sort = kText then .iface 202 (.string ⟨w.text.toArray⟩) else .nilIface
def pword (w : RW) : Value := .agg #[.int .i64 (pKind w), .string ⟨(pSpelt w).toArray⟩, pVal w]
/-- what first answers -/
def FirstOk (rest : Bg.Str) (v : Value) (n : Int) : Prop := n = (rWord rest).2 ∧ (∃ (a : Int) (b : Bg.Str) (c : Value), v = .agg #[.int .i64 a, .string ⟨b.toArray⟩, c] ∧ (c = .nilIface ∨ ∃ t x, c = .iface t x)) ∧ ((rWord rest).2 ≠ 0 → v = pword (rWord rest).1)
theorem parse_num (c : UInt8) (r : Bg.Str) (hd : Bg.runs Bg.digits (c :: r) = (c :: r).length) :
    (∃ v, Lib.parseIntB 64 (c :: r) = .ok v ∧ Bg.number (c :: r) false = (v, true)) ∨ ((∀ v, Lib.parseIntB 64 (c :: r) ≠ .ok v) ∧ (Bg.number (c :: r) false).2 = false) := by
  have had := Bg.allDig_of hd
  have hn := Bg.dig_not had.1.1
  have n1 : ¬ c.toNat = 43 := fun e => hn.2.1 (UInt8.toNat_inj.1 e)
  have n2 : ¬ c.toNat = 45 := fun e => hn.1 (UInt8.toNat_inj.1 e)
  have hp : Lib.parseIntB 64 (c :: r) = (match Lib.parseUintM 18446744073709551615 0 (c :: r) with
      | .syntax => .syntax
      | .range => .range
      | .ok u => if 9223372036854775808 ≤ u then .range else .ok (u : Int)) := by
    simp [Lib.parseIntB, Lib.parseUintB, n1, n2]
    generalize Lib.parseUintM 18446744073709551615 0 (c :: r) = q; cases q <;> rfl
  rw [Bg.uint_val _ 0 had (by omega)] at hp
  have h := Bg.negNum_val (c :: r) 0 had (by omega)
  rw [show -((0 : Nat) : Int) = 0 from rfl] at h
  have hok := Bg.number_ok had false
  generalize Bg.val 0 (c :: r) = V at hp h hok
  by_cases h2 : 9223372036854775808 ≤ V
  · right
    refine ⟨fun v e => ?_, by rw [hok]; simp; omega⟩
    rw [hp] at e
    by_cases h1 : V ≤ 18446744073709551615
    · rw [if_pos h1] at e; simp only at e; rw [if_pos h2] at e; cases e
    · rw [if_neg h1] at e; cases e
  · left
    refine ⟨(V : Int), ?_, ?_⟩
    · rw [hp, if_pos (by omega)]; simp only; rw [if_neg h2]
    · rw [if_pos (by omega)] at h
      rw [Bg.number_pos h, if_neg (by omega)]
      simp; omega
theorem rWord_num {s : Bg.Str} (hd : 0 < Bg.runs Bg.digits s) : rWord s = if (Bg.number (s.take (Bg.runs Bg.digits s)) false).2 then (⟨kNum, [], (Bg.number (s.take (Bg.runs Bg.digits s)) false).1⟩, Bg.runs Bg.digits s) else rNone := by
  unfold rWord dLen; rw [if_pos hd]
theorem rWord_nam {s : Bg.Str} (hd : ¬ 0 < Bg.runs Bg.digits s) (hn : 0 < Bg.runs (Bg.letters ++ Bg.digits) s) : rWord s = (⟨if Bg.isKey (s.take (Bg.runs (Bg.letters ++ Bg.digits) s)) then kKey else kName, s.take (Bg.runs (Bg.letters ++ Bg.digits) s), 0⟩, Bg.runs (Bg.letters ++ Bg.digits) s) := by
  unfold rWord dLen nLen; rw [if_neg hd, if_pos hn]
theorem wsum {w : World} (o : Obj) : Below w.heap.size w (w.alloc o) := (Below.refl _ w).alloc (Nat.le_refl _) o
set_option maxRecDepth 10000 in
set_option maxHeartbeats 1000000 in
theorem w_number (s : Bg.Str) (w : World) (hs : s.length ≤ 400) (hd : 0 < Bg.runs Bg.digits s) (hv : NumVars w) (hG : 13 ≤ w.heap.size) :
    Calls Tryz.prog 107 #[.string ⟨s.toArray⟩] w fun e w' => Below w.heap.size w w' ∧ ∃ v n, e = .returned (.tuple #[v, .int .i64 n]) ∧ FirstOk s v n := by
  have hex := Bg.ext_mk
  have hdle : Bg.runs Bg.digits s ≤ s.length := Bg.runs_le _ _
  have HF : Hid (Bg.runs Bg.digits (s.take (Bg.runs Bg.digits s)) = (s.take (Bg.runs Bg.digits s)).length) := by
    show _ = _
    exact Bg.runs_all Bg.digits _ (fun j hj => runs_take Bg.digits s _ (List.getElem_mem hj))
  have HR := (show Hid _ from rWord_num hd)
  go_enter Tryz.func107, Tryz.ntmps107
  go_wp2_with fail
  refine (w_Digits s _ (by omega)).mono ?_
  rintro e w' ⟨rfl, rfl⟩
  have HP : Hid ((∃ v, Lib.parseIntB 64 (s.take (Bg.runs Bg.digits s)) = .ok v ∧ Bg.number (s.take (Bg.runs Bg.digits s)) false = (v, true)) ∨ ((∀ v, Lib.parseIntB 64 (s.take (Bg.runs Bg.digits s)) ≠ .ok v) ∧ (Bg.number (s.take (Bg.runs Bg.digits s)) false).2 = false)) := by
    have hF := HF.out
    cases ht : s.take (Bg.runs Bg.digits s) with
    | nil =>
      have := congrArg List.length ht
      rw [List.length_take, List.length_nil] at this
      omega
    | cons c r => rw [ht] at hF; exact parse_num c r hF
  generalize Bg.runs Bg.digits s = d at *
  go_wp2_with fail
  refine (parseInt (s.take d) _ (by rw [List.length_take]; omega) (hv.below (wsum _) hG)).mono ?_
  rintro e w1 ⟨hB1, hcase⟩
  have hB : Below w.heap.size w w1 := (wsum _).trans (hB1.mono (by simp))
  have hlt : w.heap.size < w1.heap.size := Nat.lt_of_lt_of_le (by simp) hB1.size
  obtain ⟨r0, r1, r2, rf⟩ := cells3 ((hB1.block w.heap.size (by simp)).trans (heap_alloc_new w _))
  have rf0 := rf 0
  have rf1 := rf 1
  have rf2 := rf 2
  rcases hcase with ⟨v, hv1, rfl⟩ | ⟨hv1, v, t, p, rfl⟩
  · have HX : Hid (Bg.number (s.take d) false = (v, true)) := by
      rcases HP.out with ⟨v', e1, e2⟩ | ⟨e1, _⟩
      · rw [hv1] at e1; cases e1; exact e2
      · exact absurd hv1 (e1 v)
    clear hv1
    go_wp2_with fail
    refine bodyPost_ret (v := .tuple #[.agg #[.int .i64 3, .string ⟨#[]⟩, .iface 229 (.int .i64 v)], .int .i64 d]) (by simp [results, Tryz.results107, go_sem, r0, r1, r2]) rfl ⟨?_, _, _, rfl, ?_⟩
    · exact ((hB.setCell (p := ⟨w.heap.size, 0, none⟩) (Nat.le_refl _) _).setCell (p := ⟨w.heap.size, 1, none⟩) (Nat.le_refl _) _).setCell (p := ⟨w.heap.size, 2, none⟩) (Nat.le_refl _) _
    · have e := HR.out
      rw [HX.out] at e
      exact ⟨by rw [e]; rfl, ⟨3, [], _, rfl, .inr ⟨_, _, rfl⟩⟩, fun _ => by rw [e]; rfl⟩
  · have HX : Hid ((Bg.number (s.take d) false).2 = false) := by
      rcases HP.out with ⟨v', e1, e2⟩ | ⟨_, e2⟩
      · exact absurd e1 (hv1 v')
      · exact e2
    clear hv1
    go_wp2_with fail
    refine bodyPost_ret (v := .tuple #[.agg #[.int .i64 0, .string ⟨#[]⟩, .nilIface], .int .i64 0]) (by simp [results, Tryz.results107, go_sem, r0, r1, r2]) rfl ⟨?_, _, _, rfl, ?_⟩
    · exact ((hB.setCell (p := ⟨w.heap.size, 0, none⟩) (Nat.le_refl _) _).setCell (p := ⟨w.heap.size, 1, none⟩) (Nat.le_refl _) _).setCell (p := ⟨w.heap.size, 2, none⟩) (Nat.le_refl _) _
    · have e := HR.out
      rw [HX.out] at e
      exact ⟨by rw [e]; rfl, ⟨0, [], _, rfl, .inl rfl⟩, fun h => absurd (by rw [e]; rfl) h⟩
end Gr
end Go.Proofs.YtfkdfplnhlnnoaaGreatDoor
end
section
namespace Go.Proofs.YtfkdfplnhlnnoaaGreatDoor
open Go.RowKit
namespace Gr
set_option linter.unusedSimpArgs false
set_option linter.unusedVariables false
theorem keyset1.lt {w : World} {b n : Nat} {ks : List Bg.Str} (h : keyset1 w b n ks) : b < w.heap.size := by
  obtain ⟨es, clock, hb, _⟩ := h
  exact (Array.getElem?_eq_some_iff.1 hb).1
theorem keyset1.below {w w' : World} {b n : Nat} {ks : List Bg.Str} (h : keyset1 w b n ks) (hB : Below w.heap.size w w') : keyset1 w' b n ks := keyset1_block h (hB.block _ h.lt)
set_option maxRecDepth 10000 in
set_option maxHeartbeats 1000000 in
theorem w_name (s : Bg.Str) (Kb nk : Nat) (w : World) (hs : s.length ≤ 400) (hd : ¬ 0 < Bg.runs Bg.digits s) (hn : 0 < Bg.runs (Bg.letters ++ Bg.digits) s) (hK : keyset1 w Kb nk kwsAll) :
    Calls Tryz.prog 109 #[.string ⟨s.toArray⟩, .map (some Kb)] w fun e w' => Below w.heap.size w w' ∧ ∃ v n, e = .returned (.tuple #[v, .int .i64 n]) ∧ FirstOk s v n := by
  have hex := Bg.ext_mk
  have hnle : Bg.runs (Bg.letters ++ Bg.digits) s ≤ s.length := Bg.runs_le _ _
  have HR := (show Hid _ from rWord_nam hd hn)
  have hnb := fun w => w_NameBytes s w (by omega)
  rw [if_neg hd] at hnb
  have hk32 : (32 : UInt8) ∉ s.take (Bg.runs (Bg.letters ++ Bg.digits) s) := fun hx => absurd (runs_take _ s _ hx) (by decide)
  have HKW : Hid (kwsAll.contains (s.take (Bg.runs (Bg.letters ++ Bg.digits) s)) = Bg.isKey (s.take (Bg.runs (Bg.letters ++ Bg.digits) s))) := key_kws _ hk32
  clear hk32
  generalize Bg.runs (Bg.letters ++ Bg.digits) s = n at *
  obtain ⟨v, hl, hv1⟩ := look_kind1 (keyset1.below hK (wsum (.cells #[.int .i64 0, .string ⟨#[]⟩, .nilIface] 139))) (s.take n) (by rw [List.length_take]; omega)
  rw [HKW.out] at hl hv1
  obtain ⟨r0, r1, r2, rf⟩ := cells3 (heap_alloc_new w (.cells #[.int .i64 0, .string ⟨#[]⟩, .nilIface] 139))
  cases hk : Bg.isKey (s.take n) with
  | true =>
    rw [hk] at hl
    have hv2 := hv1 hk
    subst hv2
    have HX : Hid (rWord s = (⟨kKey, s.take n, 0⟩, n)) := by show _ = _; rw [HR.out, hk]; rfl
    clear hv1 HR HKW hk
    go_enter Tryz.func109, Tryz.ntmps109
    go_wp2_with fail
    refine (hnb _).mono ?_
    rintro e w' ⟨rfl, rfl⟩
    go_wp2_with fail
    refine bodyPost_ret (v := .tuple #[.agg #[.int .i64 1, .string ⟨(s.take n).toArray⟩, .nilIface], .int .i64 n]) (by simp [results, Tryz.results109, go_sem, r0, r1, r2]) rfl ⟨?_, _, _, rfl, ?_⟩
    · exact wsum _
    · exact ⟨by rw [HX.out], ⟨1, _, _, rfl, .inl rfl⟩, fun _ => by rw [HX.out]; rfl⟩
  | false =>
    rw [hk] at hl
    have HX : Hid (rWord s = (⟨kName, s.take n, 0⟩, n)) := by show _ = _; rw [HR.out, hk]; rfl
    clear hv1 HR HKW hk
    go_enter Tryz.func109, Tryz.ntmps109
    go_wp2_with fail
    refine (hnb _).mono ?_
    rintro e w' ⟨rfl, rfl⟩
    go_wp2_with fail
    refine bodyPost_ret (v := .tuple #[.agg #[.int .i64 2, .string ⟨(s.take n).toArray⟩, .nilIface], .int .i64 n]) (by simp [results, Tryz.results109, go_sem, r0, r1, r2]) rfl ⟨?_, _, _, rfl, ?_⟩
    · exact wsum _
    · exact ⟨by rw [HX.out], ⟨2, _, _, rfl, .inl rfl⟩, fun _ => by rw [HX.out]; rfl⟩
/-- the signs, as the program's variable holds them -/
def sgW : List Bg.Str := [[60, 62], [60, 61], [62, 61], [40], [41], [44], [46], [42], [43], [45], [47], [37], [61], [60], [62]]
def Signs (w : World) : Prop := ∀ k (h : k < sgW.length), w.cell? ⟨3, k, none⟩ = some (.string ⟨sgW[k].toArray⟩)
/-- what begins with no digit, no letter, no quote -/
structure Odd (c : UInt8) (r : Bg.Str) : Prop where
  d : ¬ 0 < Bg.runs Bg.digits (c :: r)
  n : ¬ 0 < Bg.runs (Bg.letters ++ Bg.digits) (c :: r)
  q : c ≠ 39
theorem Odd.word {c : UInt8} {r : Bg.Str} (h : Odd c r) : rWord (c :: r) = if two (c :: r) then (⟨kSign, (c :: r).take 2, 0⟩, 2) else if signSet.contains c then (⟨kSign, [c], 0⟩, 1) else rNone := by
  unfold rWord dLen nLen; rw [if_neg h.d, if_neg h.n, if_neg (by simpa using h.q)]
  simp only [List.take_succ_cons, List.take_zero, Bg.occ_one]
theorem pre1 (c : UInt8) (r : Bg.Str) (a : UInt8) : Lib.hasPrefix (c :: r) [a] = (c == a) := by
  simp [Lib.hasPrefix, List.isPrefixOf, Bool.beq_comm (a := c)]
theorem sign_two {c : UInt8} {r : Bg.Str} (h : Odd c r) {x y : UInt8} (hxy : [x, y] ∈ [[60, 62], [60, 61], [62, 61]]) (hp : Lib.hasPrefix (c :: r) [x, y] = true) : rWord (c :: r) = (⟨kSign, [x, y], 0⟩, 2) := by
  rw [pre2] at hp
  have e : (c :: r).take 2 = [x, y] := by simpa using hp
  have ht : two (c :: r) = true := by
    unfold two; rw [e]
    simp only [List.mem_cons, List.not_mem_nil, or_false] at hxy
    rcases hxy with h | h | h <;> rw [h] <;> rfl
  rw [h.word, if_pos ht, e]
theorem two_no {c : UInt8} {r : Bg.Str} (h2 : ∀ k (hk : k < sgW.length), k < 3 → Lib.hasPrefix (c :: r) sgW[k] = false) : ¬ two (c :: r) = true := by
  have a0 := h2 0 (by decide) (by decide)
  have a1 := h2 1 (by decide) (by decide)
  have a2 := h2 2 (by decide) (by decide)
  simp only [sgW, List.getElem_cons_zero, List.getElem_cons_succ, pre2] at a0 a1 a2
  unfold two
  rw [a0, a1, a2]; decide
theorem sign_one {c : UInt8} {r : Bg.Str} (h : Odd c r) (h2 : ∀ k (hk : k < sgW.length), k < 3 → Lib.hasPrefix (c :: r) sgW[k] = false) {x : UInt8} (hx : signSet.contains x = true) (hp : Lib.hasPrefix (c :: r) [x] = true) : rWord (c :: r) = (⟨kSign, [x], 0⟩, 1) := by
  rw [pre1] at hp
  obtain rfl : c = x := by simpa using hp
  rw [h.word, if_neg (two_no h2), if_pos hx]
theorem sign_none {c : UInt8} {r : Bg.Str} (h : Odd c r) (hall : ∀ k (hk : k < sgW.length), Lib.hasPrefix (c :: r) sgW[k] = false) : rWord (c :: r) = rNone := by
  rw [h.word, if_neg (two_no (fun k hk _ => hall k hk)), if_neg]
  intro hc
  have hm : c ∈ signSet := by simpa using hc
  have : ∀ x ∈ signSet, ∃ k, ∃ hk : k < sgW.length, sgW[k] = [x] := by decide
  obtain ⟨k, hk, e⟩ := this c hm
  have := hall k hk
  rw [e, pre1] at this
  simp at this
theorem idxK (k : Nat) (hk : k < 15) (w : World) : (Instr.index 230 (.agg #[.string ⟨#[60, 62]⟩, .string ⟨#[60, 61]⟩, .string ⟨#[62, 61]⟩, .string ⟨#[40]⟩, .string ⟨#[41]⟩, .string ⟨#[44]⟩, .string ⟨#[46]⟩, .string ⟨#[42]⟩, .string ⟨#[43]⟩, .string ⟨#[45]⟩, .string ⟨#[47]⟩, .string ⟨#[37]⟩, .string ⟨#[61]⟩, .string ⟨#[60]⟩, .string ⟨#[62]⟩]) (.int .i64 k)).run Tryz.prog w = .ok (.string ⟨(sgW.getD k []).toArray⟩) w := by
  rcases k with _ | _ | _ | _ | _ | _ | _ | _ | _ | _ | _ | _ | _ | _ | _ | k <;> first | omega | kernel_rfl
set_option maxRecDepth 10000 in
set_option maxHeartbeats 4000000 in
theorem w_sign (c : UInt8) (r : Bg.Str) (w : World) (hs : (c :: r).length ≤ 400) (hO : Odd c r) (hS : Signs w) :
    Calls Tryz.prog 111 #[.string ⟨(c :: r).toArray⟩] w fun e w' => Below w.heap.size w w' ∧ ∃ v n, e = .returned (.tuple #[v, .int .i64 n]) ∧ FirstOk (c :: r) v n := by
  have hex := Bg.ext_mk
  have c0 := hS 0 (by decide)
  have c1 := hS 1 (by decide)
  have c2 := hS 2 (by decide)
  have c3 := hS 3 (by decide)
  have c4 := hS 4 (by decide)
  have c5 := hS 5 (by decide)
  have c6 := hS 6 (by decide)
  have c7 := hS 7 (by decide)
  have c8 := hS 8 (by decide)
  have c9 := hS 9 (by decide)
  have c10 := hS 10 (by decide)
  have c11 := hS 11 (by decide)
  have c12 := hS 12 (by decide)
  have c13 := hS 13 (by decide)
  have c14 := hS 14 (by decide)
  have hlt : 3 < w.heap.size := World.block_lt_of_cell? _ _ c0
  simp only [sgW, List.getElem_cons_zero, List.getElem_cons_succ] at c0 c1 c2 c3 c4 c5 c6 c7 c8 c9 c10 c11 c12 c13 c14
  obtain ⟨r0, r1, r2, rf⟩ := cells3 (heap_alloc_new w (.cells #[.int .i64 0, .string ⟨#[]⟩, .nilIface] 139))
  go_enter Tryz.func111, Tryz.ntmps111
  go_wp2_with fail
  clear c0 c1 c2 c3 c4 c5 c6 c7 c8 c9 c10 c11 c12 c13 c14
  have hB : Below w.heap.size w (w.alloc (.cells #[.int .i64 0, .string ⟨#[]⟩, .nilIface] 139)) := wsum _
  have rf0 := rf 0
  have rf1 := rf 1
  have rf2 := rf 2
  clear rf
  generalize w.alloc (.cells #[.int .i64 0, .string ⟨#[]⟩, .nilIface] 139) = w0 at hB r0 r1 r2 rf0 rf1 rf2 ⊢
  go_loopg [7] (15 + 1) (fun gk iv wr => ∃ k : Nat, k ≤ 15 ∧ gk = 15 - k + 1 ∧ iv = .int .i64 k ∧ w0 = wr ∧ Hid (∀ k' (hk : k' < sgW.length), k' < k → Lib.hasPrefix (c :: r) sgW[k'] = false))
  case atStart => exact ⟨0, by omega, by omega, rfl, rfl, fun k' _ h => by omega⟩
  case round =>
    obtain ⟨k, hk, rfl, rfl, rfl, hno⟩ := hrel
    by_cases hkl : k < 15
    · have hq : 1 ≤ (sgW.getD k []).length ∧ (sgW.getD k []).length ≤ 2 := by
        have : ∀ k < 15, 1 ≤ (sgW.getD k []).length ∧ (sgW.getD k []).length ≤ 2 := by decide
        exact this k hkl
      have HW : Hid (Lib.hasPrefix (c :: r) (sgW.getD k []) = true → rWord (c :: r) = (⟨kSign, sgW.getD k [], 0⟩, (sgW.getD k []).length)) := by
        intro hp
        by_cases h3 : k < 3
        · rcases k with _ | _ | _ | k
          · exact sign_two hO (by decide) hp
          · exact sign_two hO (by decide) hp
          · exact sign_two hO (by decide) hp
          · omega
        · have : ∀ k < 15, 3 ≤ k → sgW.getD k [] = [(sgW.getD k []).headD 0] ∧ signSet.contains ((sgW.getD k []).headD 0) = true := by decide
          obtain ⟨e, hx⟩ := this k hkl (by omega)
          generalize (sgW.getD k []).headD 0 = x at e hx
          rw [e] at hp ⊢
          exact sign_one hO (fun k' hk h => hno.out k' hk (by omega)) hx hp
      have HG : Hid (∀ hk : k < sgW.length, sgW[k] = sgW.getD k []) := fun hk => by rw [List.getD_eq_getElem?_getD, List.getElem?_eq_getElem hk]; rfl
      have hix := idxK k hkl
      generalize sgW.getD k [] = s at hix hq HW HG
      obtain ⟨hq1, hq2⟩ := hq
      go_wp2_with fail
      refine (Tryz.strings_HasPrefix _ _ _).mono ?_
      rintro e w' ⟨rfl, hw⟩
      obtain rfl := hw.symm
      rw [show (ByteArray.mk (c :: r).toArray).data.toList = c :: r from rfl, show (ByteArray.mk s.toArray).data.toList = s from rfl]
      cases hp : Lib.hasPrefix (c :: r) s with
      | true =>
        have HX := (show Hid _ from HW.out hp)
        clear hp
        go_wp2_with fail
        refine bodyPost_ret (v := .tuple #[.agg #[.int .i64 1, .string ⟨s.toArray⟩, .nilIface], .int .i64 s.length]) (by simp [results, Tryz.results111, go_sem, r0, r1, r2]) rfl ⟨?_, _, _, rfl, ?_⟩
        · exact ((hB.setCell (p := ⟨w.heap.size, 0, none⟩) (Nat.le_refl _) _).setCell (p := ⟨w.heap.size, 1, none⟩) (Nat.le_refl _) _).setCell (p := ⟨w.heap.size, 2, none⟩) (Nat.le_refl _) _
        · exact ⟨by rw [HX.out], ⟨1, _, _, rfl, .inl rfl⟩, fun _ => by rw [HX.out]; rfl⟩
      | false =>
        have HN : Hid (∀ k' (hk : k' < sgW.length), k' < k + 1 → Lib.hasPrefix (c :: r) sgW[k'] = false) := fun k' hx h => by
          by_cases e : k' = k
          · subst e; rw [HG.out hx]; exact hp
          · exact hno.out k' hx (by omega)
        clear hp
        go_wp2_with fail
        go_roundg (15 - (k + 1) + 1)
        case measure => omega
        case rel => exact ⟨k + 1, by omega, rfl, rfl, rfl, HN⟩
    · obtain rfl : k = 15 := by omega
      have HX : Hid (rWord (c :: r) = rNone) := sign_none hO (fun k' hk => hno.out k' hk hk)
      go_wp2_with fail
      refine bodyPost_ret (v := .tuple #[.agg #[.int .i64 0, .string ⟨#[]⟩, .nilIface], .int .i64 0]) (by simp [results, Tryz.results111, go_sem, r0, r1, r2]) rfl ⟨?_, _, _, rfl, ?_⟩
      · exact ((hB.setCell (p := ⟨w.heap.size, 0, none⟩) (Nat.le_refl _) _).setCell (p := ⟨w.heap.size, 1, none⟩) (Nat.le_refl _) _).setCell (p := ⟨w.heap.size, 2, none⟩) (Nat.le_refl _) _
      · exact ⟨by rw [HX.out]; rfl, ⟨0, [], _, rfl, .inl rfl⟩, fun h => absurd (by rw [HX.out]; rfl) h⟩
end Gr
end Go.Proofs.YtfkdfplnhlnnoaaGreatDoor
end
