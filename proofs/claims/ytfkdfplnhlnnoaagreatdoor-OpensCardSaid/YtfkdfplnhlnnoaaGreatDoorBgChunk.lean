/- slices.Chunk at pairs: its iterator, for every loop body that goes on or panics. -/
import Derived.Test.YtfkdfplnhlnnoaaGreatDoorBgRange
import Derived.Test.YtfkdfplnhlnnoaaGreatDoorBgReadE
import Derived.Deep.QuietTactic
import Derived.BigQuiet
namespace Go.Proofs.YtfkdfplnhlnnoaaGreatDoor
open Go.RowKit Go.Shelf
set_option linter.unusedSimpArgs false
set_option linter.unusedVariables false
attribute [local go_sem] Oper.semAt_some

set_option maxRecDepth 100000 in
set_option maxHeartbeats 1000000 in
theorem chunk_iter (l Bs Bn g o m cap : Nat) (W : World) (hm : m ≤ 6) (hcap : 2 * m ≤ cap) (hcap2 : cap ≤ maxLen)
    (h0 : W.cell? ⟨Bs, 0, none⟩ = some (.slice (some ⟨g, o, none⟩) (2 * m) cap)) (h1 : W.cell? ⟨Bn, 0, none⟩ = some (.int .i64 2))
    (J : Nat → World → Prop) (Jp : List PanicEntry → World → Prop) (hJd : ∀ k A n, J k A → J k (A.drewN n))
    (hY : ∀ k W1, J k W1 → k < m → YieldAt Fence.wide 2 Tryz.prog l #[.slice (some ⟨g, o + 2 * k, none⟩) 2 2] W1 fun e W' =>
      (e = .returned (.bool true) ∧ J (k + 1) W' ∧ W'.heap[Bs]? = W1.heap[Bs]? ∧ W'.heap[Bn]? = W1.heap[Bn]?) ∨ (∃ ch, e = .panicked ch ∧ Jp ch W'))
    (hstart : J 0 W) :
    CallsIn Fence.wide 3 Tryz.prog 131 #[.func (.yield l) #[] #[], .pointer (some ⟨Bs, 0, none⟩), .pointer (some ⟨Bn, 0, none⟩)] W fun e W' =>
      (∃ v, e = .returned v ∧ J m W') ∨ (∃ ch, e = .panicked ch ∧ Jp ch W') := by
  unfold maxLen at hcap2
  refine callsIn_of_wp Tryz.func131 rfl trivial ?_ rfl
  simp only [Tryz.ntmps131, List.size_toArray, List.length_cons, List.length_nil, Nat.reduceAdd, Nat.reduceSub, Array.replicate_succ, Array.replicate_zero, List.push_toArray, List.append_toArray, List.nil_append, List.cons_append]
  have HYH : Hid (∀ k W1, J k W1 → k < m → YieldAt Fence.wide 2 Tryz.prog l #[.slice (some ⟨g, o + 2 * k, none⟩) 2 2] W1 fun e W' =>
      (e = .returned (.bool true) ∧ J (k + 1) W' ∧ W'.heap[Bs]? = W1.heap[Bs]? ∧ W'.heap[Bn]? = W1.heap[Bn]?) ∨ (∃ ch, e = .panicked ch ∧ Jp ch W')) := hY
  have HJd : Hid (∀ k A n, J k A → J k (A.drewN n)) := hJd
  clear hY hJd
  gi_wp2
  gi_loopw [4] (fun i wr => ∃ k : Nat, k ≤ m ∧ i = .int .i64 (2 * k : Nat) ∧ wr.cell? ⟨Bs, 0, none⟩ = some (.slice (some ⟨g, o, none⟩) (2 * m) cap) ∧ wr.cell? ⟨Bn, 0, none⟩ = some (.int .i64 2) ∧ J k wr) (fun i _ => 2 * m - (intOf i).toNat)
  case atStart => exact ⟨0, by omega, rfl, h0, h1, hstart⟩
  case round =>
    clear h0 h1 hstart
    obtain ⟨k, hk, rfl, h0, h1, hj⟩ := hrel
    by_cases hlt : k < m
    · gi_wp2
      refine wpIn_wide.2 ?_
      go_quiet (fail)
      rw [show min (2 : Int) ((2 * m - 2 * k : Nat) : Int) = 2 from by omega]
      have hj1 : J k (wr.drewN nq) := HJd.out k wr nq hj
      obtain ⟨fn, tmps, assign, body, hy, hR⟩ := HYH.out k _ hj1 hlt
      have HR : Hid _ := hR
      clear hR
      gi_wp2
      refine RoundIn.mono HR.out ?_
      rintro e W3 (⟨rfl, hJ3, hb0, hb1⟩ | ⟨ch, rfl, hp⟩)
      · have c0 : W3.cell? ⟨Bs, 0, none⟩ = some (.slice (some ⟨g, o, none⟩) (2 * m) cap) := (World.cell?_of_block (w := wr) (a := ⟨Bs, 0, none⟩) hb0).trans h0
        have c1 : W3.cell? ⟨Bn, 0, none⟩ = some (.int .i64 2) := (World.cell?_of_block (w := wr) (a := ⟨Bn, 0, none⟩) hb1).trans h1
        clear hb0 hb1 hy
        gi_wp2
        refine ⟨⟨k + 1, by omega, ?_, c0, c1, hJ3⟩, ?_⟩
        · exact vint (by omega)
        · simp [intOf]; omega
      · gi_wp2
        exact ⟨rfl, .inr ⟨ch, rfl, hp⟩⟩
    · gi_wp2
      go_end0
      obtain rfl : k = m := by omega
      exact .inl ⟨_, rfl, hj⟩
end Go.Proofs.YtfkdfplnhlnnoaaGreatDoor
