/- package tables: table. -/
import Derived.Test.YtfkdfplnhlnnoaaGreatDoorBgChunk
namespace Go.Proofs.YtfkdfplnhlnnoaaGreatDoor
open Go.RowKit Go.Shelf
set_option linter.unusedSimpArgs false
set_option linter.unusedVariables false
attribute [local go_sem] Oper.semAt_some

theorem zeroPtr (w : World) : (zeroValue 106).run Tryz.prog w = .ok (.pointer none) w := by kernel_rfl
theorem look_tab {w : World} {M n : Nat} {ks : List Bg.Str} (h : keyset w M n ks) (s : Bg.Str) (hs : s.length ≤ 100000) :
    ∃ v, (Instr.lookup 71 (.map (some M)) (.string ⟨s.toArray⟩) true).run Tryz.prog w = .ok (.tuple #[v, .bool (ks.contains s)]) w := by
  obtain ⟨v, ps, hrun, _⟩ := World.ownsMap.look_ok (R := anyElem) (D := keyD ks) h strKeyed Tryz.underlying71 (zeroPtr w) rfl (strKey s hs)
  rw [has_keys] at hrun
  exact ⟨v, hrun⟩

def lenOk (n : Nat) : Bool := decide (3 ≤ n ∧ n % 2 = 1 ∧ n ≤ 13)
set_option maxRecDepth 100000 in
set_option maxHeartbeats 1000000 in
theorem r_table_len (B R M Kb : Nat) (kws : List Bg.Str) (line : Int) (st : St) (fv : Value) (l : List Bg.Str) (W : World) (hll : l.length ≤ 90000) (hI : RInv B R M Kb kws line st W) (hv : viewS W fv l) (hlen : lenOk l.length = false) :
    Calls Tryz.prog 68 #[.pointer (some ⟨R, 0, none⟩), fv] W fun e W' => bad B line W e W' := by
  have hl2 : ¬ (3 ≤ l.length ∧ l.length % 2 = 1 ∧ l.length ≤ 13) := of_decide_eq_false hlen
  obtain ⟨v, hR, hv0⟩ := hI.last
  have c0 : W.cell? ⟨R, 0, none⟩ = some (.int .i64 line) := by simp [World.cell?, hR]
  obtain ⟨a, cap, rfl, _⟩ := hv
  have hRl : R < W.heap.size := (Array.getElem?_eq_some_iff.1 hR).1
  have c0a : ∀ o, (W.alloc o).cell? ⟨R, 0, none⟩ = some (.int .i64 line) := fun o => (World.cell?_alloc_lt W o ⟨R, 0, none⟩ hRl).trans c0
  have hBW := hI.hB
  clear hlen hv0 hI
  by_cases h1 : 3 ≤ l.length
  · by_cases h2 : l.length % 2 = 1
    · have e2 : (l.length : Int) % 2 = 1 := by omega
      have e3 : ¬ (l.length : Int) ≤ 13 := by omega
      have d3 : decide ((l.length : Int) ≤ 13) = false := by simp; omega
      clear hl2
      go_enter Tryz.func68, Tryz.ntmps68
      go_wp2_with fail
      refine (r_must_false R line _ (c0a _)).mono ?_
      rintro e w3 ⟨b, rfl, hb0, hb1, hB3⟩
      go_wp2
      exact ⟨rfl, b, rfl, hb0, hb1, ((Below.refl _ W).alloc (Nat.le_refl _) _ |>.mono hBW).trans (hB3.mono (by simp; omega))⟩
    · have e2 : ¬ (l.length : Int) % 2 = 1 := by omega
      have d2 : ((l.length : Int) % 2 == 1) = false := by simp; omega
      clear hl2
      go_enter Tryz.func68, Tryz.ntmps68
      go_wp2_with fail
      refine (r_must_false R line _ (c0a _)).mono ?_
      rintro e w3 ⟨b, rfl, hb0, hb1, hB3⟩
      go_wp2
      exact ⟨rfl, b, rfl, hb0, hb1, ((Below.refl _ W).alloc (Nat.le_refl _) _ |>.mono hBW).trans (hB3.mono (by simp; omega))⟩
  · have d1 : decide ((3 : Int) ≤ (l.length : Int)) = false := by simp; omega
    clear hl2
    go_enter Tryz.func68, Tryz.ntmps68
    go_wp2_with fail
    refine (r_must_false R line _ (c0a _)).mono ?_
    rintro e w3 ⟨b, rfl, hb0, hb1, hB3⟩
    go_wp2
    exact ⟨rfl, b, rfl, hb0, hb1, ((Below.refl _ W).alloc (Nat.le_refl _) _ |>.mono hBW).trans (hB3.mono (by simp; omega))⟩
end Go.Proofs.YtfkdfplnhlnnoaaGreatDoor
