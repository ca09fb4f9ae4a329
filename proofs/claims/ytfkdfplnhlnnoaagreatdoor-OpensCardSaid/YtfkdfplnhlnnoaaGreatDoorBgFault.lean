/- package fault: Throw, Catch. -/
import Derived.Test.YtfkdfplnhlnnoaaGreatDoorChecked
import Derived.WalkKit
import Derived.WalkSpells
import Derived.WalkLawsBesides
import Derived.Recover
import Derived.Defers
namespace Go.Proofs.YtfkdfplnhlnnoaaGreatDoor
open Go.RowKit

/-- the one entry of a panic that is a Fault -/
def thrown (b : Nat) : List PanicEntry := [{ v := .iface 76 (.pointer (some ⟨b, 0, none⟩)), recovered := false }]

set_option maxRecDepth 100000 in
set_option maxHeartbeats 400000 in
theorem throw_any (kind at_ : Int) (w : World) :
    Calls Tryz.prog 44 #[.int .i64 kind, .int .i64 at_] w fun e w' => e = .panicked (thrown w.heap.size) ∧ w.alloc (.cells #[.int .i64 kind, .int .i64 at_] 81) = w' := by
  go_enter Tryz.func44, Tryz.ntmps44
  go_wp2
  exact ⟨rfl, rfl, rfl⟩

set_option maxRecDepth 100000 in
set_option maxHeartbeats 400000 in
theorem catchDB_idle (pe po : Addr) (w : World) :
    CallsD Tryz.prog 43 #[.pointer (some pe), .pointer (some po)] .returning w fun e u' w' => e = .returned (.tuple #[]) ∧ u' = .returning ∧ w' = w := by
  refine callsD_of_wpS Tryz.func43 rfl fun c₀ cs hu => ?_
  simp only [Tryz.ntmps43, List.size_toArray, List.length_cons, List.length_nil, Nat.reduceAdd, Nat.reduceSub, Array.replicate_succ, Array.replicate_zero, List.push_toArray, List.append_toArray, List.nil_append, List.cons_append]
  apply wpS_seq
  apply wpS_region
  simp [wpOpsS, go_sem, recoverD, hu, Exit.thenS]
  refine wpS_of_wp ?_
  go_wp2
  cases c₀
  simp_all [bodyPostS, results, Tryz.results43]

set_option maxRecDepth 100000 in
set_option maxHeartbeats 400000 in
theorem catchDB_fault (pe po : Addr) (b : Nat) (old : Value) (w : World) (hc : w.cell? pe = some old) (hz : w.frozen? pe = false) :
    CallsD Tryz.prog 43 #[.pointer (some pe), .pointer (some po)] (.panicking (thrown b)) w fun e u' w' =>
      e = .returned (.tuple #[]) ∧ u' = .panicking [{ v := .iface 76 (.pointer (some ⟨b, 0, none⟩)), recovered := true }] ∧ w' = w.setCell pe (.iface 76 (.pointer (some ⟨b, 0, none⟩))) := by
  refine callsD_of_wpS Tryz.func43 rfl fun c₀ cs hu => ?_
  simp only [Tryz.ntmps43, List.size_toArray, List.length_cons, List.length_nil, Nat.reduceAdd, Nat.reduceSub, Array.replicate_succ, Array.replicate_zero, List.push_toArray, List.append_toArray, List.nil_append, List.cons_append]
  apply wpS_seq
  apply wpS_region
  simp [wpOpsS, go_sem, recoverD, hu, thrown, Exit.thenS]
  refine wpS_of_wp ?_
  have hta : ∀ w, (Instr.typeAssert (.iface 76 (.pointer (some ⟨b, 0, none⟩))) 20 76 true).run Tryz.prog w = .ok (.tuple #[.pointer (some ⟨b, 0, none⟩), .bool true]) w := fun _ => by kernel_rfl
  go_wp2
  cases c₀
  simp_all [bodyPostS, results, Tryz.results43]

/-- the world in which Catch calls the work: two new variables -/
abbrev catchW (w : World) (other : Int) : World := (w.alloc (.cells #[.int .i64 other] 70)).alloc (.cells #[.nilIface] 36)
/-- the fault at b, as an error -/
abbrev faultV (b : Nat) : Value := .iface 76 (.pointer (some ⟨b, 0, none⟩))

set_option maxRecDepth 100000 in
set_option maxHeartbeats 400000 in
theorem catchDB (pd : Addr) (other : Int) (w : World) (G : Addr → World → Prop) (B : Nat → World → Prop)
    (h : Calls Tryz.prog 28 #[.pointer (some pd)] (catchW w other) fun e w2 => Below (w.heap.size + 2) (catchW w other) w2 ∧
      ((∃ q, e = .returned (.pointer (some q)) ∧ G q w2) ∨ (∃ b, e = .panicked (thrown b) ∧ B b w2))) :
    Calls Tryz.prog 27 #[.int .i64 other, .func (.func 28) #[] #[.pointer (some pd)]] w fun e w' => ∃ w2, Below (w.heap.size + 2) (catchW w other) w2 ∧
      ((∃ q, G q w2 ∧ e = .returned (.tuple #[.pointer (some q), .nilIface]) ∧ w' = w2.setCell ⟨w.heap.size + 1, 0, none⟩ .nilIface) ∨
       (∃ b, B b w2 ∧ e = .returned (.tuple #[.pointer none, faultV b]) ∧ w' = w2.setCell ⟨w.heap.size + 1, 0, none⟩ (faultV b))) := by
  have hmf : ∀ (fn : Fn) (first cap : Array Value) (w : World), (Instr.makeFunc fn first cap).run Tryz.prog w = .ok (.func fn first cap) w := fun _ _ _ _ => rfl
  have hc1 : (catchW w other).cell? ⟨w.heap.size + 1, 0, none⟩ = some .nilIface := by simp [catchW]
  have hf1 : (catchW w other).frozen? ⟨w.heap.size + 1, 0, none⟩ = false := by simp [catchW]
  have H := h
  have HH : Hid (Calls Tryz.prog 28 #[.pointer (some pd)] (catchW w other) fun e w2 => Below (w.heap.size + 2) (catchW w other) w2 ∧
      ((∃ q, e = .returned (.pointer (some q)) ∧ G q w2) ∨ (∃ b, e = .panicked (thrown b) ∧ B b w2))) := H
  clear h H
  go_enter_defers Tryz.func27, Tryz.ntmps27
  go_wp2_with fail
  refine HH.out.mono ?_
  rintro e w2 ⟨hB, ⟨q, rfl, hG⟩ | ⟨b, rfl, hBad⟩⟩
  · have hc2 : w2.cell? ⟨w.heap.size + 1, 0, none⟩ = some .nilIface := (hB.cell (p := ⟨w.heap.size + 1, 0, none⟩) (by simp)).trans hc1
    have hf2 : w2.frozen? ⟨w.heap.size + 1, 0, none⟩ = false := (hB.frozen (p := ⟨w.heap.size + 1, 0, none⟩) (by simp)).trans hf1
    go_wp2
    refine leaves_cons (f := 43) (args := #[.pointer (some ⟨w.heap.size + 1, 0, none⟩), .pointer (some ⟨w.heap.size, 0, none⟩)]) (by simp) (by simp [go_sem]) ?_
    refine (catchDB_idle _ _ _).mono ?_
    rintro e u' w'' ⟨rfl, rfl, rfl⟩
    have hc3 : (w2.setCell ⟨w.heap.size + 1, 0, none⟩ .nilIface).cell? ⟨w.heap.size + 1, 0, none⟩ = some .nilIface := World.cell?_setCell_same' _ _ _ (by rw [hc2]; rfl)
    exact ⟨.tuple #[.pointer (some q), .nilIface], by simp [results, Tryz.results27, go_sem, hc3], w2, hB, .inl ⟨q, hG, rfl, rfl⟩⟩
  · have hc2 : w2.cell? ⟨w.heap.size + 1, 0, none⟩ = some .nilIface := (hB.cell (p := ⟨w.heap.size + 1, 0, none⟩) (by simp)).trans hc1
    have hf2 : w2.frozen? ⟨w.heap.size + 1, 0, none⟩ = false := (hB.frozen (p := ⟨w.heap.size + 1, 0, none⟩) (by simp)).trans hf1
    go_wp2
    refine leaves_cons (f := 43) (args := #[.pointer (some ⟨w.heap.size + 1, 0, none⟩), .pointer (some ⟨w.heap.size, 0, none⟩)]) (by simp) (by simp [go_sem]) ?_
    refine (catchDB_fault _ _ b .nilIface _ hc2 hf2).mono ?_
    rintro e u' w'' ⟨rfl, rfl, rfl⟩
    have hc3 : (w2.setCell ⟨w.heap.size + 1, 0, none⟩ (faultV b)).cell? ⟨w.heap.size + 1, 0, none⟩ = some (faultV b) := World.cell?_setCell_same' _ _ _ (by rw [hc2]; rfl)
    exact ⟨.tuple #[.pointer none, faultV b], by simp [results, Tryz.results27, go_sem, hc3], w2, hB, .inr ⟨b, hBad, rfl, rfl⟩⟩
end Go.Proofs.YtfkdfplnhlnnoaaGreatDoor
