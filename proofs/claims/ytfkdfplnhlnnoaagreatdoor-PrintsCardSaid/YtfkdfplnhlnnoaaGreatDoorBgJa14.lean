import Derived.Test.YtfkdfplnhlnnoaaGreatDoorBgAns
import Derived.Test.YtfkdfplnhlnnoaaGreatDoorBgJa11
import Derived.Test.YtfkdfplnhlnnoaaGreatDoorBgJa12
section
namespace Go.Proofs.YtfkdfplnhlnnoaaGreatDoor
open Go.RowKit
namespace Gr
set_option linter.unusedSimpArgs false
set_option linter.unusedVariables false
/-- the words in the program's memory -/
def PWords (Pb : Nat) (W : World) (wa : Option Addr) (ws : List RW) : Prop := ∀ i (h : i < ws.length), ∃ g, wa = some ⟨g, 0, none⟩ ∧ g ≠ Pb ∧ W.cell? ⟨g, i * 3, none⟩ = some (.int .i64 (pKind ws[i])) ∧ W.cell? ⟨g, i * 3 + 1, none⟩ = some (.string ⟨(pSpelt ws[i]).toArray⟩) ∧ W.cell? ⟨g, i * 3 + 2, none⟩ = some (pVal ws[i])
/-- the parser at block Pb has read k words -/
structure PS (Pb : Nat) (ws : List RW) (k : Nat) (W : World) : Prop where
  len : ws.length ≤ 400
  ok : ∀ w ∈ ws, Ok1 w
  le : k ≤ ws.length
  obj : ∃ wa cap, W.heap[Pb]? = some (.cells #[.slice wa ws.length cap, .int .i64 k] 133 (0, 0)) ∧ PWords Pb W wa ws
  capo : ∀ wa cap, W.heap[Pb]? = some (.cells #[.slice wa ws.length cap, .int .i64 k] 133 (0, 0)) → ws.length ≤ cap
theorem PS.keep {Pb : Nat} {ws : List RW} {k : Nat} {W W' : World} (h : PS Pb ws k W) (hB : Below W.heap.size W W') : PS Pb ws k W' := by
  obtain ⟨wa, cap, h1, h2⟩ := h.obj
  have hb := hB.block _ (Array.getElem?_eq_some_iff.1 h1).1
  refine ⟨h.len, h.ok, h.le, ⟨wa, cap, hb.trans h1, fun i hi => ?_⟩, fun wa' cap' e => h.capo wa' cap' (hb.symm.trans e)⟩
  obtain ⟨g, e, hg, c1, c2, c3⟩ := h2 i hi
  have hl : g < W.heap.size := World.block_lt_of_cell? _ _ c1
  exact ⟨g, e, hg, (hB.cell (p := ⟨g, _, none⟩) hl).trans c1, (hB.cell (p := ⟨g, _, none⟩) hl).trans c2, (hB.cell (p := ⟨g, _, none⟩) hl).trans c3⟩
theorem PS.set {Pb : Nat} {ws : List RW} {k : Nat} {W : World} (h : PS Pb ws k W) (k' : Nat) (hk : k' ≤ ws.length) : PS Pb ws k' (W.setCell ⟨Pb, 1, none⟩ (.int .i64 k')) := by
  obtain ⟨wa, cap, h1, h2⟩ := h.obj
  have hs := setCell_heap (k := 1) (u := .int .i64 k') h1
  refine ⟨h.len, h.ok, hk, ⟨wa, cap, hs, fun i hi => ?_⟩, fun wa' cap' e => ?_⟩
  · obtain ⟨g, e, hg, c1, c2, c3⟩ := h2 i hi
    have hf : ∀ o, (W.setCell ⟨Pb, 1, none⟩ (.int .i64 k')).cell? ⟨g, o, none⟩ = W.cell? ⟨g, o, none⟩ := fun o => World.cell?_setCell_far W ⟨Pb, 1, none⟩ ⟨g, o, none⟩ _ (fun e => hg e.symm)
    exact ⟨g, e, hg, (hf _).trans c1, (hf _).trans c2, (hf _).trans c3⟩
  · rw [hs] at e
    have := h.capo wa cap h1
    simp at e
    omega
theorem PS.cells {Pb : Nat} {ws : List RW} {k : Nat} {W : World} (h : PS Pb ws k W) : ∃ wa cap, W.cell? ⟨Pb, 0, none⟩ = some (.slice wa ws.length cap) ∧ W.cell? ⟨Pb, 1, none⟩ = some (.int .i64 k) ∧ (∀ o, W.frozen? ⟨Pb, o, none⟩ = false) ∧ PWords Pb W wa ws := by
  obtain ⟨wa, cap, h1, h2⟩ := h.obj
  exact ⟨wa, cap, by simp [World.cell?, h1], by simp [World.cell?, h1], fun o => by simp [World.frozen?, h1], h2⟩
/-- the next word's cells -/
def nKind (ws : List RW) (k : Nat) : Int := match ws[k]? with | some w => pKind w | none => 0
def nSpelt (ws : List RW) (k : Nat) : Bg.Str := match ws[k]? with | some w => pSpelt w | none => []
def nVal (ws : List RW) (k : Nat) : Value := match ws[k]? with | some w => pVal w | none => .nilIface
theorem n_in {ws : List RW} {k : Nat} (h : k < ws.length) : nKind ws k = pKind ws[k] ∧ nSpelt ws k = pSpelt ws[k] ∧ nVal ws k = pVal ws[k] := by
  unfold nKind nSpelt nVal; rw [List.getElem?_eq_getElem h]; exact ⟨rfl, rfl, rfl⟩
theorem n_out {ws : List RW} {k : Nat} (h : ¬ k < ws.length) : nKind ws k = 0 ∧ nSpelt ws k = [] ∧ nVal ws k = .nilIface := by
  unfold nKind nSpelt nVal; rw [List.getElem?_eq_none (by omega)]; exact ⟨rfl, rfl, rfl⟩
theorem nVal_is (ws : List RW) (k : Nat) : nVal ws k = .nilIface ∨ ∃ t x, nVal ws k = .iface t x := by
  unfold nVal; split
  · exact pVal_is _
  · exact .inl rfl
def nextV (ws : List RW) (k : Nat) : Value := .agg #[.int .i64 (nKind ws k), .string ⟨(nSpelt ws k).toArray⟩, nVal ws k]
/-- a new word's block -/
theorem res3 (W : World) (n : Nat) : ((W.alloc (.cells #[.int .i64 0, .string ⟨#[]⟩, .nilIface] 139)).drewN n).cell? ⟨W.heap.size, 0, none⟩ = some (.int .i64 0) ∧ ((W.alloc (.cells #[.int .i64 0, .string ⟨#[]⟩, .nilIface] 139)).drewN n).cell? ⟨W.heap.size, 1, none⟩ = some (.string ⟨#[]⟩) ∧ ((W.alloc (.cells #[.int .i64 0, .string ⟨#[]⟩, .nilIface] 139)).drewN n).cell? ⟨W.heap.size, 2, none⟩ = some .nilIface ∧
    (∀ o, ((W.alloc (.cells #[.int .i64 0, .string ⟨#[]⟩, .nilIface] 139)).drewN n).frozen? ⟨W.heap.size, o, none⟩ = false) ∧ Below W.heap.size W ((W.alloc (.cells #[.int .i64 0, .string ⟨#[]⟩, .nilIface] 139)).drewN n) := by
  have hh : ((W.alloc (.cells #[.int .i64 0, .string ⟨#[]⟩, .nilIface] 139)).drewN n).heap[W.heap.size]? = some (.cells #[.int .i64 0, .string ⟨#[]⟩, .nilIface] 139 (0, 0)) := by rw [heap_drewN]; exact heap_alloc_new W _
  obtain ⟨a, b, c, d⟩ := cells3 hh
  exact ⟨a, b, c, d, below_dr (wsum _) n⟩
set_option maxRecDepth 10000 in
set_option maxHeartbeats 1000000 in
theorem p_next (Pb : Nat) (ws : List RW) (k : Nat) (W : World) (h : PS Pb ws k W) :
    Calls Tryz.prog 60 #[.pointer (some ⟨Pb, 0, none⟩)] W fun e w' => e = .returned (nextV ws k) ∧ Below W.heap.size W w' := by
  have hlen := h.len
  have hle := h.le
  obtain ⟨wa, cap, c0, c1, cf, cw⟩ := h.cells
  have hlt : Pb < W.heap.size := World.block_lt_of_cell? _ _ c0
  by_cases hk : k < ws.length
  · obtain ⟨g, rfl, hg, q1, q2, q3⟩ := cw k hk
    have hgl : g < W.heap.size := World.block_lt_of_cell? _ _ q1
    obtain ⟨e1, e2, e3⟩ := n_in hk
    have HV : Hid (nextV ws k = .agg #[.int .i64 (pKind ws[k]), .string ⟨(pSpelt ws[k]).toArray⟩, pVal ws[k]]) := by show _ = _; unfold nextV; rw [e1, e2, e3]
    have hpv := pVal_is ws[k]
    clear cw e1 e2 e3
    generalize pVal ws[k] = pv at HV hpv q3
    generalize pKind ws[k] = pk at HV q1
    generalize pSpelt ws[k] = ps at HV q2
    rcases hpv with rfl | ⟨t, y, rfl⟩
    · skip
      go_enter Tryz.func60, Tryz.ntmps60
      go_wp2_with fail
      go_quiet (fail)
      go_wp2_with fail
      obtain ⟨r0, r1, r2, rf, hB1⟩ := res3 W nq
      have d0 := (hB1.cell (p := ⟨Pb, 0, none⟩) hlt).trans c0
      have d1 := (hB1.cell (p := ⟨Pb, 1, none⟩) hlt).trans c1
      have p1 := (hB1.cell (p := ⟨g, k * 3, none⟩) hgl).trans q1
      have p2 := (hB1.cell (p := ⟨g, k * 3 + 1, none⟩) hgl).trans q2
      have p3 := (hB1.cell (p := ⟨g, k * 3 + 2, none⟩) hgl).trans q3
      have rf0 := rf 0
      have rf1 := rf 1
      have rf2 := rf 2
      clear c0 c1 q1 q2 q3 cf
      generalize (W.alloc (.cells #[.int .i64 0, .string ⟨#[]⟩, .nilIface] 139)).drewN nq = w1 at r0 r1 r2 rf0 rf1 rf2 hB1 d0 d1 p1 p2 p3 ⊢
      go_region
      go_wp2_with fail
      refine bodyPost_ret (v := .agg #[.int .i64 pk, .string ⟨ps.toArray⟩, .nilIface]) (by simp [results, Tryz.results60, go_sem, r0, r1, r2]) rfl ⟨by rw [HV.out], ?_⟩
      exact (((below_dr hB1 1).setCell (p := ⟨W.heap.size, 0, none⟩) (Nat.le_refl _) _).setCell (p := ⟨W.heap.size, 1, none⟩) (Nat.le_refl _) _).setCell (p := ⟨W.heap.size, 2, none⟩) (Nat.le_refl _) _
    · skip
      go_enter Tryz.func60, Tryz.ntmps60
      go_wp2_with fail
      go_quiet (fail)
      go_wp2_with fail
      obtain ⟨r0, r1, r2, rf, hB1⟩ := res3 W nq
      have d0 := (hB1.cell (p := ⟨Pb, 0, none⟩) hlt).trans c0
      have d1 := (hB1.cell (p := ⟨Pb, 1, none⟩) hlt).trans c1
      have p1 := (hB1.cell (p := ⟨g, k * 3, none⟩) hgl).trans q1
      have p2 := (hB1.cell (p := ⟨g, k * 3 + 1, none⟩) hgl).trans q2
      have p3 := (hB1.cell (p := ⟨g, k * 3 + 2, none⟩) hgl).trans q3
      have rf0 := rf 0
      have rf1 := rf 1
      have rf2 := rf 2
      clear c0 c1 q1 q2 q3 cf
      generalize (W.alloc (.cells #[.int .i64 0, .string ⟨#[]⟩, .nilIface] 139)).drewN nq = w1 at r0 r1 r2 rf0 rf1 rf2 hB1 d0 d1 p1 p2 p3 ⊢
      go_region
      go_wp2_with fail
      refine bodyPost_ret (v := .agg #[.int .i64 pk, .string ⟨ps.toArray⟩, .iface t y]) (by simp [results, Tryz.results60, go_sem, r0, r1, r2]) rfl ⟨by rw [HV.out], ?_⟩
      exact (((below_dr hB1 1).setCell (p := ⟨W.heap.size, 0, none⟩) (Nat.le_refl _) _).setCell (p := ⟨W.heap.size, 1, none⟩) (Nat.le_refl _) _).setCell (p := ⟨W.heap.size, 2, none⟩) (Nat.le_refl _) _
  · obtain ⟨e1, e2, e3⟩ := n_out hk
    have HV : Hid (nextV ws k = .agg #[.int .i64 0, .string ⟨#[]⟩, .nilIface]) := by show _ = _; unfold nextV; rw [e1, e2, e3]
    clear cw e1 e2 e3
    go_enter Tryz.func60, Tryz.ntmps60
    go_wp2_with fail
    go_quiet (fail)
    go_wp2_with fail
    obtain ⟨r0, r1, r2, rf, hB1⟩ := res3 W nq
    generalize (W.alloc (.cells #[.int .i64 0, .string ⟨#[]⟩, .nilIface] 139)).drewN nq = w1 at r0 r1 r2 hB1 ⊢
    refine bodyPost_ret (v := .agg #[.int .i64 0, .string ⟨#[]⟩, .nilIface]) (by simp [results, Tryz.results60, go_sem, r0, r1, r2]) rfl ⟨by rw [HV.out], ?_⟩
    exact ((hB1.setCell (p := ⟨W.heap.size, 0, none⟩) (Nat.le_refl _) _).setCell (p := ⟨W.heap.size, 1, none⟩) (Nat.le_refl _) _).setCell (p := ⟨W.heap.size, 2, none⟩) (Nat.le_refl _) _
end Gr
end Go.Proofs.YtfkdfplnhlnnoaaGreatDoor
end
section
namespace Go.Proofs.YtfkdfplnhlnnoaaGreatDoor
open Go.RowKit
namespace Gr
set_option linter.unusedSimpArgs false
set_option linter.unusedVariables false
/-- texts in a slice -/
def Txs (W : World) (S : Nat) (ss : List Bg.Str) : Prop := ∀ k (h : k < ss.length), W.cell? ⟨S, k, none⟩ = some (.string ⟨ss[k].toArray⟩)
theorem Txs.below {W W' : World} {S : Nat} {ss : List Bg.Str} (h : Txs W S ss) (hB : Below W.heap.size W W') : Txs W' S ss := fun k hk =>
  (hB.cell (p := ⟨S, k, none⟩) (World.block_lt_of_cell? _ _ (h k hk))).trans (h k hk)
set_option maxRecDepth 10000 in
set_option maxHeartbeats 1000000 in
theorem p_index (S cap : Nat) (ss : List Bg.Str) (v : Bg.Str) (W : World) (h : Txs W S ss) (hl : ss.length ≤ 400) :
    Calls Tryz.prog 165 #[.slice (some ⟨S, 0, none⟩) ss.length cap, .string ⟨v.toArray⟩] W fun e w' => (∃ n : Int, e = .returned (.int .i64 n) ∧ -1 ≤ n ∧ n ≤ 400 ∧ (0 ≤ n ↔ v ∈ ss)) ∧ W = w' := by
  have HT : Hid (Txs W S ss) := h
  clear h
  go_enter Tryz.func165, Tryz.ntmps165
  go_wp2_with fail
  go_loopg [8] (ss.length + 1) (fun gk iv wr => ∃ k : Nat, k ≤ ss.length ∧ gk = ss.length - k + 1 ∧ iv = .int .i64 k ∧ W = wr ∧ Hid (∀ j (hj : j < ss.length), j < k → v ≠ ss[j]))
  case atStart => exact ⟨0, by omega, by omega, rfl, rfl, fun j _ h => by omega⟩
  case round =>
    obtain ⟨k, hk, rfl, rfl, rfl, hno⟩ := hrel
    by_cases hlt : k < ss.length
    · have q := HT.out k hlt
      by_cases he : v = ss[k]
      · have HM : Hid (v ∈ ss) := by show v ∈ ss; rw [he]; exact List.getElem_mem hlt
        rw [← he] at q
        clear he
        go_wp2_with fail
        go_ret
        exact ⟨⟨k, rfl, by omega, by omega, ⟨fun _ => HM.out, fun _ => by omega⟩⟩, rfl⟩
      · have he' : (v == ss[k]) = false := by simpa using he
        have HN : Hid (∀ j (hj : j < ss.length), j < k + 1 → v ≠ ss[j]) := fun j hj h => by
          by_cases e : j = k
          · subst e; exact he
          · exact hno.out j hj (by omega)
        clear he
        go_wp2_with fail
        go_roundg (ss.length - (k + 1) + 1)
        case measure => omega
        case rel => exact ⟨k + 1, by omega, rfl, by exact vint (by omega), rfl, HN⟩
    · have HM : Hid (v ∉ ss) := fun hm => by
        obtain ⟨j, hj, e⟩ := List.getElem_of_mem hm
        exact hno.out j hj (by omega) e.symm
      go_wp2_with fail
      go_ret
      exact ⟨⟨-1, rfl, by omega, by omega, ⟨fun h => by omega, fun h => absurd h HM.out⟩⟩, rfl⟩
set_option maxRecDepth 10000 in
set_option maxHeartbeats 1000000 in
theorem p_contains (S cap : Nat) (ss : List Bg.Str) (v : Bg.Str) (W : World) (h : Txs W S ss) (hl : ss.length ≤ 400) :
    Calls Tryz.prog 145 #[.slice (some ⟨S, 0, none⟩) ss.length cap, .string ⟨v.toArray⟩] W fun e w' => e = .returned (.bool (ss.contains v)) ∧ W = w' := by
  go_enter Tryz.func145, Tryz.ntmps145
  go_wp2_with fail
  refine (p_index S cap ss v _ h hl).mono ?_
  rintro e w' ⟨⟨n, rfl, h1, h2, h3⟩, rfl⟩
  have HC : Hid (ss.contains v = decide (0 ≤ n)) := by
    show _ = _
    rw [Bool.eq_iff_iff, decide_eq_true_eq, h3]; simp
  clear h3
  go_wp2_with fail
  go_ret
  exact ⟨ret_bool HC.out.symm, rfl⟩
/-- is a word one of these? -/
def fixB (kd : Int) (sp : Bg.Str) (ss : List Bg.Str) : Bool := kd == 1 && ss.contains sp
def fixAt (ws : List RW) (k : Nat) (ss : List Bg.Str) : Bool := fixB (nKind ws k) (nSpelt ws k) ss
set_option maxRecDepth 10000 in
set_option maxHeartbeats 1000000 in
theorem p_isFixed (kd : Int) (sp : Bg.Str) (x : Value) (hx : x = .nilIface ∨ ∃ t y, x = .iface t y) (S cap : Nat) (ss : List Bg.Str) (W : World) (h : Txs W S ss) (hl : ss.length ≤ 400) :
    Calls Tryz.prog 117 #[.agg #[.int .i64 kd, .string ⟨sp.toArray⟩, x], .slice (some ⟨S, 0, none⟩) ss.length cap] W fun e w' => e = .returned (.bool (fixB kd sp ss)) ∧ Below W.heap.size W w' := by
  rcases hx with rfl | ⟨t, y, rfl⟩
  · have h0 := fun o => h.below (wsum (w := W) o)
    by_cases hk : kd = 1
    · subst hk
      go_enter Tryz.func117, Tryz.ntmps117
      go_wp2_with fail
      refine (p_contains S cap ss sp _ (h0 _) hl).mono ?_
      rintro e w' ⟨rfl, rfl⟩
      go_wp2_with fail
      go_ret
      exact ⟨ret_bool (by unfold fixB; simp), wsum _⟩
    · have hk' : (kd == 1) = false := by simpa using hk
      have HF : Hid (fixB kd sp ss = false) := by show _ = _; unfold fixB; rw [hk']; rfl
      go_enter Tryz.func117, Tryz.ntmps117
      go_wp2_with fail
      go_ret
      exact ⟨ret_bool HF.out.symm, wsum _⟩
  · have h0 := fun o => h.below (wsum (w := W) o)
    by_cases hk : kd = 1
    · subst hk
      go_enter Tryz.func117, Tryz.ntmps117
      go_wp2_with fail
      refine (p_contains S cap ss sp _ (h0 _) hl).mono ?_
      rintro e w' ⟨rfl, rfl⟩
      go_wp2_with fail
      go_ret
      exact ⟨ret_bool (by unfold fixB; simp), wsum _⟩
    · have hk' : (kd == 1) = false := by simpa using hk
      have HF : Hid (fixB kd sp ss = false) := by show _ = _; unfold fixB; rw [hk']; rfl
      go_enter Tryz.func117, Tryz.ntmps117
      go_wp2_with fail
      go_ret
      exact ⟨ret_bool HF.out.symm, wsum _⟩
set_option maxRecDepth 10000 in
set_option maxHeartbeats 1000000 in
theorem p_is (Pb : Nat) (ws : List RW) (k : Nat) (S cap : Nat) (ss : List Bg.Str) (W : World) (hP : PS Pb ws k W) (h : Txs W S ss) (hl : ss.length ≤ 400) :
    Calls Tryz.prog 112 #[.pointer (some ⟨Pb, 0, none⟩), .slice (some ⟨S, 0, none⟩) ss.length cap] W fun e w' => e = .returned (.bool (fixAt ws k ss)) ∧ Below W.heap.size W w' := by
  go_enter Tryz.func112, Tryz.ntmps112
  go_wp2_with fail
  refine (p_next Pb ws k _ hP).mono ?_
  rintro e w1 ⟨rfl, hB1⟩
  unfold nextV
  go_wp2_with fail
  refine (p_isFixed _ _ _ (nVal_is ws k) S cap ss _ (h.below hB1) hl).mono ?_
  rintro e w2 ⟨rfl, hB2⟩
  go_wp2_with fail
  go_ret
  exact ⟨rfl, hB1.trans (hB2.mono hB1.size)⟩
theorem Keep.setHi {M : Nat} {W w : World} (h : Keep M W w) {b : Nat} (hb : W.heap.size ≤ b) (o : Nat) (v : Value) : Keep M W (w.setCell ⟨b, o, none⟩ v) :=
  ⟨h.os, h.tape, h.output, by have := h.size; simp [World.setCell]; exact this, fun g hg hl => (Below.heap_setCell _ _ _ _ (by show g ≠ b; omega)).trans (h.block g hg hl)⟩
theorem PS.move {Pb : Nat} {ws : List RW} {k k' : Nat} {W W' : World} (h : PS Pb ws k W) (hK : Keep Pb W W') (hk : k' ≤ ws.length)
    (hp : ∀ wa cap, W.heap[Pb]? = some (.cells #[.slice wa ws.length cap, .int .i64 k] 133 (0, 0)) → W'.heap[Pb]? = some (.cells #[.slice wa ws.length cap, .int .i64 k'] 133 (0, 0))) : PS Pb ws k' W' := by
  obtain ⟨wa, cap, h1, h2⟩ := h.obj
  refine ⟨h.len, h.ok, hk, ⟨wa, cap, hp wa cap h1, fun i hi => ?_⟩, fun wa' cap' e => ?_⟩
  · obtain ⟨g, e, hg, c1, c2, c3⟩ := h2 i hi
    exact ⟨g, e, hg, hK.cell hg c1, hK.cell hg c2, hK.cell hg c3⟩
  · rw [hp wa cap h1] at e
    have := h.capo wa cap h1
    simp at e
    omega
theorem Keep.of (M : Nat) {w w' : World} (h : Below w.heap.size w w') : Keep M w w' := Keep.of_below h
set_option maxRecDepth 10000 in
set_option maxHeartbeats 1000000 in
theorem p_step (Pb : Nat) (ws : List RW) (k : Nat) (W : World) (hP : PS Pb ws k W) (hk : k < ws.length) :
    Calls Tryz.prog 144 #[.pointer (some ⟨Pb, 0, none⟩)] W fun e w' => e = .returned (nextV ws k) ∧ PS Pb ws (k + 1) w' ∧ Keep Pb W w' := by
  have hlen := hP.len
  go_enter Tryz.func144, Tryz.ntmps144
  go_wp2_with fail
  refine (p_next Pb ws k _ (hP.keep (wsum _))).mono ?_
  rintro e w1 ⟨rfl, hB1⟩
  have hP1 := (hP.keep (wsum _)).keep hB1
  have hBW : Below W.heap.size W w1 := (wsum _).trans (hB1.mono (by simp))
  obtain ⟨r0, r1, r2, rf⟩ := cells3 ((hB1.block W.heap.size (by simp)).trans (heap_alloc_new W _))
  have hRl : W.heap.size < w1.heap.size := Nat.lt_of_lt_of_le (by simp) hB1.size
  have rf0 := rf 0
  have rf1 := rf 1
  have rf2 := rf 2
  clear rf
  obtain ⟨wa, cap, d0, d1, df, _⟩ := hP1.cells
  have df1 := df 1
  have hPl : Pb < w1.heap.size := World.block_lt_of_cell? _ _ d0
  have hPW : Pb < W.heap.size := by
    obtain ⟨_, _, h1, _⟩ := hP.obj
    exact (Array.getElem?_eq_some_iff.1 h1).1
  have HV0 : nextV ws k = .agg #[.int .i64 (nKind ws k), .string ⟨(nSpelt ws k).toArray⟩, nVal ws k] := rfl
  have HV1 := (show Hid _ from HV0)
  clear HV0
  rw [HV1.out]
  have hx := nVal_is ws k
  generalize nVal ws k = x at hx HV1 ⊢
  generalize nKind ws k = kd at HV1 ⊢
  generalize nSpelt ws k = sp at HV1 ⊢
  have HV := HV1
  clear HV1
  rcases hx with rfl | ⟨t, y, rfl⟩
  · go_wp2_with fail
    refine bodyPost_ret (v := .agg #[.int .i64 kd, .string ⟨sp.toArray⟩, .nilIface]) (by simp [results, Tryz.results144, go_sem, r0, r1, r2, hRl]) rfl ⟨by rw [HV.out], ?_, ?_⟩
    · refine hP.move ((((((Keep.of Pb hBW).trans (Keep.set Pb _ _ _)).setHi (Nat.le_refl _) _ _).setHi (Nat.le_refl _) _ _).setHi (Nat.le_refl _) _ _).trans (Keep.alloc Pb _ _)) (by omega) (fun wa cap h1 => ?_)
      have g1 := setCell_heap (k := 1) (u := .int .i64 ((k : Int) + 1)) ((hBW.block Pb hPW).trans h1)
      refine ((Keep.alloc (Pb + 1) _ _).obj (by omega) ?_)
      rw [Below.heap_setCell _ _ _ _ (by show Pb ≠ W.heap.size; omega), Below.heap_setCell _ _ _ _ (by show Pb ≠ W.heap.size; omega), Below.heap_setCell _ _ _ _ (by show Pb ≠ W.heap.size; omega)]
      exact g1
    · exact (((((Keep.of Pb hBW).trans (Keep.set Pb _ _ _)).setHi (Nat.le_refl _) _ _).setHi (Nat.le_refl _) _ _).setHi (Nat.le_refl _) _ _).trans (Keep.alloc Pb _ _)
  · go_wp2_with fail
    refine bodyPost_ret (v := .agg #[.int .i64 kd, .string ⟨sp.toArray⟩, .iface t y]) (by simp [results, Tryz.results144, go_sem, r0, r1, r2, hRl]) rfl ⟨by rw [HV.out], ?_, ?_⟩
    · refine hP.move ((((((Keep.of Pb hBW).trans (Keep.set Pb _ _ _)).setHi (Nat.le_refl _) _ _).setHi (Nat.le_refl _) _ _).setHi (Nat.le_refl _) _ _).trans (Keep.alloc Pb _ _)) (by omega) (fun wa cap h1 => ?_)
      have g1 := setCell_heap (k := 1) (u := .int .i64 ((k : Int) + 1)) ((hBW.block Pb hPW).trans h1)
      refine ((Keep.alloc (Pb + 1) _ _).obj (by omega) ?_)
      rw [Below.heap_setCell _ _ _ _ (by show Pb ≠ W.heap.size; omega), Below.heap_setCell _ _ _ _ (by show Pb ≠ W.heap.size; omega), Below.heap_setCell _ _ _ _ (by show Pb ≠ W.heap.size; omega)]
      exact g1
    · exact (((((Keep.of Pb hBW).trans (Keep.set Pb _ _ _)).setHi (Nat.le_refl _) _ _).setHi (Nat.le_refl _) _ _).setHi (Nat.le_refl _) _ _).trans (Keep.alloc Pb _ _)
end Gr
end Go.Proofs.YtfkdfplnhlnnoaaGreatDoor
end
