import Derived.Test.YtfkdfplnhlnnoaaGreatDoorBgJa14
section
namespace Go.Proofs.YtfkdfplnhlnnoaaGreatDoor
open Go.RowKit
namespace Gr
set_option linter.unusedSimpArgs false
set_option linter.unusedVariables false
theorem fix_lt {ws : List RW} {k : Nat} {ss : List Bg.Str} (h : fixAt ws k ss = true) : k < ws.length := by
  by_cases hk : k < ws.length
  · exact hk
  · unfold fixAt fixB at h; rw [(n_out hk).1] at h; simp at h
theorem name_lt {ws : List RW} {k : Nat} (h : nKind ws k = 2) : k < ws.length := by
  by_cases hk : k < ws.length
  · exact hk
  · rw [(n_out hk).1] at h; cases h
/-- a word was read, or not -/
def Took1 (Pb : Nat) (ws : List RW) (k : Nat) (W : World) (c : Bool) (yes no : Value) (e : Ending) (w' : World) : Prop :=
  Keep Pb W w' ∧ ((c = true ∧ k < ws.length ∧ e = .returned yes ∧ PS Pb ws (k + 1) w') ∨ (c = false ∧ e = .returned no ∧ PS Pb ws k w'))
/-- the words are no query: thrown -/
def BadP (Pb : Nat) (W : World) (e : Ending) (w' : World) : Prop :=
  ∃ b, e = .panicked (thrown b) ∧ w'.cell? ⟨b, 0, none⟩ = some (.int .i64 3) ∧ w'.cell? ⟨b, 1, none⟩ = some (.int .i64 0) ∧ Keep Pb W w'
theorem BadP.of {Pb : Nat} {W w : World} (hK : Keep Pb W w) {e : Ending} {w' : World} (h : BadP Pb w e w') : BadP Pb W e w' := by
  obtain ⟨b, h1, h2, h3, h4⟩ := h
  exact ⟨b, h1, h2, h3, hK.trans h4⟩
theorem fld0 (a : Int) (b : ByteArray) (x : Value) (hx : x = .nilIface ∨ ∃ t y, x = .iface t y) (w : World) : (Instr.field 139 (.agg #[.int .i64 a, .string b, x]) 0).run Tryz.prog w = .ok (.int .i64 a) w := by
  rcases hx with rfl | ⟨t, y, rfl⟩ <;> kernel_rfl
theorem fld1 (a : Int) (b : ByteArray) (x : Value) (hx : x = .nilIface ∨ ∃ t y, x = .iface t y) (w : World) : (Instr.field 139 (.agg #[.int .i64 a, .string b, x]) 1).run Tryz.prog w = .ok (.string b) w := by
  rcases hx with rfl | ⟨t, y, rfl⟩ <;> kernel_rfl
set_option maxRecDepth 10000 in
set_option maxHeartbeats 1000000 in
theorem p_fail (Pb : Nat) (W : World) : Calls Tryz.prog 61 #[] W (BadP Pb W) := by
  go_enter Tryz.func61, Tryz.ntmps61
  go_wp2_with fail
  refine (throw_any 3 0 _).mono ?_
  rintro e w' ⟨rfl, rfl⟩
  go_wp2
  exact ⟨rfl, W.heap.size, rfl, by simp, by simp, Keep.alloc Pb _ _⟩
set_option maxRecDepth 10000 in
set_option maxHeartbeats 1000000 in
theorem p_takeOne (Pb : Nat) (ws : List RW) (k : Nat) (S cap : Nat) (ss : List Bg.Str) (W : World) (hP : PS Pb ws k W) (h : Txs W S ss) (hl : ss.length ≤ 400) :
    Calls Tryz.prog 115 #[.pointer (some ⟨Pb, 0, none⟩), .slice (some ⟨S, 0, none⟩) ss.length cap] W (Took1 Pb ws k W (fixAt ws k ss) (.string ⟨(nSpelt ws k).toArray⟩) (.string ⟨#[]⟩)) := by
  go_enter Tryz.func115, Tryz.ntmps115
  go_wp2_with fail
  refine (p_is Pb ws k S cap ss _ hP h hl).mono ?_
  rintro e w1 ⟨rfl, hB1⟩
  have hP1 := hP.keep hB1
  cases hf : fixAt ws k ss with
  | false =>
    go_wp2_with fail
    go_ret
    exact ⟨Keep.of Pb hB1, .inr ⟨hf, rfl, hP1⟩⟩
  | true =>
    have hk := fix_lt hf
    go_wp2_with fail
    refine (p_step Pb ws k _ hP1 hk).mono ?_
    rintro e w2 ⟨rfl, hP2, hK2⟩
    unfold nextV
    have f1 := fun w => fld1 (nKind ws k) ⟨(nSpelt ws k).toArray⟩ (nVal ws k) (nVal_is ws k) w
    go_wp2_with fail
    go_ret
    exact ⟨(Keep.of Pb hB1).trans hK2, .inl ⟨hf, hk, rfl, hP2⟩⟩
theorem txs1 (W : World) (s : Bg.Str) : Txs (W.alloc (.cells #[.string ⟨s.toArray⟩] 9)) W.heap.size [s] := fun k hk => by
  obtain rfl : k = 0 := by simp only [List.length_cons, List.length_nil] at hk; omega
  have h3 := heap_alloc_new W (.cells #[.string ⟨s.toArray⟩] 9)
  simp only [World.cell?, h3]; rfl
theorem fix_one {ws : List RW} {k : Nat} {s : Bg.Str} (h : fixAt ws k [s] = true) : nSpelt ws k = s := by
  unfold fixAt fixB at h; simp at h; exact h.2
set_option maxRecDepth 10000 in
set_option maxHeartbeats 1000000 in
theorem p_take (Pb : Nat) (ws : List RW) (k : Nat) (s : Bg.Str) (W : World) (hP : PS Pb ws k W) (hs : s ≠ []) :
    Calls Tryz.prog 116 #[.pointer (some ⟨Pb, 0, none⟩), .string ⟨s.toArray⟩] W (Took1 Pb ws k W (fixAt ws k [s]) (.bool true) (.bool false)) := by
  go_enter Tryz.func116, Tryz.ntmps116
  go_wp2_with fail
  refine (p_takeOne Pb ws k W.heap.size 1 [s] _ (hP.keep (wsum _)) (txs1 W s) (by simp)).mono ?_
  rintro e w1 ⟨hK1, ⟨hf, hk, rfl, hP1⟩ | ⟨hf, rfl, hP1⟩⟩
  · have hne : (nSpelt ws k == []) = false := by rw [fix_one hf]; simpa using hs
    go_wp2_with fail
    go_ret
    exact ⟨(Keep.of Pb (wsum _)).trans hK1, .inl ⟨hf, hk, rfl, hP1⟩⟩
  · go_wp2_with fail
    go_ret
    exact ⟨(Keep.of Pb (wsum _)).trans hK1, .inr ⟨hf, rfl, hP1⟩⟩
set_option maxRecDepth 10000 in
set_option maxHeartbeats 1000000 in
theorem p_must (Pb : Nat) (ws : List RW) (k : Nat) (s : Bg.Str) (W : World) (hP : PS Pb ws k W) (hs : s ≠ []) :
    Calls Tryz.prog 136 #[.pointer (some ⟨Pb, 0, none⟩), .string ⟨s.toArray⟩] W fun e w' => (fixAt ws k [s] = true ∧ k < ws.length ∧ e = .returned (.tuple #[]) ∧ PS Pb ws (k + 1) w' ∧ Keep Pb W w') ∨ (fixAt ws k [s] = false ∧ BadP Pb W e w') := by
  go_enter Tryz.func136, Tryz.ntmps136
  go_wp2_with fail
  refine (p_take Pb ws k s _ hP hs).mono ?_
  rintro e w1 ⟨hK1, ⟨hf, hk, rfl, hP1⟩ | ⟨hf, rfl, hP1⟩⟩
  · go_wp2_with fail
    go_end0
    exact .inl ⟨hf, hk, rfl, hP1, hK1⟩
  · go_wp2_with fail
    refine (p_fail Pb _).mono ?_
    rintro e w2 hb
    have hb' := BadP.of hK1 hb
    obtain ⟨b, rfl, h1, h2, h3⟩ := hb'
    go_wp2
    exact ⟨rfl, .inr ⟨hf, b, rfl, h1, h2, h3⟩⟩
set_option maxRecDepth 10000 in
set_option maxHeartbeats 1000000 in
theorem p_name (Pb : Nat) (ws : List RW) (k : Nat) (W : World) (hP : PS Pb ws k W) :
    Calls Tryz.prog 160 #[.pointer (some ⟨Pb, 0, none⟩)] W fun e w' => (nKind ws k = 2 ∧ k < ws.length ∧ e = .returned (.string ⟨(nSpelt ws k).toArray⟩) ∧ PS Pb ws (k + 1) w' ∧ Keep Pb W w') ∨ (nKind ws k ≠ 2 ∧ BadP Pb W e w') := by
  go_enter Tryz.func160, Tryz.ntmps160
  go_wp2_with fail
  refine (p_next Pb ws k _ hP).mono ?_
  rintro e w1 ⟨rfl, hB1⟩
  have hP1 := hP.keep hB1
  unfold nextV
  have f0 := fun w => fld0 (nKind ws k) ⟨(nSpelt ws k).toArray⟩ (nVal ws k) (nVal_is ws k) w
  by_cases hn : nKind ws k = 2
  · have hk := name_lt hn
    have hn' : (nKind ws k == 2) = true := by simpa using hn
    have HN : Hid (nKind ws k = 2) := hn
    clear hn
    go_wp2_with fail
    refine (p_step Pb ws k _ hP1 hk).mono ?_
    rintro e w2 ⟨rfl, hP2, hK2⟩
    unfold nextV
    have f1 := fun w => fld1 (nKind ws k) ⟨(nSpelt ws k).toArray⟩ (nVal ws k) (nVal_is ws k) w
    go_wp2_with fail
    go_ret
    exact .inl ⟨HN.out, hk, rfl, hP2, (Keep.of Pb hB1).trans hK2⟩
  · have hn' : (nKind ws k == 2) = false := by simpa using hn
    have HN : Hid (nKind ws k ≠ 2) := hn
    clear hn
    go_wp2_with fail
    refine (p_fail Pb _).mono ?_
    rintro e w2 hb
    have hb' := BadP.of (Keep.of Pb hB1) hb
    obtain ⟨b, rfl, h1, h2, h3⟩ := hb'
    go_wp2
    exact ⟨rfl, .inr ⟨HN.out, b, rfl, h1, h2, h3⟩⟩
end Gr
end Go.Proofs.YtfkdfplnhlnnoaaGreatDoor
end
section
namespace Go.Proofs.YtfkdfplnhlnnoaaGreatDoor
open Go.RowKit
namespace Gr
set_option linter.unusedSimpArgs false
set_option linter.unusedVariables false
theorem txs1b (W : World) (o : Obj) (s : Bg.Str) : Txs ((W.alloc o).alloc (.cells #[.string ⟨s.toArray⟩] 9)) (W.heap.size + 1) [s] := by
  have h := txs1 (W.alloc o) s
  have e : (W.alloc o).heap.size = W.heap.size + 1 := by simp
  rw [e] at h
  exact h
def pOpen (kd : Int) (sp : Bg.Str) : Int := if fixB kd sp [[40]] then 1 else if fixB kd sp [[41]] then -1 else 0
set_option maxRecDepth 10000 in
set_option maxHeartbeats 1000000 in
theorem p_opened (kd : Int) (sp : Bg.Str) (x : Value) (hx : x = .nilIface ∨ ∃ t y, x = .iface t y) (W : World) :
    Calls Tryz.prog 79 #[.agg #[.int .i64 kd, .string ⟨sp.toArray⟩, x]] W fun e w' => e = .returned (.int .i64 (pOpen kd sp)) ∧ Below W.heap.size W w' := by
  rcases hx with rfl | ⟨t, y, rfl⟩
  · go_enter Tryz.func79, Tryz.ntmps79
    go_wp2_with fail
    refine (p_isFixed kd sp .nilIface (.inl rfl) (W.heap.size + 1) 1 [[40]] _ (txs1b W _ _) (by simp)).mono ?_
    rintro e w1 ⟨rfl, hB1⟩
    have hBa : Below (W.alloc (.cells #[.int .i64 kd, .string ⟨sp.toArray⟩, .nilIface] 139)).heap.size (W.alloc (.cells #[.int .i64 kd, .string ⟨sp.toArray⟩, .nilIface] 139)) w1 := (wsum _).trans (hB1.mono (by simp))
    have hBw : Below W.heap.size W w1 := (wsum _).trans (hBa.mono (by simp))
    obtain ⟨r0, r1, r2, rf⟩ := cells3 ((hBa.block W.heap.size (by simp)).trans (heap_alloc_new W _))
    have hRl : W.heap.size < w1.heap.size := Nat.lt_of_lt_of_le (by simp) hBa.size
    cases h1 : fixB kd sp [[40]] with
    | true =>
      have HX : Hid (pOpen kd sp = 1) := by show _ = _; unfold pOpen; rw [h1]; rfl
      go_wp2_with fail
      go_ret
      exact ⟨by rw [HX.out]; rfl, hBw⟩
    | false =>
      go_wp2_with fail
      refine (p_isFixed kd sp .nilIface (.inl rfl) w1.heap.size 1 [[41]] _ (txs1 w1 _) (by simp)).mono ?_
      rintro e w2 ⟨rfl, hB2⟩
      have hBz : Below W.heap.size W w2 := hBw.trans (((wsum _).trans (hB2.mono (by simp))).mono hBw.size)
      cases h2 : fixB kd sp [[41]] with
      | true =>
        have HX : Hid (pOpen kd sp = -1) := by show _ = _; unfold pOpen; rw [h1, h2]; rfl
        go_wp2_with fail
        go_ret
        exact ⟨by rw [HX.out]; rfl, hBz⟩
      | false =>
        have HX : Hid (pOpen kd sp = 0) := by show _ = _; unfold pOpen; rw [h1, h2]; rfl
        go_wp2_with fail
        go_ret
        exact ⟨by rw [HX.out]; rfl, hBz⟩
  · go_enter Tryz.func79, Tryz.ntmps79
    go_wp2_with fail
    refine (p_isFixed kd sp (.iface t y) (.inr ⟨t, y, rfl⟩) (W.heap.size + 1) 1 [[40]] _ (txs1b W _ _) (by simp)).mono ?_
    rintro e w1 ⟨rfl, hB1⟩
    have hBa : Below (W.alloc (.cells #[.int .i64 kd, .string ⟨sp.toArray⟩, .iface t y] 139)).heap.size (W.alloc (.cells #[.int .i64 kd, .string ⟨sp.toArray⟩, .iface t y] 139)) w1 := (wsum _).trans (hB1.mono (by simp))
    have hBw : Below W.heap.size W w1 := (wsum _).trans (hBa.mono (by simp))
    obtain ⟨r0, r1, r2, rf⟩ := cells3 ((hBa.block W.heap.size (by simp)).trans (heap_alloc_new W _))
    have hRl : W.heap.size < w1.heap.size := Nat.lt_of_lt_of_le (by simp) hBa.size
    cases h1 : fixB kd sp [[40]] with
    | true =>
      have HX : Hid (pOpen kd sp = 1) := by show _ = _; unfold pOpen; rw [h1]; rfl
      go_wp2_with fail
      go_ret
      exact ⟨by rw [HX.out]; rfl, hBw⟩
    | false =>
      go_wp2_with fail
      refine (p_isFixed kd sp (.iface t y) (.inr ⟨t, y, rfl⟩) w1.heap.size 1 [[41]] _ (txs1 w1 _) (by simp)).mono ?_
      rintro e w2 ⟨rfl, hB2⟩
      have hBz : Below W.heap.size W w2 := hBw.trans (((wsum _).trans (hB2.mono (by simp))).mono hBw.size)
      cases h2 : fixB kd sp [[41]] with
      | true =>
        have HX : Hid (pOpen kd sp = -1) := by show _ = _; unfold pOpen; rw [h1, h2]; rfl
        go_wp2_with fail
        go_ret
        exact ⟨by rw [HX.out]; rfl, hBz⟩
      | false =>
        have HX : Hid (pOpen kd sp = 0) := by show _ = _; unfold pOpen; rw [h1, h2]; rfl
        go_wp2_with fail
        go_ret
        exact ⟨by rw [HX.out]; rfl, hBz⟩
end Gr
end Go.Proofs.YtfkdfplnhlnnoaaGreatDoor
end
section
namespace Go.Proofs.YtfkdfplnhlnnoaaGreatDoor
open Go.RowKit
namespace Gr
set_option linter.unusedSimpArgs false
set_option linter.unusedVariables false
theorem cont1 (s x : Bg.Str) : [s].contains x = (x == s) := by
  by_cases h : x = s <;> simp [h]
theorem fix_sign {w : RW} (hw : Ok1 w) {s : Bg.Str} (hs : s ∈ signToks.map Prod.fst) : fixB (pKind w) (pSpelt w) [s] = signB w s := by
  have hk : s ∉ keyToks.map Prod.fst := fun h => by
    have : ∀ x ∈ signToks.map Prod.fst, x ∉ keyToks.map Prod.fst := by decide
    exact this s hs h
  unfold fixB pKind pSpelt signB
  rcases hw with ⟨h, ht⟩ | ⟨h, ht⟩ | h | h | h
  · have hne : w.text ≠ s := fun e => hk (by rw [← e]; exact ht)
    rw [h]; simp [kKey, kName, kNum, kText, kSign, hne]
  · rw [h, if_neg (by decide), if_neg (by decide), if_neg (by decide), cont1]; rfl
  · rw [h]; simp [kKey, kName, kNum, kText, kSign]
  · rw [h]; simp [kKey, kName, kNum, kText, kSign]
  · rw [h]; simp [kKey, kName, kNum, kText, kSign]
theorem pOpen_opens {w : RW} (hw : Ok1 w) : pOpen (pKind w) (pSpelt w) = opens w := by
  unfold pOpen opens
  rw [fix_sign hw (by decide), fix_sign hw (by decide)]
set_option maxRecDepth 10000 in
set_option maxHeartbeats 1000000 in
theorem p_checkDepth (ws : List RW) (Pb : Nat) (wa : Option Addr) (cap : Nat) (W : World) (hw : PWords Pb W wa ws) (ok : ∀ w ∈ ws, Ok1 w) (hlen : ws.length ≤ 400) :
    Calls Tryz.prog 62 #[.slice wa ws.length cap] W fun e w' => (deep ws = false ∧ e = .returned (.tuple #[]) ∧ Below W.heap.size W w') ∨ (deep ws = true ∧ Bad W.heap.size 4 0 W e w') := by
  have HW : Hid (PWords Pb W wa ws) := hw
  clear hw
  go_enter Tryz.func62, Tryz.ntmps62
  go_wp2_with fail
  go_loopg [2, 7] (ws.length + 1) (fun gk nv iv wr => ∃ (k : Nat) (n : Int), k ≤ ws.length ∧ gk = ws.length - k + 1 ∧ iv = .int .i64 k ∧ nv = .int .i64 n ∧ -(k : Int) ≤ n ∧ n ≤ 16 ∧ Below W.heap.size W wr ∧ Hid (deepN n (ws.drop k) = deep ws))
  case atStart => exact ⟨0, 0, by omega, by omega, rfl, rfl, by omega, by omega, Below.refl _ _, rfl⟩
  case round =>
    obtain ⟨k, n, hk, rfl, rfl, rfl, hn1, hn2, hB, hq⟩ := hrel
    by_cases hlt : k < ws.length
    · obtain ⟨g, rfl, hg, q1, q2, q3⟩ := HW.out k hlt
      have hgl : g < W.heap.size := World.block_lt_of_cell? _ _ q1
      have p1 := (hB.cell (p := ⟨g, k * 3, none⟩) hgl).trans q1
      have p2 := (hB.cell (p := ⟨g, k * 3 + 1, none⟩) hgl).trans q2
      have p3 := (hB.cell (p := ⟨g, k * 3 + 2, none⟩) hgl).trans q3
      have HO := pOpen_opens (ok _ (List.getElem_mem hlt))
      have ho1 : -1 ≤ pOpen (pKind ws[k]) (pSpelt ws[k]) ∧ pOpen (pKind ws[k]) (pSpelt ws[k]) ≤ 1 := by
        unfold pOpen
        split
        · omega
        · split <;> omega
      have HD : Hid ((16 < n + pOpen (pKind ws[k]) (pSpelt ws[k]) → deep ws = true) ∧ (¬ 16 < n + pOpen (pKind ws[k]) (pSpelt ws[k]) → deepN (n + pOpen (pKind ws[k]) (pSpelt ws[k])) (ws.drop (k + 1)) = deep ws)) := by
        have e := hq.out
        rw [List.drop_eq_getElem_cons hlt, deepN_cons, ← HO] at e
        exact ⟨fun h => by rw [if_pos h] at e; exact e.symm, fun h => by rw [if_neg h] at e; exact e⟩
      have hx := pVal_is ws[k]
      have hcall := fun w => p_opened (pKind ws[k]) (pSpelt ws[k]) (pVal ws[k]) hx w
      clear HO q1 q2 q3 hq
      generalize pOpen (pKind ws[k]) (pSpelt ws[k]) = o at *
      generalize pVal ws[k] = x at *
      generalize pKind ws[k] = kd at *
      generalize pSpelt ws[k] = sp at *
      obtain ⟨ho2, ho3⟩ := ho1
      by_cases hgt : 16 < n + o
      · rcases hx with rfl | ⟨t, y, rfl⟩ <;>
         (go_wp2_with fail
          refine (hcall _).mono ?_
          rintro e w1 ⟨rfl, hB1⟩
          have hBa := hB.trans (((wsum _).trans (hB1.mono (by simp))).mono hB.size)
          go_wp2_with fail
          refine (throw_any 4 0 _).mono ?_
          rintro e w' ⟨rfl, rfl⟩
          go_wp2
          exact ⟨rfl, .inr ⟨HD.out.1 hgt, _, rfl, by simp, by simp, hBa.alloc hBa.size _⟩⟩)
      · rcases hx with rfl | ⟨t, y, rfl⟩ <;>
         (go_wp2_with fail
          refine (hcall _).mono ?_
          rintro e w1 ⟨rfl, hB1⟩
          have hBa := hB.trans (((wsum _).trans (hB1.mono (by simp))).mono hB.size)
          go_wp2_with fail
          go_roundg (ws.length - (k + 1) + 1)
          case measure => omega
          case rel => exact ⟨k + 1, n + o, by omega, rfl, by exact vint (by omega), rfl, by omega, by omega, hBa, HD.out.2 hgt⟩)
    · have hR : deep ws = false := by rw [← hq.out, List.drop_eq_nil_of_le (by omega)]; rfl
      go_wp2_with fail
      go_end0
      exact .inl ⟨hR, rfl, hB⟩
end Gr
end Go.Proofs.YtfkdfplnhlnnoaaGreatDoor
end
section
namespace Go.Proofs.YtfkdfplnhlnnoaaGreatDoor
open Go.RowKit
namespace Gr
set_option linter.unusedSimpArgs false
set_option linter.unusedVariables false
def markW : List Bg.Str := [[61], [60, 62], [60], [60, 61], [62], [62, 61], [105, 115], [105, 110], [101, 120, 105, 115, 116, 115]]
theorem mark_tabK : ∀ x ∈ keyToks.map Prod.fst, markW.contains x = marks (keyTok x) := by decide
theorem mark_tabS : ∀ x ∈ signToks.map Prod.fst, markW.contains x = marks (signTok x) := by decide
theorem open_tabK : ∀ x ∈ keyToks.map Prod.fst, opened (keyTok x) = 0 := by decide
theorem open_tabS : ∀ x ∈ signToks.map Prod.fst, (if x == [40] then 1 else if x == [41] then -1 else 0 : Int) = opened (signTok x) := by decide
theorem fix_mark {w : RW} (hw : Ok1 w) : fixB (pKind w) (pSpelt w) markW = marks (tok w) := by
  unfold fixB pKind pSpelt tok
  rcases hw with ⟨h, ht⟩ | ⟨h, ht⟩ | h | h | h
  · rw [h, if_neg (by decide), if_neg (by decide), if_neg (by decide), if_pos rfl, mark_tabK _ ht]; rfl
  · rw [h, if_neg (by decide), if_neg (by decide), if_neg (by decide), if_neg (by decide), if_pos rfl, mark_tabS _ ht]; rfl
  · rw [h]; rfl
  · rw [h]; rfl
  · rw [h]; rfl
theorem opens_tok {w : RW} (hw : Ok1 w) : opens w = opened (tok w) := by
  unfold opens signB tok
  rcases hw with ⟨h, ht⟩ | ⟨h, ht⟩ | h | h | h
  · rw [h, if_pos rfl, open_tabK _ ht]; rfl
  · rw [h, if_neg (show ¬ kSign = kKey by decide), if_pos rfl, ← open_tabS _ ht]; rfl
  · rw [h]; rfl
  · rw [h]; rfl
  · rw [h]; rfl
theorem txs9 (W : World) : Txs (W.alloc (.cells #[.string ⟨#[61]⟩, .string ⟨#[60, 62]⟩, .string ⟨#[60]⟩, .string ⟨#[60, 61]⟩, .string ⟨#[62]⟩, .string ⟨#[62, 61]⟩, .string ⟨#[105, 115]⟩, .string ⟨#[105, 110]⟩, .string ⟨#[101, 120, 105, 115, 116, 115]⟩] 9)) W.heap.size markW := fun k hk => by
  have h3 := heap_alloc_new W (.cells #[.string ⟨#[61]⟩, .string ⟨#[60, 62]⟩, .string ⟨#[60]⟩, .string ⟨#[60, 61]⟩, .string ⟨#[62]⟩, .string ⟨#[62, 61]⟩, .string ⟨#[105, 115]⟩, .string ⟨#[105, 110]⟩, .string ⟨#[101, 120, 105, 115, 116, 115]⟩] 9)
  have h9 : k < 9 := hk
  simp only [World.cell?, h3]
  rcases k with _ | _ | _ | _ | _ | _ | _ | _ | _ | k
  all_goals first | rfl | omega
set_option maxRecDepth 10000 in
set_option maxHeartbeats 2000000 in
theorem p_opensCond (Pb : Nat) (ws : List RW) (k : Nat) (W : World) (hP : PS Pb ws k W) :
    Calls Tryz.prog 192 #[.pointer (some ⟨Pb, 0, none⟩)] W fun e w' => e = .returned (.bool (opensC 0 ((ws.drop k).map tok))) ∧ Below W.heap.size W w' := by
  have hlen := hP.len
  have hle := hP.le
  have hok := hP.ok
  obtain ⟨wa, cap, h1, h2⟩ := hP.obj
  have hcap := hP.capo wa cap h1
  have c0 : W.cell? ⟨Pb, 0, none⟩ = some (.slice wa ws.length cap) := by simp [World.cell?, h1]
  have c1 : W.cell? ⟨Pb, 1, none⟩ = some (.int .i64 k) := by simp [World.cell?, h1]
  have HW : Hid (PWords Pb W wa ws) := h2
  clear h1 h2
  generalize hR : opensC 0 ((ws.drop k).map tok) = R
  have HR : Hid (R = opensC 0 ((ws.drop k).map tok)) := hR.symm
  clear hR
  by_cases hk : k < ws.length
  · obtain ⟨g, rfl, hg, q1, q2, q3⟩ := HW.out k hk
    have hgl : g < W.heap.size := World.block_lt_of_cell? _ _ q1
    clear q1 q2 q3
    go_enter Tryz.func192, Tryz.ntmps192
    go_wp2_with fail
    go_quiet (fail)
    go_wp2_with fail
    have hB0 : Below W.heap.size W (W.drewN nq) := below_dr (Below.refl _ _) nq
    generalize hm : ws.length - k = m
    go_loopg [3, 16] (m + 1) (fun gk nv iv wr => ∃ (j : Nat) (n : Int), j ≤ m ∧ gk = m - j + 1 ∧ iv = .int .i64 j ∧ nv = .int .i64 n ∧ 0 ≤ n ∧ n ≤ j ∧ Below W.heap.size W wr ∧ Hid (R = opensC n ((ws.drop (k + j)).map tok)))
    case atStart => exact ⟨0, 0, by omega, by omega, rfl, rfl, by omega, by omega, hB0, HR⟩
    case round =>
      obtain ⟨j, n, hj, rfl, rfl, rfl, hn1, hn2, hB, hq⟩ := hrel
      by_cases hlt : j < m
      · have hkj : k + j < ws.length := by omega
        obtain ⟨g', eg, hg', q1, q2, q3⟩ := HW.out (k + j) hkj
        cases eg
        have p1 := (hB.cell (p := ⟨g, (k + j) * 3, none⟩) hgl).trans q1
        have p2 := (hB.cell (p := ⟨g, (k + j) * 3 + 1, none⟩) hgl).trans q2
        have p3 := (hB.cell (p := ⟨g, (k + j) * 3 + 2, none⟩) hgl).trans q3
        rw [show (k + j) * 3 = k * 3 + j * 3 from by omega] at p1 p2 p3
        have hw := hok _ (List.getElem_mem hkj)
        have HO : pOpen (pKind ws[k + j]) (pSpelt ws[k + j]) = opened (tok ws[k + j]) := (pOpen_opens hw).trans (opens_tok hw)
        have HM := fix_mark hw
        have ho1 : -1 ≤ pOpen (pKind ws[k + j]) (pSpelt ws[k + j]) ∧ pOpen (pKind ws[k + j]) (pSpelt ws[k + j]) ≤ 1 := by
          unfold pOpen
          split
          · omega
          · split <;> omega
        have HD : Hid (R = if n + pOpen (pKind ws[k + j]) (pSpelt ws[k + j]) ≤ 0 then false else if fixB (pKind ws[k + j]) (pSpelt ws[k + j]) markW then true else opensC (n + pOpen (pKind ws[k + j]) (pSpelt ws[k + j])) ((ws.drop (k + (j + 1))).map tok)) := by
          have e := hq.out
          rw [List.drop_eq_getElem_cons hkj, List.map_cons, opensC, ← HO, ← HM] at e
          exact e
        have hx := pVal_is ws[k + j]
        have hcall := fun w => p_opened (pKind ws[k + j]) (pSpelt ws[k + j]) (pVal ws[k + j]) hx w
        have hfix := fun S w (hT : Txs w S markW) => p_isFixed (pKind ws[k + j]) (pSpelt ws[k + j]) (pVal ws[k + j]) hx S 9 markW w hT (by decide)
        clear HO HM q1 q2 q3 hq hw
        generalize pOpen (pKind ws[k + j]) (pSpelt ws[k + j]) = o at *
        generalize fixB (pKind ws[k + j]) (pSpelt ws[k + j]) markW = fx at *
        generalize pVal ws[k + j] = x at *
        generalize pKind ws[k + j] = kd at *
        generalize pSpelt ws[k + j] = sp at *
        obtain ⟨ho2, ho3⟩ := ho1
        rcases hx with rfl | ⟨t, y, rfl⟩
        · by_cases hle0 : n + o ≤ 0
          · have HX : Hid (R = false) := by show _ = _; rw [HD.out, if_pos hle0]
            go_wp2_with fail
            refine (hcall _).mono ?_
            rintro e w1 ⟨rfl, hB1⟩
            have hBa := hB.trans (((wsum _).trans (hB1.mono (by simp))).mono hB.size)
            go_wp2_with fail
            go_ret
            exact ⟨by rw [HX.out]; rfl, hBa⟩
          · have HLE : Hid (¬ n + o ≤ 0) := hle0
            go_wp2_with fail
            refine (hcall _).mono ?_
            rintro e w1 ⟨rfl, hB1⟩
            have hBr : Below wr.heap.size wr w1 := (wsum _).trans (hB1.mono (by simp))
            have hBa := hB.trans (hBr.mono hB.size)
            obtain ⟨r0, r1, r2, rf⟩ := cells3 ((hB1.block wr.heap.size (by simp)).trans (heap_alloc_new wr _))
            go_wp2_with fail
            refine (hfix w1.heap.size _ (txs9 w1)).mono ?_
            rintro e w2 ⟨rfl, hB2⟩
            have hBb := hBa.trans (((wsum _).trans (hB2.mono (by simp))).mono hBa.size)
            cases fx with
            | true =>
              have HX : Hid (R = true) := by show _ = _; rw [HD.out, if_neg (by have := HLE.out; omega)]; rfl
              go_wp2_with fail
              go_ret
              exact ⟨by rw [HX.out]; rfl, hBb⟩
            | false =>
              have HX : Hid (R = opensC (n + o) ((ws.drop (k + (j + 1))).map tok)) := by show _ = _; rw [HD.out, if_neg (by have := HLE.out; omega)]; rfl
              go_wp2_with fail
              go_roundg (m - (j + 1) + 1)
              case measure => omega
              case rel => exact ⟨j + 1, n + o, by omega, rfl, by exact vint (by omega), rfl, by omega, by omega, hBb, HX⟩
        · by_cases hle0 : n + o ≤ 0
          · have HX : Hid (R = false) := by show _ = _; rw [HD.out, if_pos hle0]
            go_wp2_with fail
            refine (hcall _).mono ?_
            rintro e w1 ⟨rfl, hB1⟩
            have hBa := hB.trans (((wsum _).trans (hB1.mono (by simp))).mono hB.size)
            go_wp2_with fail
            go_ret
            exact ⟨by rw [HX.out]; rfl, hBa⟩
          · have HLE : Hid (¬ n + o ≤ 0) := hle0
            go_wp2_with fail
            refine (hcall _).mono ?_
            rintro e w1 ⟨rfl, hB1⟩
            have hBr : Below wr.heap.size wr w1 := (wsum _).trans (hB1.mono (by simp))
            have hBa := hB.trans (hBr.mono hB.size)
            obtain ⟨r0, r1, r2, rf⟩ := cells3 ((hB1.block wr.heap.size (by simp)).trans (heap_alloc_new wr _))
            go_wp2_with fail
            refine (hfix w1.heap.size _ (txs9 w1)).mono ?_
            rintro e w2 ⟨rfl, hB2⟩
            have hBb := hBa.trans (((wsum _).trans (hB2.mono (by simp))).mono hBa.size)
            cases fx with
            | true =>
              have HX : Hid (R = true) := by show _ = _; rw [HD.out, if_neg (by have := HLE.out; omega)]; rfl
              go_wp2_with fail
              go_ret
              exact ⟨by rw [HX.out]; rfl, hBb⟩
            | false =>
              have HX : Hid (R = opensC (n + o) ((ws.drop (k + (j + 1))).map tok)) := by show _ = _; rw [HD.out, if_neg (by have := HLE.out; omega)]; rfl
              go_wp2_with fail
              go_roundg (m - (j + 1) + 1)
              case measure => omega
              case rel => exact ⟨j + 1, n + o, by omega, rfl, by exact vint (by omega), rfl, by omega, by omega, hBb, HX⟩
      · have HX : Hid (R = false) := by show _ = _; rw [hq.out, List.drop_eq_nil_of_le (by omega)]; rfl
        go_wp2_with fail
        go_ret
        exact ⟨by rw [HX.out]; rfl, hB⟩
  · have HX : Hid (R = false) := by show _ = _; rw [HR.out, List.drop_eq_nil_of_le (by omega)]; rfl
    have hk' : ¬ ((k : Int) < (ws.length : Int)) := by omega
    have hm0 : ws.length - k = 0 := by omega
    go_enter Tryz.func192, Tryz.ntmps192
    go_wp2_with fail
    go_quiet (fail)
    go_wp2_with fail
    all_goals
      go_loopg [16] 1 (fun gk iv wr => gk = 1 ∧ iv = .int .i64 0 ∧ W.drewN nq = wr)
      case atStart => exact ⟨rfl, rfl, rfl⟩
      case round =>
        obtain ⟨rfl, rfl, rfl⟩ := hrel
        go_wp2_with fail
        go_ret
        exact ⟨by rw [HX.out]; rfl, below_dr (Below.refl _ _) nq⟩
end Gr
end Go.Proofs.YtfkdfplnhlnnoaaGreatDoor
end
section
namespace Go.Proofs.YtfkdfplnhlnnoaaGreatDoor
open Go.RowKit
namespace Gr
set_option linter.unusedSimpArgs false
set_option linter.unusedVariables false
/-- the closure that signs hands back: its two boxes lie at b1, b2, apart from the parser -/
structure SignsAt (Pb b1 b2 S cap : Nat) (ss : List Bg.Str) (W : World) : Prop where
  n1 : b1 ≠ Pb
  n2 : b2 ≠ Pb
  n3 : S ≠ Pb
  c1 : W.cell? ⟨b1, 0, none⟩ = some (.pointer (some ⟨Pb, 0, none⟩))
  c2 : W.cell? ⟨b2, 0, none⟩ = some (.slice (some ⟨S, 0, none⟩) ss.length cap)
  tx : Txs W S ss
theorem SignsAt.keep {Pb b1 b2 S cap : Nat} {ss : List Bg.Str} {W W' : World} (h : SignsAt Pb b1 b2 S cap ss W) (hK : Keep Pb W W') : SignsAt Pb b1 b2 S cap ss W' :=
  ⟨h.n1, h.n2, h.n3, hK.cell h.n1 h.c1, hK.cell h.n2 h.c2, fun k hk => hK.cell h.n3 (h.tx k hk)⟩
set_option maxRecDepth 10000 in
set_option maxHeartbeats 1000000 in
theorem p_signs1 (Pb : Nat) (ws : List RW) (k b1 b2 S cap : Nat) (ss : List Bg.Str) (W : World) (hP : PS Pb ws k W) (h : SignsAt Pb b1 b2 S cap ss W) (hl : ss.length ≤ 400) :
    Calls Tryz.prog 179 #[.pointer (some ⟨b1, 0, none⟩), .pointer (some ⟨b2, 0, none⟩)] W (Took1 Pb ws k W (fixAt ws k ss) (.string ⟨(nSpelt ws k).toArray⟩) (.string ⟨#[]⟩)) := by
  have c1 := h.c1
  have c2 := h.c2
  go_enter Tryz.func179, Tryz.ntmps179
  go_wp2_with fail
  refine (p_takeOne Pb ws k S cap ss _ hP h.tx hl).mono ?_
  rintro e w1 ⟨hK1, ⟨hf, hk, rfl, hP1⟩ | ⟨hf, rfl, hP1⟩⟩
  · go_wp2_with fail
    go_ret
    exact ⟨hK1, .inl ⟨hf, hk, rfl, hP1⟩⟩
  · go_wp2_with fail
    go_ret
    exact ⟨hK1, .inr ⟨hf, rfl, hP1⟩⟩
set_option maxRecDepth 10000 in
set_option maxHeartbeats 1000000 in
theorem p_signs (Pb S cap : Nat) (ss : List Bg.Str) (W : World) (hS : Txs W S ss) (hPb : Pb < W.heap.size) (hSP : S ≠ Pb) :
    Calls Tryz.prog 163 #[.pointer (some ⟨Pb, 0, none⟩), .slice (some ⟨S, 0, none⟩) ss.length cap] W fun e w' => ∃ b1 b2, e = .returned (.func (.func 179) #[] #[.pointer (some ⟨b1, 0, none⟩), .pointer (some ⟨b2, 0, none⟩)]) ∧ SignsAt Pb b1 b2 S cap ss w' ∧ Below W.heap.size W w' := by
  have hmf : ∀ (fn : Fn) (first cap : Array Value) (w : World), (Instr.makeFunc fn first cap).run Tryz.prog w = .ok (.func fn first cap) w := fun _ _ _ _ => rfl
  go_enter Tryz.func163, Tryz.ntmps163
  go_wp2_with fail
  go_ret
  have hB : Below W.heap.size W ((W.alloc (.cells #[.pointer (some ⟨Pb, 0, none⟩)] 129)).alloc (.cells #[.slice (some ⟨S, 0, none⟩) ss.length cap] 40)) := (wsum _).trans ((wsum _).mono (by simp))
  have e1 : (W.alloc (.cells #[.pointer (some ⟨Pb, 0, none⟩)] 129)).heap.size = W.heap.size + 1 := by simp
  have h1 := (Keep.alloc (W.heap.size + 5) (W.alloc (.cells #[.pointer (some ⟨Pb, 0, none⟩)] 129)) (.cells #[.slice (some ⟨S, 0, none⟩) ss.length cap] 40)).obj (by omega) (heap_alloc_new W (.cells #[.pointer (some ⟨Pb, 0, none⟩)] 129))
  have h2 := heap_alloc_new (W.alloc (.cells #[.pointer (some ⟨Pb, 0, none⟩)] 129)) (.cells #[.slice (some ⟨S, 0, none⟩) ss.length cap] 40)
  rw [e1] at h2
  refine ⟨W.heap.size, W.heap.size + 1, rfl, ⟨by omega, by omega, hSP, ?_, ?_, hS.below hB⟩, hB⟩
  · simp only [World.cell?, h1]; rfl
  · simp only [World.cell?, h2]; rfl
end Gr
end Go.Proofs.YtfkdfplnhlnnoaaGreatDoor
end
