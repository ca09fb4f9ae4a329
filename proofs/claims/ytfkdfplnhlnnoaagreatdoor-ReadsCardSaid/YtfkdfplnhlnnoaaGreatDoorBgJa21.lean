import Derived.Test.YtfkdfplnhlnnoaaGreatDoorBgPaN
section
namespace Go.Proofs.YtfkdfplnhlnnoaaGreatDoor
open Go.RowKit
namespace Gr
set_option linter.unusedSimpArgs false
set_option linter.unusedVariables false
open T NT PK
/-- name, in the grammar's words -/
theorem p_nameT (Pb : Nat) (ws : List RW) (k : Nat) (W : World) (hP : PS Pb ws k W) :
    Calls Tryz.prog 160 #[.pointer (some ⟨Pb, 0, none⟩)] W fun e w' => (∃ s, hd ws k = some name ∧ (∀ h : k < ws.length, (ws[k]).text = s) ∧ e = .returned (.string ⟨s.toArray⟩) ∧ PS Pb ws (k + 1) w' ∧ Keep Pb W w') ∨ (hd ws k ≠ some name ∧ BadP Pb W e w') := by
  refine (p_name Pb ws k W hP).mono ?_
  rintro e w1 (⟨hf, hk, rfl, hP1, hK⟩ | ⟨hf, hb⟩)
  · have h := (kind_name hP.ok k).1 hf
    exact .inl ⟨nSpelt ws k, h, fun _ => (text_spelt hk hP.ok (by rw [h]; simp)).symm, rfl, hP1, hK⟩
  · exact .inr ⟨fun h => hf ((kind_name hP.ok k).2 h), hb⟩
/-- a new block of two texts, and of one -/
theorem own2 {Pb : Nat} {W w : World} {a b : Value} {ty : TypeId} (hPb : Pb < W.heap.size) (hK : Keep Pb (W.alloc (.cells #[a, b] ty)) w) : w.cell? ⟨W.heap.size, 0, none⟩ = some a ∧ w.cell? ⟨W.heap.size, 1, none⟩ = some b ∧ w.frozen? ⟨W.heap.size, 0, none⟩ = false ∧ w.frozen? ⟨W.heap.size, 1, none⟩ = false ∧ W.heap.size < w.heap.size := by
  have hb := hK.obj (g := W.heap.size) (by omega) (heap_alloc_new W (.cells #[a, b] ty))
  exact ⟨by simp [World.cell?, hb], by simp [World.cell?, hb], by simp [World.frozen?, hb], by simp [World.frozen?, hb], (Array.getElem?_eq_some_iff.1 hb).1⟩
theorem own1 {Pb : Nat} {W w : World} {a : Value} {ty : TypeId} (hPb : Pb < W.heap.size) (hK : Keep Pb (W.alloc (.cells #[a] ty)) w) : w.cell? ⟨W.heap.size, 0, none⟩ = some a ∧ w.frozen? ⟨W.heap.size, 0, none⟩ = false ∧ W.heap.size < w.heap.size := by
  have hb := hK.obj (g := W.heap.size) (by omega) (heap_alloc_new W (.cells #[a] ty))
  exact ⟨by simp [World.cell?, hb], by simp [World.frozen?, hb], (Array.getElem?_eq_some_iff.1 hb).1⟩
/-- both cells of a block of this function's own are written -/
theorem PS.own2 {Pb : Nat} {ws : List RW} {k : Nat} {W w : World} (h : PS Pb ws k w) (hK : Keep Pb W w) {b : Nat} (hb : W.heap.size ≤ b) (hPb : Pb < W.heap.size) {v0 : Value} (hc : w.cell? ⟨b, 0, none⟩ = some v0) (hv : ∀ n, v0 ≠ .int .i64 n) {v1 : Value} (hv1 : ∀ n, v1 ≠ .int .i64 n) (v2 : Value) : PS Pb ws k ((w.setCell ⟨b, 0, none⟩ v1).setCell ⟨b, 1, none⟩ v2) ∧ Keep Pb W ((w.setCell ⟨b, 0, none⟩ v1).setCell ⟨b, 1, none⟩ v2) := by
  obtain ⟨h1, h2⟩ := h.own hK hb hPb hc hv 0 v1
  have hc' : (w.setCell ⟨b, 0, none⟩ v1).cell? ⟨b, 0, none⟩ = some v1 := World.cell?_setCell_same w ⟨b, 0, none⟩ v1 hc
  exact h1.own h2 hb hPb hc' hv1 1 v2
/-- a column's two texts -/
def ColQ (ws : List RW) (k k' : Nat) (x : Value) (w' : World) : Prop := ∃ o s, x = .agg #[strV o, strV s] ∧ D column (sl ws k k') (nd { kind := [99, 111, 108, 117, 109, 110], of_ := o, text := s } .nil)
def AliasQ (ws : List RW) (k k' : Nat) (x : Value) (w' : World) : Prop := ∃ s, x = .agg #[strV s] ∧ (s = [] ∧ k' = k ∨ ∃ (h1 : k < ws.length) (h2 : k + 1 < ws.length), tok ws[k] = T.as_ ∧ tok ws[k + 1] = name ∧ k' = k + 2 ∧ s = (ws[k + 1]).text)
theorem colA_no {ws : List RW} {k : Nat} (h : hd ws k ≠ some dot) : colA (tk ws k) = some (tk ws k) := by
  cases e : tk ws k with
  | nil => rfl
  | cons u r =>
    have h2 : u ≠ dot := fun hu => h (by rw [tk_first e, hu])
    cases u <;> first | rfl | exact absurd rfl h2
theorem alias_no {ws : List RW} {k : Nat} (h : hd ws k ≠ some T.as_) : ans PK.alias (tk ws k) = some (tk ws k) := by
  rw [ans_alias]
  cases e : tk ws k with
  | nil => rfl
  | cons u r =>
    have h2 : u ≠ T.as_ := fun hu => h (by rw [tk_first e, hu])
    cases u <;> first | rfl | exact absurd rfl h2
set_option maxRecDepth 10000 in
set_option maxHeartbeats 1000000 in
theorem p_column (Pb : Nat) (ws : List RW) (k : Nat) (W : World) (hP : PS Pb ws k W) :
    Calls Tryz.prog 143 #[.pointer (some ⟨Pb, 0, none⟩)] W (Got Pb ws k (ans (P column) (tk ws k)) (ColQ ws k) W) := by
  have hPb := hP.lt
  go_enter Tryz.func143, Tryz.ntmps143
  go_wp2_with fail
  refine (p_nameT Pb ws k _ (hP.keep (wsum _))).mono ?_
  rintro e w1 (⟨s, hn, hs, rfl, hP1, hK1⟩ | ⟨hn, b, rfl, h1, h2, h3⟩)
  · have Hn : Hid (hd ws k = some name ∧ (∀ h : k < ws.length, (ws[k]).text = s)) := ⟨hn, hs⟩
    have HA0 : Hid (ans (P column) (tk ws k) = colA (tk ws (k + 1))) := by show _ = _; rw [ans_column, eat_yes hn, Option.bind_some]
    clear hn hs
    go_wp2_with fail
    refine (p_takeT Pb ws (k + 1) [46] dot _ hP1 (by decide)).mono ?_
    rintro e w2 ⟨hK2, ⟨hi, rfl, hP2⟩ | ⟨hi, rfl, hP2⟩⟩
    · have Hi : Hid (hd ws (k + 1) = some dot) := hi
      have HA1 : Hid (ans (P column) (tk ws k) = eat name (tk ws (k + 2))) := by show _ = _; rw [HA0.out, tk_hd hi]; rfl
      clear hi HA0
      go_wp2_with fail
      refine (p_nameT Pb ws (k + 2) _ hP2).mono ?_
      rintro e w3 (⟨s3, hn3, hs3, rfl, hP3, hK3⟩ | ⟨hn3, b, rfl, h1, h2, h3⟩)
      · have HA : Hid (ans (P column) (tk ws k) = some (tk ws (k + 3))) := by show _ = _; rw [HA1.out, eat_yes hn3]
        have HQ : Hid (ColQ ws k (k + 3) (.agg #[strV s, strV s3]) w3) := by
          have l1 := hd_lt Hn.out.1
          have l2 := hd_lt Hi.out
          have l3 := hd_lt hn3
          refine ⟨s, s3, rfl, ?_⟩
          rw [sl_cons l1 (by omega), sl_cons l2 (by omega), sl_one l3, ← hs3 l3, ← Hn.out.2 l1]
          exact .colOf (hd_tok Hn.out.1 l1) (hd_tok Hi.out l2) (hd_tok hn3 l3)
        clear hn3 hs3 HA1
        have hKw := (hK1.trans hK2).trans hK3
        obtain ⟨c0, c1, f0, f1, hsz⟩ := Gr.own2 hPb hKw
        go_wp2_with fail
        obtain ⟨hP4, hK4⟩ := hP3.own2 ((Keep.alloc Pb _ _).trans hKw) (Nat.le_refl _) hPb c0 (by intro n; simp) (v1 := strV s) (by intro n; simp [strV]) (strV s3)
        refine bodyPost_ret (v := .agg #[strV s, strV s3]) (by simp [results, Tryz.results143, go_sem, c0, c1, strV]) rfl (.inl ⟨k + 3, _, by omega, HA.out, rfl, HQ.out, hP4, hK4⟩)
      · have HA : Hid (ans (P column) (tk ws k) = none) := by show _ = _; rw [HA1.out, eat_no hn3]
        clear hn3 HA1
        go_wp2
        exact ⟨rfl, .inr ⟨HA.out, b, rfl, h1, h2, (Keep.alloc Pb _ _).trans ((hK1.trans hK2).trans h3)⟩⟩
    · have HA : Hid (ans (P column) (tk ws k) = some (tk ws (k + 1))) := by show _ = _; rw [HA0.out, colA_no hi]
      have HQ : Hid (ColQ ws k (k + 1) (.agg #[strV [], strV s]) w2) := by
        have l1 := hd_lt Hn.out.1
        refine ⟨[], s, rfl, ?_⟩
        rw [sl_one l1, ← Hn.out.2 l1]
        exact .col (hd_tok Hn.out.1 l1)
      clear hi HA0
      have hKw := hK1.trans hK2
      obtain ⟨c0, c1, f0, f1, hsz⟩ := Gr.own2 hPb hKw
      go_wp2_with fail
      obtain ⟨hP4, hK4⟩ := hP2.own2 ((Keep.alloc Pb _ _).trans hKw) (Nat.le_refl _) hPb c0 (by intro n; simp) (v1 := strV []) (by intro n; simp [strV]) (strV s)
      refine bodyPost_ret (v := .agg #[strV [], strV s]) (by simp [results, Tryz.results143, go_sem, c0, c1, strV]) rfl (.inl ⟨k + 1, _, by omega, HA.out, rfl, HQ.out, hP4, hK4⟩)
  · have HA : Hid (ans (P column) (tk ws k) = none) := by show _ = _; rw [ans_column, eat_no hn]; rfl
    clear hn
    go_wp2
    exact ⟨rfl, .inr ⟨HA.out, b, rfl, h1, h2, (Keep.alloc Pb _ _).trans h3⟩⟩
set_option maxRecDepth 10000 in
set_option maxHeartbeats 1000000 in
theorem p_alias (Pb : Nat) (ws : List RW) (k : Nat) (W : World) (hP : PS Pb ws k W) :
    Calls Tryz.prog 159 #[.pointer (some ⟨Pb, 0, none⟩)] W (Got Pb ws k (ans PK.alias (tk ws k)) (AliasQ ws k) W) := by
  have hPb := hP.lt
  go_enter Tryz.func159, Tryz.ntmps159
  go_wp2_with fail
  refine (p_takeT Pb ws k [97, 115] T.as_ _ (hP.keep (wsum _)) (by decide)).mono ?_
  rintro e w1 ⟨hK1, ⟨hi, rfl, hP1⟩ | ⟨hi, rfl, hP1⟩⟩
  · have Hi : Hid (hd ws k = some T.as_) := hi
    have HA0 : Hid (ans PK.alias (tk ws k) = eat name (tk ws (k + 1))) := by show _ = _; rw [ans_alias, tk_hd hi]
    clear hi
    go_wp2_with fail
    refine (p_nameT Pb ws (k + 1) _ hP1).mono ?_
    rintro e w3 (⟨s, hn, hs, rfl, hP3, hK3⟩ | ⟨hn, b, rfl, h1, h2, h3⟩)
    · have HA : Hid (ans PK.alias (tk ws k) = some (tk ws (k + 2))) := by show _ = _; rw [HA0.out, eat_yes hn]
      have HQ : Hid (AliasQ ws k (k + 2) (.agg #[strV s]) w3) := by
        have l1 := hd_lt Hi.out
        have l2 := hd_lt hn
        exact ⟨s, rfl, .inr ⟨l1, l2, hd_tok Hi.out l1, hd_tok hn l2, rfl, (hs l2).symm⟩⟩
      clear hn hs HA0
      have hKw := hK1.trans hK3
      obtain ⟨c0, f0, hsz⟩ := own1 hPb hKw
      go_wp2_with fail
      obtain ⟨hP4, hK4⟩ := hP3.own ((Keep.alloc Pb _ _).trans hKw) (Nat.le_refl _) hPb c0 (by intro n; simp) 0 (strV s)
      refine bodyPost_ret (v := .agg #[strV s]) (by simp [results, Tryz.results159, go_sem, c0, strV]) rfl (.inl ⟨k + 2, _, by omega, HA.out, rfl, HQ.out, hP4, hK4⟩)
    · have HA : Hid (ans PK.alias (tk ws k) = none) := by show _ = _; rw [HA0.out, eat_no hn]
      clear hn HA0
      go_wp2
      exact ⟨rfl, .inr ⟨HA.out, b, rfl, h1, h2, (Keep.alloc Pb _ _).trans (hK1.trans h3)⟩⟩
  · have HA : Hid (ans PK.alias (tk ws k) = some (tk ws k)) := alias_no hi
    clear hi
    obtain ⟨c0, f0, hsz⟩ := own1 hPb hK1
    go_wp2_with fail
    obtain ⟨hP4, hK4⟩ := hP1.own ((Keep.alloc Pb _ _).trans hK1) (Nat.le_refl _) hPb c0 (by intro n; simp) 0 (strV [])
    refine bodyPost_ret (v := .agg #[strV []]) (by simp [results, Tryz.results159, go_sem, c0, strV]) rfl (.inl ⟨k, _, Nat.le_refl _, HA.out, rfl, ⟨[], rfl, .inl ⟨rfl, rfl⟩⟩, hP4, hK4⟩)
/-- an item's expression and name; a source's two names -/
def ItemQ (ws : List RW) (k k' : Nat) (x : Value) (w' : World) : Prop := ∃ n y s t, x = .agg #[.iface n y, strV s] ∧ D NT.item (sl ws k k') (nd { kind := [105, 116, 101, 109], as_ := s } (l1 t)) ∧ RepE (.iface n y) t
def SrcQ (ws : List RW) (k k' : Nat) (x : Value) (w' : World) : Prop := ∃ n s, x = .agg #[strV n, strV s] ∧ D source (sl ws k k') (nd { kind := [115, 111, 117, 114, 99, 101], text := n, as_ := s } .nil)
set_option maxRecDepth 10000 in
set_option maxHeartbeats 1000000 in
theorem p_item (Pb : Nat) (ws : List RW) (k : Nat) (W : World) (hP : PS Pb ws k W) (he : RdsE Pb ws 158 expr k) :
    Calls Tryz.prog 138 #[.pointer (some ⟨Pb, 0, none⟩)] W (Got Pb ws k (ans (P NT.item) (tk ws k)) (ItemQ ws k) W) := by
  have hPb := hP.lt
  go_enter Tryz.func138, Tryz.ntmps138
  go_wp2_with fail
  refine (he k _ (Nat.le_refl _) (hP.keep (wsum _))).mono ?_
  rintro e w1 (⟨k1, x, hle, hA, rfl, ⟨t, hD, hR⟩, hP1, hK1⟩ | ⟨hA, b, rfl, h1, h2, h3⟩)
  · obtain ⟨n, y, rfl⟩ := (hR 0 0 W).iface
    have HA0 : Hid (ans (P NT.item) (tk ws k) = ans PK.alias (tk ws k1)) := by show _ = _; rw [ans_item, hA, Option.bind_some]
    clear hA
    go_wp2_with fail
    refine (p_alias Pb ws k1 _ hP1).mono ?_
    rintro e w2 (⟨k', x, hle2, hA, rfl, ⟨s, rfl, hQ⟩, hP2, hK2⟩ | ⟨hA, b, rfl, h1, h2, h3⟩)
    · have HA : Hid (ans (P NT.item) (tk ws k) = some (tk ws k')) := HA0.out.trans hA
      have HQ : Hid (ItemQ ws k k' (.agg #[.iface n y, strV s]) w2) := by
        refine ⟨n, y, s, t, rfl, ?_, hR⟩
        rcases hQ with ⟨rfl, rfl⟩ | ⟨l1, l2, t1, t2, rfl, rfl⟩
        · exact .item hD
        · rw [sl_app ws hle (by omega), sl_cons l1 (by omega), sl_one l2]
          exact .itemAs t1 t2 hD
      clear hA hQ HA0
      have hKw := hK1.trans hK2
      obtain ⟨c0, c1, f0, f1, hsz⟩ := Gr.own2 hPb hKw
      unfold strV
      go_wp2_with fail
      obtain ⟨hP4, hK4⟩ := hP2.own2 ((Keep.alloc Pb _ _).trans hKw) (Nat.le_refl _) hPb c0 (by intro n; simp) (v1 := .iface n y) (by intro n; simp) (strV s)
      refine bodyPost_ret (v := .agg #[.iface n y, strV s]) (by simp [results, Tryz.results138, go_sem, c0, c1, strV]) rfl (.inl ⟨k', _, by omega, HA.out, rfl, HQ.out, hP4, hK4⟩)
    · have HA : Hid (ans (P NT.item) (tk ws k) = none) := HA0.out.trans hA
      clear hA HA0
      go_wp2
      exact ⟨rfl, .inr ⟨HA.out, b, rfl, h1, h2, (Keep.alloc Pb _ _).trans (hK1.trans h3)⟩⟩
  · have HA : Hid (ans (P NT.item) (tk ws k) = none) := by show _ = _; rw [ans_item, hA]; rfl
    clear hA
    go_wp2
    exact ⟨rfl, .inr ⟨HA.out, b, rfl, h1, h2, (Keep.alloc Pb _ _).trans h3⟩⟩
set_option maxRecDepth 10000 in
set_option maxHeartbeats 1000000 in
theorem p_source (Pb : Nat) (ws : List RW) (k : Nat) (W : World) (hP : PS Pb ws k W) :
    Calls Tryz.prog 140 #[.pointer (some ⟨Pb, 0, none⟩)] W (Got Pb ws k (ans (P source) (tk ws k)) (SrcQ ws k) W) := by
  have hPb := hP.lt
  go_enter Tryz.func140, Tryz.ntmps140
  go_wp2_with fail
  refine (p_nameT Pb ws k _ (hP.keep (wsum _))).mono ?_
  rintro e w1 (⟨n, hn, hs, rfl, hP1, hK1⟩ | ⟨hn, b, rfl, h1, h2, h3⟩)
  · have Hn : Hid (hd ws k = some name ∧ (∀ h : k < ws.length, (ws[k]).text = n)) := ⟨hn, hs⟩
    have HA0 : Hid (ans (P source) (tk ws k) = ans PK.alias (tk ws (k + 1))) := by show _ = _; rw [ans_source, eat_yes hn, Option.bind_some]
    clear hn hs
    go_wp2_with fail
    refine (p_alias Pb ws (k + 1) _ hP1).mono ?_
    rintro e w2 (⟨k', x, hle2, hA, rfl, ⟨s, rfl, hQ⟩, hP2, hK2⟩ | ⟨hA, b, rfl, h1, h2, h3⟩)
    · have HA : Hid (ans (P source) (tk ws k) = some (tk ws k')) := HA0.out.trans hA
      have HQ : Hid (SrcQ ws k k' (.agg #[strV n, strV s]) w2) := by
        have l0 := hd_lt Hn.out.1
        refine ⟨n, s, rfl, ?_⟩
        rw [← Hn.out.2 l0]
        rcases hQ with ⟨rfl, rfl⟩ | ⟨l1, l2, t1, t2, rfl, rfl⟩
        · rw [sl_one l0]
          exact .src (hd_tok Hn.out.1 l0)
        · rw [sl_cons l0 (by omega), sl_cons l1 (by omega), sl_one l2]
          exact .srcAs (hd_tok Hn.out.1 l0) t1 t2
      clear hA hQ HA0
      have hKw := hK1.trans hK2
      obtain ⟨c0, c1, f0, f1, hsz⟩ := Gr.own2 hPb hKw
      unfold strV
      go_wp2_with fail
      obtain ⟨hP4, hK4⟩ := hP2.own2 ((Keep.alloc Pb _ _).trans hKw) (Nat.le_refl _) hPb c0 (by intro n; simp) (v1 := strV n) (by intro n; simp [strV]) (strV s)
      refine bodyPost_ret (v := .agg #[strV n, strV s]) (by simp [results, Tryz.results140, go_sem, c0, c1, strV]) rfl (.inl ⟨k', _, by omega, HA.out, rfl, HQ.out, hP4, hK4⟩)
    · have HA : Hid (ans (P source) (tk ws k) = none) := HA0.out.trans hA
      clear hA HA0
      go_wp2
      exact ⟨rfl, .inr ⟨HA.out, b, rfl, h1, h2, (Keep.alloc Pb _ _).trans (hK1.trans h3)⟩⟩
  · have HA : Hid (ans (P source) (tk ws k) = none) := by show _ = _; rw [ans_source, eat_no hn]; rfl
    clear hn
    go_wp2
    exact ⟨rfl, .inr ⟨HA.out, b, rfl, h1, h2, (Keep.alloc Pb _ _).trans h3⟩⟩
end Gr
end Go.Proofs.YtfkdfplnhlnnoaaGreatDoor
end
section
namespace Go.Proofs.YtfkdfplnhlnnoaaGreatDoor
open Go.RowKit
namespace Gr
set_option linter.unusedSimpArgs false
set_option linter.unusedVariables false
open T NT PK
/-- what stands in an aggregate's brackets -/
def ansA (s : Bg.Str) (l : List T) : Option (List T) := if s = [99, 111, 117, 110, 116] then countA l else ans (P expr) l
def AggQ (ws : List RW) (s : Bg.Str) (k k' : Nat) (x : Value) (w' : World) : Prop := (x = .nilIface ∧ s = [99, 111, 117, 110, 116] ∧ hd ws k = some T.star ∧ k' = k + 1) ∨ PartE ws expr k k' x w'
theorem countA_no {ws : List RW} {k : Nat} (h : hd ws k ≠ some T.star) : countA (tk ws k) = ans (P expr) (tk ws k) := by
  cases e : tk ws k with
  | nil => rfl
  | cons u r =>
    have h2 : u ≠ T.star := fun hu => h (by rw [tk_first e, hu])
    cases u <;> first | rfl | exact absurd rfl h2
/-- the boxes of the closure -/
structure AggAt (Pb bn bp : Nat) (s : Bg.Str) (W : World) : Prop where
  n1 : bn ≠ Pb
  n2 : bp ≠ Pb
  c1 : W.cell? ⟨bn, 0, none⟩ = some (.string ⟨s.toArray⟩)
  c2 : W.cell? ⟨bp, 0, none⟩ = some (.pointer (some ⟨Pb, 0, none⟩))
theorem AggAt.keep {Pb bn bp : Nat} {s : Bg.Str} {W W' : World} (h : AggAt Pb bn bp s W) (hK : Keep Pb W W') : AggAt Pb bn bp s W' :=
  ⟨h.n1, h.n2, hK.cell h.n1 h.c1, hK.cell h.n2 h.c2⟩
set_option maxRecDepth 10000 in
set_option maxHeartbeats 1000000 in
theorem p_aggregate1 (Pb : Nat) (ws : List RW) (k bn bp : Nat) (s : Bg.Str) (W : World) (hP : PS Pb ws k W) (hA : AggAt Pb bn bp s W) (he : RdsE Pb ws 158 expr k) :
    Calls Tryz.prog 196 #[.pointer (some ⟨bn, 0, none⟩), .pointer (some ⟨bp, 0, none⟩)] W (Got Pb ws k (ansA s (tk ws k)) (AggQ ws s k) W) := by
  have c1 := hA.c1
  have c2 := hA.c2
  by_cases hs : s = [99, 111, 117, 110, 116]
  · subst hs
    go_enter Tryz.func196, Tryz.ntmps196
    go_wp2_with fail
    refine (p_takeT Pb ws k [42] T.star _ hP (by decide)).mono ?_
    rintro e w1 ⟨hK1, ⟨hi, rfl, hP1⟩ | ⟨hi, rfl, hP1⟩⟩
    · have Hi : Hid (hd ws k = some T.star) := hi
      have HA : Hid (ansA [99, 111, 117, 110, 116] (tk ws k) = some (tk ws (k + 1))) := by show _ = _; unfold ansA; rw [if_pos rfl, tk_hd hi]; rfl
      clear hi
      go_wp2_with fail
      go_ret
      exact .inl ⟨k + 1, _, by omega, HA.out, rfl, .inl ⟨rfl, rfl, Hi.out, rfl⟩, hP1, hK1⟩
    · have HA0 : Hid (ansA [99, 111, 117, 110, 116] (tk ws k) = ans (P expr) (tk ws k)) := by show _ = _; unfold ansA; rw [if_pos rfl, countA_no hi]
      have c2' := hK1.cell hA.n2 c2
      clear hi
      go_wp2_with fail
      refine (he k _ (Nat.le_refl _) hP1).mono ?_
      rintro e w2 (⟨k', x, hle, hA, rfl, ⟨t, hD, hR⟩, hP2, hK2⟩ | ⟨hA, b, rfl, h1, h2, h3⟩)
      · obtain ⟨n, y, rfl⟩ := (hR 0 0 W).iface
        have HA : Hid (ansA [99, 111, 117, 110, 116] (tk ws k) = some (tk ws k')) := HA0.out.trans hA
        clear hA HA0
        go_wp2_with fail
        go_ret
        exact .inl ⟨k', _, hle, HA.out, rfl, .inr ⟨t, hD, hR⟩, hP2, hK1.trans hK2⟩
      · have HA : Hid (ansA [99, 111, 117, 110, 116] (tk ws k) = none) := HA0.out.trans hA
        clear hA HA0
        go_wp2
        exact ⟨rfl, .inr ⟨HA.out, b, rfl, h1, h2, hK1.trans h3⟩⟩
  · have hs' : (s == [99, 111, 117, 110, 116]) = false := by simpa using hs
    have HA0 : Hid (ansA s (tk ws k) = ans (P expr) (tk ws k)) := by show _ = _; unfold ansA; rw [if_neg hs]
    clear hs
    go_enter Tryz.func196, Tryz.ntmps196
    go_wp2_with fail
    refine (he k _ (Nat.le_refl _) hP).mono ?_
    rintro e w2 (⟨k', x, hle, hA, rfl, ⟨t, hD, hR⟩, hP2, hK2⟩ | ⟨hA, b, rfl, h1, h2, h3⟩)
    · obtain ⟨n, y, rfl⟩ := (hR 0 0 W).iface
      have HA : Hid (ansA s (tk ws k) = some (tk ws k')) := HA0.out.trans hA
      clear hA HA0
      go_wp2_with fail
      go_ret
      exact .inl ⟨k', _, hle, HA.out, rfl, .inr ⟨t, hD, hR⟩, hP2, hK2⟩
    · have HA : Hid (ansA s (tk ws k) = none) := HA0.out.trans hA
      clear hA HA0
      go_wp2
      exact ⟨rfl, .inr ⟨HA.out, b, rfl, h1, h2, h3⟩⟩
def ansRA (s : Bg.Str) (l : List T) : Option (List T) := (eat lp l).bind fun r => (ansA s r).bind (eat rp)
def AggR (ws : List RW) (s : Bg.Str) (k k' : Nat) (x : Value) (w' : World) : Prop := ∃ m, hd ws k = some lp ∧ hd ws m = some rp ∧ k + 1 ≤ m ∧ k' = m + 1 ∧ AggQ ws s (k + 1) m x w'
theorem AggQ.is {ws : List RW} {s : Bg.Str} {k k' : Nat} {x : Value} {w' : World} (h : AggQ ws s k k' x w') : x = .nilIface ∨ ∃ n y, x = .iface n y := by
  rcases h with ⟨rfl, _⟩ | ⟨t, _, hR⟩
  · exact .inl rfl
  · exact .inr (hR 0 0 w').iface
set_option maxRecDepth 10000 in
set_option maxHeartbeats 1000000 in
theorem p_roundA (Pb : Nat) (ws : List RW) (k bn bp : Nat) (s : Bg.Str) (W : World) (hP : PS Pb ws k W) (hG : AggAt Pb bn bp s W) (he : RdsE Pb ws 158 expr (k + 1)) :
    Calls Tryz.prog 189 #[.pointer (some ⟨Pb, 0, none⟩), .func (.func 196) #[] #[.pointer (some ⟨bn, 0, none⟩), .pointer (some ⟨bp, 0, none⟩)]] W (Got Pb ws k (ansRA s (tk ws k)) (AggR ws s k) W) := by
  have hok := hP.ok
  go_enter Tryz.func189, Tryz.ntmps189
  go_wp2_with fail
  refine (p_mustT Pb ws k [40] lp _ hP (by decide)).mono ?_
  rintro e w1 (⟨hf, rfl, hP1, hK1⟩ | ⟨hf, b, rfl, h1, h2, h3⟩)
  · have Hf : Hid (hd ws k = some lp) := hf
    have HA0 : Hid (ansRA s (tk ws k) = (ansA s (tk ws (k + 1))).bind (eat rp)) := by show _ = _; unfold ansRA; rw [eat_yes hf, Option.bind_some]
    clear hf
    go_wp2_with fail
    refine (p_aggregate1 Pb ws (k + 1) bn bp s w1 hP1 (hG.keep hK1) he).mono ?_
    rintro e w2 (⟨k', x, hle, hA, rfl, hQ, hP2, hK2⟩ | ⟨hA, b, rfl, h1, h2, h3⟩)
    · have HA1 : Hid (ansRA s (tk ws k) = eat rp (tk ws k')) := by show _ = _; rw [HA0.out, hA, Option.bind_some]
      clear hA HA0
      rcases hQ.is with rfl | ⟨n, y, rfl⟩ <;>
       (go_wp2_with fail
        refine (p_mustT Pb ws k' [41] rp _ hP2 (by decide)).mono ?_
        rintro e w3 (⟨hf2, rfl, hP3, hK3⟩ | ⟨hf2, b, rfl, h1, h2, h3⟩)
        · have Hf2 : Hid (hd ws k' = some rp) := hf2
          have HA : Hid (ansRA s (tk ws k) = some (tk ws (k' + 1))) := by show _ = _; rw [HA1.out, eat_yes hf2]
          clear hf2 HA1
          go_wp2_with fail
          go_ret
          exact .inl ⟨k' + 1, _, by omega, HA.out, rfl, ⟨k', Hf.out, Hf2.out, hle, rfl, hQ⟩, hP3, (hK1.trans hK2).trans hK3⟩
        · have HA : Hid (ansRA s (tk ws k) = none) := by show _ = _; rw [HA1.out, eat_no hf2]
          clear hf2 HA1
          go_wp2
          exact ⟨rfl, .inr ⟨HA.out, b, rfl, h1, h2, (hK1.trans hK2).trans h3⟩⟩)
    · have HA : Hid (ansRA s (tk ws k) = none) := by show _ = _; rw [HA0.out, hA]; rfl
      clear hA HA0
      go_wp2
      exact ⟨rfl, .inr ⟨HA.out, b, rfl, h1, h2, hK1.trans h3⟩⟩
  · have HA : Hid (ansRA s (tk ws k) = none) := by show _ = _; unfold ansRA; rw [eat_no hf]; rfl
    clear hf
    go_wp2
    exact ⟨rfl, .inr ⟨HA.out, b, rfl, h1, h2, h3⟩⟩
theorem fac_agg {ws : List RW} {k : Nat} (hok : ∀ w ∈ ws, Ok1 w) (hk : k < ws.length) (h : isAgg (tok ws[k]) = true) : ans (P factor) (tk ws k) = ansRA (ws[k]).text (tk ws (k + 1)) := by
  have hw := hok _ (List.getElem_mem hk)
  rw [tk_cons hk]
  generalize ws[k] = w at h hw ⊢
  unfold ansRA ansA
  have hc : tok w = count ↔ w.text = [99, 111, 117, 110, 116] := by
    constructor
    · intro e
      have := text_in (p := (· == count)) (L := [[99, 111, 117, 110, 116]]) hw (by simpa using e) (by decide) (by decide) (by decide) (by decide)
      simpa using this
    · intro e
      have := keyB_tok hw (y := ([99, 111, 117, 110, 116], count)) (by decide) (by decide)
      unfold isAgg at h
      simp only [Bool.or_eq_true, beq_iff_eq] at h
      rcases h with h | h
      · exact h
      · rcases (tok_agg hw).1 h with q | q | q <;> (unfold keyB at q; simp [e] at q)
  unfold isAgg at h
  simp only [Bool.or_eq_true, beq_iff_eq] at h
  rcases h with h | h
  · rw [h, ans_fac_count]
    simp only [if_pos (hc.1 h)]
  · rw [h, ans_fac_agg, ans_round]
    have hne : ¬ w.text = [99, 111, 117, 110, 116] := fun e => by
      have h2 := hc.2 e
      rw [h] at h2
      cases h2
    simp only [if_neg hne]
set_option maxRecDepth 10000 in
set_option maxHeartbeats 1000000 in
theorem p_aggregate (Pb : Nat) (ws : List RW) (k : Nat) (W : World) (hP : PS Pb ws k W) (hk : k < ws.length) (ha : isAgg (tok ws[k]) = true) (he : RdsE Pb ws 158 expr (k + 1)) :
    Calls Tryz.prog 190 #[.pointer (some ⟨Pb, 0, none⟩)] W (Got Pb ws k (ans (P factor) (tk ws k)) (PartE ws factor k) W) := by
  have hmf : ∀ (fn : Fn) (first cap : Array Value) (w : World), (Instr.makeFunc fn first cap).run Tryz.prog w = .ok (.func fn first cap) w := fun _ _ _ _ => rfl
  have hPb := hP.lt
  have hok := hP.ok
  have HT : Hid (nSpelt ws k = (ws[k]).text ∧ (ws[k]).text ∈ fns4 ∧ isAgg (tok ws[k]) = true ∧ ans (P factor) (tk ws k) = ansRA (ws[k]).text (tk ws (k + 1))) :=
    ⟨text_spelt hk hok (by rw [hd_in hk]; intro e; rw [Option.some.inj e] at ha; cases ha), text_in (p := isAgg) (hok _ (List.getElem_mem hk)) ha (by decide) (by decide) (by decide) (by decide), ha, fac_agg hok hk ha⟩
  clear ha
  go_enter Tryz.func190, Tryz.ntmps190
  go_wp2_with fail
  refine (p_step Pb ws k _ (hP.keep (wsum _)) hk).mono ?_
  rintro e w1 ⟨rfl, hP1, hK1⟩
  unfold nextV
  have f1 := fun w => fld1 (nKind ws k) ⟨(nSpelt ws k).toArray⟩ (nVal ws k) (nVal_is ws k) w
  have HT1 := HT.out
  clear HT
  generalize nSpelt ws k = s at HT1 f1 ⊢
  have HT : Hid (s = (ws[k]).text ∧ (ws[k]).text ∈ fns4 ∧ isAgg (tok ws[k]) = true ∧ ans (P factor) (tk ws k) = ansRA (ws[k]).text (tk ws (k + 1))) := HT1
  clear HT1
  obtain ⟨c0, g0, hsz⟩ := own1 hPb hK1
  go_wp2_with fail
  have hK0 : Keep Pb W w1 := (Keep.alloc Pb _ _).trans hK1
  have hnew := heap_alloc_new w1 (.cells #[.string ⟨s.toArray⟩] 9)
  have hlt1 := hP1.lt
  have hG : AggAt Pb w1.heap.size W.heap.size s (w1.alloc (.cells #[.string ⟨s.toArray⟩] 9)) := ⟨by omega, by omega, by simp only [World.cell?, hnew]; rfl, (Keep.alloc Pb _ _).cell (by omega) c0⟩
  refine (p_roundA Pb ws (k + 1) w1.heap.size W.heap.size s _ (hP1.keep (wsum _)) hG (he.mono (by omega))).mono ?_
  rintro e w2 (⟨k', x, hle, hA, rfl, hQ, hP2, hK2⟩ | ⟨hA, b, rfl, h1, h2, h3⟩)
  · have HA : Hid (ans (P factor) (tk ws k) = some (tk ws k')) := by show _ = _; rw [HT.out.2.2.2, ← HT.out.1, hA]
    have HQ : Hid (PartE ws factor k k' (.iface 327 (.agg #[.string ⟨s.toArray⟩, x])) w2) := by
      obtain ⟨m, l1, l2, l3, rfl, hq⟩ := hQ
      have n1 := hd_lt l1
      have n2 := hd_lt l2
      rcases hq with ⟨rfl, rfl, hst, rfl⟩ | ⟨t, hD, hR⟩
      · have n3 := hd_lt hst
        refine ⟨_, ?_, fun _ _ _ => Rep.star⟩
        rw [sl_cons hk (by omega), sl_cons n1 (by omega), sl_cons n3 (by omega), sl_one n2]
        have hc : tok ws[k] = count := by
          have hw := hok _ (List.getElem_mem hk)
          have h := HT.out.2.2.1
          have e := HT.out.1.symm
          unfold isAgg at h
          simp only [Bool.or_eq_true, beq_iff_eq] at h
          rcases h with h | h
          · exact h
          · rcases (tok_agg hw).1 h with q | q | q <;> (unfold keyB at q; simp [e] at q)
        exact .fStar hc (hd_tok l1 n1) (hd_tok hst n3) (hd_tok l2 n2)
      · refine ⟨_, ?_, fun _ _ _ => Rep.agg (by rw [HT.out.1]; exact HT.out.2.1) (hR _ _ _)⟩
        rw [sl_cons hk (by omega), sl_cons n1 (by omega), sl_snoc n2 l3, HT.out.1]
        exact .fAgg HT.out.2.2.1 (hd_tok l1 n1) (hd_tok l2 n2) hD
    have hx : x = .nilIface ∨ ∃ n y, x = .iface n y := by obtain ⟨m, _, _, _, _, hq⟩ := hQ; exact hq.is
    have c1 := hK2.cell hG.n1 hG.c1
    clear hA hQ HT
    rcases hx with rfl | ⟨n, y, rfl⟩ <;>
     (go_wp2_with fail
      go_ret
      exact .inl ⟨k', _, by omega, HA.out, rfl, HQ.out, hP2, hK0.trans ((Keep.alloc Pb _ _).trans hK2)⟩)
  · have HA : Hid (ans (P factor) (tk ws k) = none) := by show _ = _; rw [HT.out.2.2.2, ← HT.out.1, hA]
    clear hA HT
    go_wp2
    exact ⟨rfl, .inr ⟨HA.out, b, rfl, h1, h2, hK0.trans ((Keep.alloc Pb _ _).trans h3)⟩⟩
theorem fld2 (a : Int) (b : ByteArray) (x : Value) (hx : x = .nilIface ∨ ∃ t y, x = .iface t y) (w : World) : (Instr.field 139 (.agg #[.int .i64 a, .string b, x]) 2).run Tryz.prog w = .ok x w := by
  rcases hx with rfl | ⟨t, y, rfl⟩ <;> kernel_rfl
/-- a literal's value and tree -/
theorem lit_part {ws : List RW} {k : Nat} (hok : ∀ w ∈ ws, Ok1 w) (h : hd ws k = some lit) (w' : World) : (∃ n y, nVal ws k = .iface n y) ∧ PartE ws factor k (k + 1) (.iface 316 (.agg #[nVal ws k])) w' := by
  have hk := hd_lt h
  have ht := hd_tok h hk
  have hw := hok _ (List.getElem_mem hk)
  rw [(n_in hk).2.2]
  unfold PartE
  rw [sl_one hk]
  rcases (tok_lit hw).1 ht with hs | hs
  · have e : pVal ws[k] = .iface 229 (.int .i64 (ws[k]).num) := by unfold pVal; rw [if_pos hs]
    rw [e]
    exact ⟨⟨_, _, rfl⟩, _, .fNum ht hs, fun _ _ _ => Rep.num⟩
  · have e : pVal ws[k] = .iface 202 (.string ⟨(ws[k]).text.toArray⟩) := by unfold pVal; rw [if_neg (by rw [hs]; decide), if_pos hs]
    rw [e]
    exact ⟨⟨_, _, rfl⟩, _, .fText ht hs, fun _ _ _ => Rep.text⟩
end Gr
end Go.Proofs.YtfkdfplnhlnnoaaGreatDoor
end
