import Derived.Test.YtfkdfplnhlnnoaaGreatDoorBgJa22
section
namespace Go.Proofs.YtfkdfplnhlnnoaaGreatDoor
open Go.RowKit
namespace Gr
set_option linter.unusedSimpArgs false
set_option linter.unusedVariables false
open T NT PK
def RepS (l : List (Value × Value)) (t : Tr) : Prop := ∀ Pb n0 W, Rep Pb n0 W (.srs l) t
/-- the sources read -/
def SourcesQ (Pb : Nat) (ws : List RW) (k n0 k' : Nat) (x : Value) (w' : World) : Prop := ∃ l t, l ≠ [] ∧ Lay Pb n0 w' x l ∧ RepS l t ∧ D sources (sl ws k k') (nd { kind := [114, 111, 119] } t)
theorem list_end_s {ws : List RW} {k1 : Nat} (h : hd ws k1 ≠ some comma) : ans (R sources) (tk ws k1) = some (tk ws k1) := by
  cases e : tk ws k1 with
  | nil => exact ans_R_nil sources (by simp)
  | cons u r => rw [ans_Rsources_cons, if_neg (fun hu => h (by rw [tk_first e, hu]))]
theorem list_on_s {ws : List RW} {k1 : Nat} (h : hd ws k1 = some comma) : ans (R sources) (tk ws k1) = (ans (P source) (tk ws (k1 + 1))).bind (ans (R sources)) := by
  rw [tk_hd h, ans_Rsources_cons, if_pos rfl]
set_option maxRecDepth 10000 in
set_option maxHeartbeats 2000000 in
theorem p_list_sources (Pb : Nat) (ws : List RW) (k : Nat) (W : World) (hP : PS Pb ws k W) (hq : ∀ k' W', k ≤ k' → PS Pb ws k' W' → Calls Tryz.prog 140 #[.pointer (some ⟨Pb, 0, none⟩)] W' (Got Pb ws k' (ans (P source) (tk ws k')) (SrcQ ws k') W')) :
    Calls Tryz.prog 139 #[.pointer (some ⟨Pb, 0, none⟩), .func (.func 140) #[.pointer (some ⟨Pb, 0, none⟩)] #[]] W (Got Pb ws k (ans (P sources) (tk ws k)) (SourcesQ Pb ws k W.heap.size) W) := by
  have hok := hP.ok
  have hlen := hP.len
  have hPb := hP.lt
  obtain ⟨i0, hi0, hz0, hz1, hz2⟩ := info_parts Tryz.infoSource
  go_enter Tryz.func139, Tryz.ntmps139
  go_wp2_with fail
  refine (hq k W (Nat.le_refl _) hP).mono ?_
  rintro e w1 (⟨k1, x, hle, hA, rfl, ⟨n, s, rfl, hD⟩, hP1, hK1⟩ | ⟨hA, b, rfl, h1, h2, h3⟩)
  · have HA1 : Hid (ans (P sources) (tk ws k) = ans (R sources) (tk ws k1)) := by show _ = _; rw [ans_sources, hA, Option.bind_some]
    have HD : Hid (D sources (sl ws k k1) (nd { kind := [114, 111, 119] } (l1 (nd { kind := [115, 111, 117, 114, 99, 101], text := n, as_ := s } .nil)))) := .sOne hD
    have hfar := ans_shorter hA
    rw [tk_len, tk_len] at hfar
    clear hA hD
    unfold strV
    have hl1 := hP1.le
    have hR1 : RepS [(.string ⟨n.toArray⟩, .string ⟨s.toArray⟩)] (l1 (nd { kind := [115, 111, 117, 114, 99, 101], text := n, as_ := s } .nil)) := fun _ _ _ => .scons .snil
    have hown : (w1.alloc (.cells #[.string ⟨n.toArray⟩, .string ⟨s.toArray⟩] 248)).ownsRow W.heap.size 248 2 (.slice (some ⟨w1.heap.size, 0, none⟩) 1 1) 1 (cells2 [(.string ⟨n.toArray⟩, .string ⟨s.toArray⟩)]) := World.ownsRow_lit w1 #[.string ⟨n.toArray⟩, .string ⟨s.toArray⟩] 1 hK1.size (by unfold maxLen; omega) rfl
    go_wp2_with fail
    go_loopg [5] (ws.length - k1 + 1) (fun gk pv wr => ∃ (k1 : Nat) (l : List (Value × Value)) (t : Tr), gk = ws.length - k1 + 1 ∧ k1 ≤ ws.length ∧ k ≤ k1 ∧ l ≠ [] ∧ l.length ≤ k1 ∧ (∀ p ∈ l, ∀ n, p.1 ≠ .int .i64 n) ∧ wr.ownsRow W.heap.size 248 2 pv l.length (cells2 l) ∧ Hid (D sources (sl ws k k1) (nd { kind := [114, 111, 119] } t)) ∧ RepS l t ∧ Hid (ans (P sources) (tk ws k) = ans (R sources) (tk ws k1)) ∧ PS Pb ws k1 wr ∧ Keep Pb W wr)
    case atStart => exact ⟨k1, _, _, rfl, hl1, hle, by simp, by simp; omega, by intro p hp n; simp at hp; rw [hp]; simp, hown, HD, hR1, HA1, hP1.keep (wsum _), hK1.trans (Keep.alloc Pb _ _)⟩
    case round =>
      obtain ⟨k1, l, t, rfl, hl1, hle, hne, hll, hni, hown, HD, hR, HA1, hP1, hK⟩ := hrel
      go_wp2_with fail
      refine (p_takeT Pb ws k1 [44] comma _ hP1 (by decide)).mono ?_
      rintro e w2 ⟨hK2, ⟨hi, rfl, hP2⟩ | ⟨hi, rfl, hP2⟩⟩
      · have Hi : Hid (hd ws k1 = some comma) := hi
        clear hi
        go_wp2_with fail
        refine (hq (k1 + 1) _ (by omega) hP2).mono ?_
        rintro e w3 (⟨k3, x, hle3, hA3, rfl, ⟨n3, s3, rfl, hD3⟩, hP3, hK3⟩ | ⟨hA3, b, rfl, h1, h2, h3⟩)
        · unfold strV
          have hown3 := own_keepP hown (hK2.trans hK3) hPb
          have hK0 := hK.trans (hK2.trans hK3)
          have hl3 := hP3.le
          have hsz3 := hK0.size
          have hown3a := hown3.alloc (.cells #[.string ⟨n3.toArray⟩, .string ⟨s3.toArray⟩] 248)
          have hP3a := hP3.keep (wsum (.cells #[.string ⟨n3.toArray⟩, .string ⟨s3.toArray⟩] 248))
          have hK0a := hK0.trans (Keep.alloc Pb w3 (.cells #[.string ⟨n3.toArray⟩, .string ⟨s3.toArray⟩] 248))
          have HA5 : Hid (ans (P sources) (tk ws k) = ans (R sources) (tk ws k3)) := by show _ = _; rw [HA1.out, list_on_s Hi.out, hA3, Option.bind_some]
          have HD5 : Hid (D sources (sl ws k k3) (nd { kind := [114, 111, 119] } (t.snoc (nd { kind := [115, 111, 117, 114, 99, 101], text := n3, as_ := s3 } .nil)))) := by
            show D _ _ _
            have lc := hd_lt Hi.out
            rw [sl_app ws (show k ≤ k1 by omega) (show k1 ≤ k3 by omega), sl_cons lc (by omega)]
            exact .sMore (hd_tok Hi.out lc) HD.out hD3
          have hR5 : RepS (l ++ [(.string ⟨n3.toArray⟩, .string ⟨s3.toArray⟩)]) (t.snoc (nd { kind := [115, 111, 117, 114, 99, 101], text := n3, as_ := s3 } .nil)) := fun _ _ _ => (hR _ _ _).ssnoc
          have hne5 : l ++ [(.string ⟨n3.toArray⟩, .string ⟨s3.toArray⟩)] ≠ [] := by simp
          have hni5 : ∀ p ∈ l ++ [((.string ⟨n3.toArray⟩, .string ⟨s3.toArray⟩) : Value × Value)], ∀ n, p.1 ≠ .int .i64 n := by
            intro p hp n
            rcases List.mem_append.1 hp with hp | hp
            · exact hni p hp n
            · simp at hp; rw [hp]; simp
          have hrow := row_first hown3a hne hni hPb
          have hc5 : cells2 (l ++ [((.string ⟨n3.toArray⟩, .string ⟨s3.toArray⟩) : Value × Value)]) = cells2 l ++ [.string ⟨n3.toArray⟩, .string ⟨s3.toArray⟩] := by simp [cells2]
          have HC5 : Hid (cells2 (l ++ [((.string ⟨n3.toArray⟩, .string ⟨s3.toArray⟩) : Value × Value)]) = cells2 l ++ [.string ⟨n3.toArray⟩, .string ⟨s3.toArray⟩]) := hc5
          have HL5 : Hid ((l ++ [((.string ⟨n3.toArray⟩, .string ⟨s3.toArray⟩) : Value × Value)]).length = l.length + 1) := by show _ = _; simp
          clear hc5 hA3 hD3 HA1 HD hR
          go_wp2_with (at_builtin; go_must (refine wpList_append_own _ rfl _ _ 232 rfl W.heap.size 248 i0 (.agg #[.string ⟨#[]⟩, .string ⟨#[]⟩]) 2 32 Tryz.underlying232 hi0 hz0 hz1 hz2 rfl (by decide) _ _ _ rfl hown3a ⟨w3.heap.size, 0, none⟩ 1 1 [.string ⟨n3.toArray⟩, .string ⟨s3.toArray⟩] rfl rfl (cell_two _ _ _ _) (by simp [Value.oneCell']) (by unfold maxLen; omega) (by omega) (by simp; omega) ?_); intro v' w5 hown' hgrow _)
          go_roundg (ws.length - k3 + 1)
          case measure => omega
          case rel => exact ⟨k3, _, _, rfl, hl3, by omega, hne5, by rw [HL5.out]; omega, hni5, by rw [HL5.out, HC5.out]; exact hown', HD5, hR5, HA5, hP3a.grown hgrow hrow, keep_grown hK0a hown3a hgrow⟩
        · have HA : Hid (ans (P sources) (tk ws k) = none) := by show _ = _; rw [HA1.out, list_on_s Hi.out, hA3]; rfl
          clear hA3 HA1
          go_wp2
          exact ⟨rfl, .inr ⟨HA.out, b, rfl, h1, h2, hK.trans (hK2.trans h3)⟩⟩
      · have HA : Hid (ans (P sources) (tk ws k) = some (tk ws k1)) := by show _ = _; rw [HA1.out, list_end_s hi]
        have HL : Hid (Lay Pb W.heap.size w2 u5 l) := lay_of (own_keepP hown hK2 hPb) hne hPb
        clear hi HA1
        go_wp2_with fail
        go_ret
        exact .inl ⟨k1, _, hle, HA.out, rfl, ⟨l, t, hne, HL.out, hR, HD.out⟩, hP2, hK.trans hK2⟩
  · have HA : Hid (ans (P sources) (tk ws k) = none) := by show _ = _; rw [ans_sources, hA]; rfl
    clear hA
    go_wp2
    exact ⟨rfl, .inr ⟨HA.out, b, rfl, h1, h2, h3⟩⟩
def RepC (l : List (Value × Value)) (t : Tr) : Prop := ∀ Pb n0 W, Rep Pb n0 W (.cls l) t
/-- the columns read -/
def ColumnsQ (Pb : Nat) (ws : List RW) (k n0 k' : Nat) (x : Value) (w' : World) : Prop := ∃ l t, l ≠ [] ∧ Lay Pb n0 w' x l ∧ RepC l t ∧ D columns (sl ws k k') (nd { kind := [114, 111, 119] } t)
theorem list_end_c {ws : List RW} {k1 : Nat} (h : hd ws k1 ≠ some comma) : ans (R columns) (tk ws k1) = some (tk ws k1) := by
  cases e : tk ws k1 with
  | nil => exact ans_R_nil columns (by simp)
  | cons u r => rw [ans_Rcolumns_cons, if_neg (fun hu => h (by rw [tk_first e, hu]))]
theorem list_on_c {ws : List RW} {k1 : Nat} (h : hd ws k1 = some comma) : ans (R columns) (tk ws k1) = (ans (P column) (tk ws (k1 + 1))).bind (ans (R columns)) := by
  rw [tk_hd h, ans_Rcolumns_cons, if_pos rfl]
set_option maxRecDepth 10000 in
set_option maxHeartbeats 2000000 in
theorem p_list_columns (Pb : Nat) (ws : List RW) (k : Nat) (W : World) (hP : PS Pb ws k W) (hq : ∀ k' W', k ≤ k' → PS Pb ws k' W' → Calls Tryz.prog 143 #[.pointer (some ⟨Pb, 0, none⟩)] W' (Got Pb ws k' (ans (P column) (tk ws k')) (ColQ ws k') W')) :
    Calls Tryz.prog 142 #[.pointer (some ⟨Pb, 0, none⟩), .func (.func 143) #[.pointer (some ⟨Pb, 0, none⟩)] #[]] W (Got Pb ws k (ans (P columns) (tk ws k)) (ColumnsQ Pb ws k W.heap.size) W) := by
  have hok := hP.ok
  have hlen := hP.len
  have hPb := hP.lt
  obtain ⟨i0, hi0, hz0, hz1, hz2⟩ := info_parts Tryz.infoColumn
  go_enter Tryz.func142, Tryz.ntmps142
  go_wp2_with fail
  refine (hq k W (Nat.le_refl _) hP).mono ?_
  rintro e w1 (⟨k1, x, hle, hA, rfl, ⟨n, s, rfl, hD⟩, hP1, hK1⟩ | ⟨hA, b, rfl, h1, h2, h3⟩)
  · have HA1 : Hid (ans (P columns) (tk ws k) = ans (R columns) (tk ws k1)) := by show _ = _; rw [ans_columns, hA, Option.bind_some]
    have HD : Hid (D columns (sl ws k k1) (nd { kind := [114, 111, 119] } (l1 (nd { kind := [99, 111, 108, 117, 109, 110], of_ := n, text := s } .nil)))) := .cOne hD
    have hfar := ans_shorter hA
    rw [tk_len, tk_len] at hfar
    clear hA hD
    unfold strV
    have hl1 := hP1.le
    have hR1 : RepC [(.string ⟨n.toArray⟩, .string ⟨s.toArray⟩)] (l1 (nd { kind := [99, 111, 108, 117, 109, 110], of_ := n, text := s } .nil)) := fun _ _ _ => .ccons .cnil
    have hown : (w1.alloc (.cells #[.string ⟨n.toArray⟩, .string ⟨s.toArray⟩] 254)).ownsRow W.heap.size 254 2 (.slice (some ⟨w1.heap.size, 0, none⟩) 1 1) 1 (cells2 [(.string ⟨n.toArray⟩, .string ⟨s.toArray⟩)]) := World.ownsRow_lit w1 #[.string ⟨n.toArray⟩, .string ⟨s.toArray⟩] 1 hK1.size (by unfold maxLen; omega) rfl
    go_wp2_with fail
    go_loopg [5] (ws.length - k1 + 1) (fun gk pv wr => ∃ (k1 : Nat) (l : List (Value × Value)) (t : Tr), gk = ws.length - k1 + 1 ∧ k1 ≤ ws.length ∧ k ≤ k1 ∧ l ≠ [] ∧ l.length ≤ k1 ∧ (∀ p ∈ l, ∀ n, p.1 ≠ .int .i64 n) ∧ wr.ownsRow W.heap.size 254 2 pv l.length (cells2 l) ∧ Hid (D columns (sl ws k k1) (nd { kind := [114, 111, 119] } t)) ∧ RepC l t ∧ Hid (ans (P columns) (tk ws k) = ans (R columns) (tk ws k1)) ∧ PS Pb ws k1 wr ∧ Keep Pb W wr)
    case atStart => exact ⟨k1, _, _, rfl, hl1, hle, by simp, by simp; omega, by intro p hp n; simp at hp; rw [hp]; simp, hown, HD, hR1, HA1, hP1.keep (wsum _), hK1.trans (Keep.alloc Pb _ _)⟩
    case round =>
      obtain ⟨k1, l, t, rfl, hl1, hle, hne, hll, hni, hown, HD, hR, HA1, hP1, hK⟩ := hrel
      go_wp2_with fail
      refine (p_takeT Pb ws k1 [44] comma _ hP1 (by decide)).mono ?_
      rintro e w2 ⟨hK2, ⟨hi, rfl, hP2⟩ | ⟨hi, rfl, hP2⟩⟩
      · have Hi : Hid (hd ws k1 = some comma) := hi
        clear hi
        go_wp2_with fail
        refine (hq (k1 + 1) _ (by omega) hP2).mono ?_
        rintro e w3 (⟨k3, x, hle3, hA3, rfl, ⟨n3, s3, rfl, hD3⟩, hP3, hK3⟩ | ⟨hA3, b, rfl, h1, h2, h3⟩)
        · unfold strV
          have hown3 := own_keepP hown (hK2.trans hK3) hPb
          have hK0 := hK.trans (hK2.trans hK3)
          have hl3 := hP3.le
          have hsz3 := hK0.size
          have hown3a := hown3.alloc (.cells #[.string ⟨n3.toArray⟩, .string ⟨s3.toArray⟩] 254)
          have hP3a := hP3.keep (wsum (.cells #[.string ⟨n3.toArray⟩, .string ⟨s3.toArray⟩] 254))
          have hK0a := hK0.trans (Keep.alloc Pb w3 (.cells #[.string ⟨n3.toArray⟩, .string ⟨s3.toArray⟩] 254))
          have HA5 : Hid (ans (P columns) (tk ws k) = ans (R columns) (tk ws k3)) := by show _ = _; rw [HA1.out, list_on_c Hi.out, hA3, Option.bind_some]
          have HD5 : Hid (D columns (sl ws k k3) (nd { kind := [114, 111, 119] } (t.snoc (nd { kind := [99, 111, 108, 117, 109, 110], of_ := n3, text := s3 } .nil)))) := by
            show D _ _ _
            have lc := hd_lt Hi.out
            rw [sl_app ws (show k ≤ k1 by omega) (show k1 ≤ k3 by omega), sl_cons lc (by omega)]
            exact .cMore (hd_tok Hi.out lc) HD.out hD3
          have hR5 : RepC (l ++ [(.string ⟨n3.toArray⟩, .string ⟨s3.toArray⟩)]) (t.snoc (nd { kind := [99, 111, 108, 117, 109, 110], of_ := n3, text := s3 } .nil)) := fun _ _ _ => (hR _ _ _).csnoc
          have hne5 : l ++ [(.string ⟨n3.toArray⟩, .string ⟨s3.toArray⟩)] ≠ [] := by simp
          have hni5 : ∀ p ∈ l ++ [((.string ⟨n3.toArray⟩, .string ⟨s3.toArray⟩) : Value × Value)], ∀ n, p.1 ≠ .int .i64 n := by
            intro p hp n
            rcases List.mem_append.1 hp with hp | hp
            · exact hni p hp n
            · simp at hp; rw [hp]; simp
          have hrow := row_first hown3a hne hni hPb
          have hc5 : cells2 (l ++ [((.string ⟨n3.toArray⟩, .string ⟨s3.toArray⟩) : Value × Value)]) = cells2 l ++ [.string ⟨n3.toArray⟩, .string ⟨s3.toArray⟩] := by simp [cells2]
          have HC5 : Hid (cells2 (l ++ [((.string ⟨n3.toArray⟩, .string ⟨s3.toArray⟩) : Value × Value)]) = cells2 l ++ [.string ⟨n3.toArray⟩, .string ⟨s3.toArray⟩]) := hc5
          have HL5 : Hid ((l ++ [((.string ⟨n3.toArray⟩, .string ⟨s3.toArray⟩) : Value × Value)]).length = l.length + 1) := by show _ = _; simp
          clear hc5 hA3 hD3 HA1 HD hR
          go_wp2_with (at_builtin; go_must (refine wpList_append_own _ rfl _ _ 235 rfl W.heap.size 254 i0 (.agg #[.string ⟨#[]⟩, .string ⟨#[]⟩]) 2 32 Tryz.underlying235 hi0 hz0 hz1 hz2 rfl (by decide) _ _ _ rfl hown3a ⟨w3.heap.size, 0, none⟩ 1 1 [.string ⟨n3.toArray⟩, .string ⟨s3.toArray⟩] rfl rfl (cell_two _ _ _ _) (by simp [Value.oneCell']) (by unfold maxLen; omega) (by omega) (by simp; omega) ?_); intro v' w5 hown' hgrow _)
          go_roundg (ws.length - k3 + 1)
          case measure => omega
          case rel => exact ⟨k3, _, _, rfl, hl3, by omega, hne5, by rw [HL5.out]; omega, hni5, by rw [HL5.out, HC5.out]; exact hown', HD5, hR5, HA5, hP3a.grown hgrow hrow, keep_grown hK0a hown3a hgrow⟩
        · have HA : Hid (ans (P columns) (tk ws k) = none) := by show _ = _; rw [HA1.out, list_on_c Hi.out, hA3]; rfl
          clear hA3 HA1
          go_wp2
          exact ⟨rfl, .inr ⟨HA.out, b, rfl, h1, h2, hK.trans (hK2.trans h3)⟩⟩
      · have HA : Hid (ans (P columns) (tk ws k) = some (tk ws k1)) := by show _ = _; rw [HA1.out, list_end_c hi]
        have HL : Hid (Lay Pb W.heap.size w2 u5 l) := lay_of (own_keepP hown hK2 hPb) hne hPb
        clear hi HA1
        go_wp2_with fail
        go_ret
        exact .inl ⟨k1, _, hle, HA.out, rfl, ⟨l, t, hne, HL.out, hR, HD.out⟩, hP2, hK.trans hK2⟩
  · have HA : Hid (ans (P columns) (tk ws k) = none) := by show _ = _; rw [ans_columns, hA]; rfl
    clear hA
    go_wp2
    exact ⟨rfl, .inr ⟨HA.out, b, rfl, h1, h2, h3⟩⟩
end Gr
end Go.Proofs.YtfkdfplnhlnnoaaGreatDoor
end
section
namespace Go.Proofs.YtfkdfplnhlnnoaaGreatDoor
open Go.RowKit
namespace Gr
set_option linter.unusedSimpArgs false
set_option linter.unusedVariables false
open T NT PK
def TookB (ws : List RW) (k : Nat) (t : T) (b : Bool) (k2 : Nat) : Prop := b = true ∧ hd ws k = some t ∧ k2 = k + 1 ∨ b = false ∧ hd ws k ≠ some t ∧ k2 = k
theorem p_takeB (Pb : Nat) (ws : List RW) (k : Nat) (s : Bg.Str) (t : T) (W : World) (hP : PS Pb ws k W) (hs : spells s t = true) :
    Calls Tryz.prog 116 #[.pointer (some ⟨Pb, 0, none⟩), .string ⟨s.toArray⟩] W fun e w' => ∃ b k2, e = .returned (.bool b) ∧ Hid (TookB ws k t b k2) ∧ PS Pb ws k2 w' ∧ Keep Pb W w' := by
  refine (p_takeT Pb ws k s t W hP hs).mono ?_
  rintro e w1 ⟨hK, ⟨hf, rfl, hP1⟩ | ⟨hf, rfl, hP1⟩⟩
  · exact ⟨true, k + 1, rfl, .inl ⟨rfl, hf, rfl⟩, hP1, hK⟩
  · exact ⟨false, k, rfl, .inr ⟨rfl, hf, rfl⟩, hP1, hK⟩
/-- the selection's block, at the block that the world's next one was -/
structure Sel (Pb : Nat) (ws : List RW) (W : World) (k : Nat) (w : World) (b : Bool) (i f x g h : Value) : Prop where
  ps : PS Pb ws k w
  kp : Keep Pb W w
  ob : w.heap[W.heap.size]? = some (.cells #[.bool b, i, f, x, g, h] 237 (0, 0))
theorem Sel.keep {Pb : Nat} {ws : List RW} {W : World} {k k' : Nat} {w w' : World} {b : Bool} {i f x g h : Value} (hs : Sel Pb ws W k w b i f x g h) (hK : Keep Pb w w') (hP : PS Pb ws k' w') (hPb : Pb < W.heap.size) : Sel Pb ws W k' w' b i f x g h :=
  ⟨hP, hs.kp.trans hK, hK.obj (by omega) hs.ob⟩
theorem Sel.cells {Pb : Nat} {ws : List RW} {W : World} {k : Nat} {w : World} {b : Bool} {i f x g h : Value} (hs : Sel Pb ws W k w b i f x g h) : w.cell? ⟨W.heap.size, 0, none⟩ = some (.bool b) ∧ w.cell? ⟨W.heap.size, 1, none⟩ = some i ∧ w.cell? ⟨W.heap.size, 2, none⟩ = some f ∧ w.cell? ⟨W.heap.size, 3, none⟩ = some x ∧ w.cell? ⟨W.heap.size, 4, none⟩ = some g ∧ w.cell? ⟨W.heap.size, 5, none⟩ = some h ∧ (∀ o, w.frozen? ⟨W.heap.size, o, none⟩ = false) := by
  have ho := hs.ob
  exact ⟨by simp only [World.cell?, ho]; rfl, by simp only [World.cell?, ho]; rfl, by simp only [World.cell?, ho]; rfl, by simp only [World.cell?, ho]; rfl, by simp only [World.cell?, ho]; rfl, by simp only [World.cell?, ho]; rfl, fun o => by simp only [World.frozen?, ho]; rfl⟩
theorem Sel.ps2 {Pb : Nat} {ws : List RW} {W : World} {k : Nat} {w : World} {b : Bool} {i f x g h : Value} (hs : Sel Pb ws W k w b i f x g h) (hPb : Pb < W.heap.size) (o : Nat) (v : Value) : PS Pb ws k (w.setCell ⟨W.heap.size, o, none⟩ v) ∧ Keep Pb W (w.setCell ⟨W.heap.size, o, none⟩ v) :=
  hs.ps.own hs.kp (Nat.le_refl _) hPb hs.cells.1 (by intro n; simp) o v
theorem Sel.set0 {Pb : Nat} {ws : List RW} {W : World} {k : Nat} {w : World} {b : Bool} {i f x g h : Value} (hs : Sel Pb ws W k w b i f x g h) (hPb : Pb < W.heap.size) (c : Bool) : Sel Pb ws W k (w.setCell ⟨W.heap.size, 0, none⟩ (.bool c)) c i f x g h :=
  ⟨(hs.ps2 hPb 0 _).1, (hs.ps2 hPb 0 _).2, setCell_heap hs.ob⟩
theorem Sel.set1 {Pb : Nat} {ws : List RW} {W : World} {k : Nat} {w : World} {b : Bool} {i f x g h : Value} (hs : Sel Pb ws W k w b i f x g h) (hPb : Pb < W.heap.size) (v : Value) : Sel Pb ws W k (w.setCell ⟨W.heap.size, 1, none⟩ v) b v f x g h :=
  ⟨(hs.ps2 hPb 1 _).1, (hs.ps2 hPb 1 _).2, setCell_heap hs.ob⟩
theorem Sel.set2 {Pb : Nat} {ws : List RW} {W : World} {k : Nat} {w : World} {b : Bool} {i f x g h : Value} (hs : Sel Pb ws W k w b i f x g h) (hPb : Pb < W.heap.size) (v : Value) : Sel Pb ws W k (w.setCell ⟨W.heap.size, 2, none⟩ v) b i v x g h :=
  ⟨(hs.ps2 hPb 2 _).1, (hs.ps2 hPb 2 _).2, setCell_heap hs.ob⟩
theorem Sel.set3 {Pb : Nat} {ws : List RW} {W : World} {k : Nat} {w : World} {b : Bool} {i f x g h : Value} (hs : Sel Pb ws W k w b i f x g h) (hPb : Pb < W.heap.size) (v : Value) : Sel Pb ws W k (w.setCell ⟨W.heap.size, 3, none⟩ v) b i f v g h :=
  ⟨(hs.ps2 hPb 3 _).1, (hs.ps2 hPb 3 _).2, setCell_heap hs.ob⟩
theorem Sel.set4 {Pb : Nat} {ws : List RW} {W : World} {k : Nat} {w : World} {b : Bool} {i f x g h : Value} (hs : Sel Pb ws W k w b i f x g h) (hPb : Pb < W.heap.size) (v : Value) : Sel Pb ws W k (w.setCell ⟨W.heap.size, 4, none⟩ v) b i f x v h :=
  ⟨(hs.ps2 hPb 4 _).1, (hs.ps2 hPb 4 _).2, setCell_heap hs.ob⟩
theorem Sel.set5 {Pb : Nat} {ws : List RW} {W : World} {k : Nat} {w : World} {b : Bool} {i f x g h : Value} (hs : Sel Pb ws W k w b i f x g h) (hPb : Pb < W.heap.size) (v : Value) : Sel Pb ws W k (w.setCell ⟨W.heap.size, 5, none⟩ v) b i f x g v :=
  ⟨(hs.ps2 hPb 5 _).1, (hs.ps2 hPb 5 _).2, setCell_heap hs.ob⟩
theorem Lay.keep {Pb n0 : Nat} {W W' : World} {x : Value} {l : List (Value × Value)} (h : Lay Pb n0 W x l) (hK : Keep Pb W W') : Lay Pb n0 W' x l := h.same fun g o v _ hg hc => hK.cell hg hc
theorem Lay.setLo {Pb n0 : Nat} {W : World} {x : Value} {l : List (Value × Value)} (h : Lay Pb n0 W x l) {b : Nat} (hb : b < n0) (o : Nat) (v : Value) : Lay Pb n0 (W.setCell ⟨b, o, none⟩ v) x l :=
  h.same fun g o' v' hg _ hc => (World.cell?_setCell_far W ⟨b, o, none⟩ ⟨g, o', none⟩ v (fun e => by have : b = g := e; omega)).trans hc
/-- the items, the sources, a condition that may be missing, the columns grouped by -/
def ItOk (Pb n0 : Nat) (w : World) (c : Bool) (i : Value) (t : Tr) : Prop := ∃ is, (c = true ∧ i = .slice none 0 0 ∧ is = [] ∨ c = false ∧ is ≠ [] ∧ Lay Pb n0 w i is) ∧ RepI is t
def SrOk (Pb n0 : Nat) (w : World) (f : Value) (t : Tr) : Prop := ∃ fs, fs ≠ [] ∧ Lay Pb n0 w f fs ∧ RepS fs t
def CoOk (Pb n0 : Nat) (w : World) (g : Value) (t : Tr) : Prop := ∃ gs, (g = .slice none 0 0 ∧ gs = [] ∨ gs ≠ [] ∧ Lay Pb n0 w g gs) ∧ RepC gs t
def WhOk (Pb n0 : Nat) (w : World) (x : Value) (t : Tr) : Prop := x = .nilIface ∧ t = .nil ∨ Rep Pb n0 w (.v x) t
theorem ItOk.same {Pb n0 : Nat} {w w' : World} {c : Bool} {i : Value} {t : Tr} (h : ItOk Pb n0 w c i t) (hL : ∀ x l, Lay Pb n0 w x l → Lay Pb n0 w' x l) : ItOk Pb n0 w' c i t := by
  obtain ⟨is, h1, h2⟩ := h
  exact ⟨is, h1.imp id (fun ⟨a, b, c⟩ => ⟨a, b, hL _ _ c⟩), h2⟩
theorem SrOk.same {Pb n0 : Nat} {w w' : World} {i : Value} {t : Tr} (h : SrOk Pb n0 w i t) (hL : ∀ x l, Lay Pb n0 w x l → Lay Pb n0 w' x l) : SrOk Pb n0 w' i t := by
  obtain ⟨is, h1, h2, h3⟩ := h
  exact ⟨is, h1, hL _ _ h2, h3⟩
theorem CoOk.same {Pb n0 : Nat} {w w' : World} {i : Value} {t : Tr} (h : CoOk Pb n0 w i t) (hL : ∀ x l, Lay Pb n0 w x l → Lay Pb n0 w' x l) : CoOk Pb n0 w' i t := by
  obtain ⟨is, h1, h2⟩ := h
  exact ⟨is, h1.imp id (fun ⟨a, b⟩ => ⟨a, hL _ _ b⟩), h2⟩
theorem WhOk.keep {Pb n0 : Nat} {w w' : World} {i : Value} {t : Tr} (h : WhOk Pb n0 w i t) (hK : Keep Pb w w') : WhOk Pb n0 w' i t := h.imp id (fun r => r.keep hK)
theorem WhOk.setLo {Pb n0 : Nat} {w : World} {i : Value} {t : Tr} (h : WhOk Pb n0 w i t) {b : Nat} (hb : b < n0) (o : Nat) (v : Value) : WhOk Pb n0 (w.setCell ⟨b, o, none⟩ v) i t := h.imp id (fun r => r.setLo hb o v)
theorem WhOk.parts {Pb n0 : Nat} {w : World} {x : Value} {t : Tr} (h : WhOk Pb n0 w x t) : (x = .nilIface ∧ t = .nil ∨ x ≠ .nilIface ∧ t.isNode = true) ∧ (x ≠ .nilIface → Rep Pb n0 w (.v x) t) := by
  rcases h with ⟨rfl, rfl⟩ | h
  · exact ⟨.inl ⟨rfl, rfl⟩, fun e => absurd rfl e⟩
  · obtain ⟨n, y, rfl⟩ := h.iface
    exact ⟨.inr ⟨by simp, h.node⟩, fun _ => h⟩
theorem sel_rep {Pb n0 : Nat} {w : World} {b c : Bool} {i f x g h : Value} {ti tf tw tg th : Tr} (h1 : ItOk Pb n0 w c i ti) (h2 : SrOk Pb n0 w f tf) (h3 : CoOk Pb n0 w g tg) (h4 : WhOk Pb n0 w x tw) (h5 : WhOk Pb n0 w h th) :
    Rep Pb n0 w (.v (.iface 237 (.agg #[.bool b, i, f, x, g, h]))) (selT c b ti (tailT tf tg tw th)) := by
  obtain ⟨is, a1, a2⟩ := h1
  obtain ⟨fs, b1, b2, b3⟩ := h2
  obtain ⟨gs, c1, c2⟩ := h3
  exact Rep.select a1 ⟨b1, b2⟩ c1 (a2 _ _ _) (b3 _ _ _) (c2 _ _ _) h4.parts.1 h5.parts.1 h4.parts.2 h5.parts.2
/-- the part of the grammar behind the sources -/
def Behind (ws : List RW) (k6 k' : Nat) (g h : Tr) : Prop := k' = k6 ∧ hd ws k6 ≠ some group ∧ g = .nil ∧ h = .nil ∨ hd ws k6 = some group ∧ hd ws (k6 + 1) = some by_ ∧ k6 + 2 ≤ k' ∧ D grouped (sl ws (k6 + 2) k') (tailT .nil g .nil h)
theorem tail_none {ws : List RW} {a k5 k' : Nat} {tf g h : Tr} (hD : D sources (sl ws a k5) (nd { kind := [114, 111, 119] } tf)) (ha : a ≤ k5) (hB : Behind ws k5 k' g h) : D tail (sl ws a k') (tailT tf g .nil h) := by
  rcases hB with ⟨rfl, _, rfl, rfl⟩ | ⟨h1, h2, h3, h4⟩
  · exact .tSrc hD
  · have l1 := hd_lt h1
    have l2 := hd_lt h2
    rw [sl_app ws ha (show k5 ≤ k' by omega), sl_cons l1 (by omega), sl_cons l2 (by omega)]
    exact .tGroup (hd_tok h1 l1) (hd_tok h2 l2) hD h4
theorem tail_where {ws : List RW} {a k5 k6 k' : Nat} {tf g h tw : Tr} (hD : D sources (sl ws a k5) (nd { kind := [114, 111, 119] } tf)) (ha : a ≤ k5) (hw : hd ws k5 = some where_) (hC : D cnd (sl ws (k5 + 1) k6) tw) (hk : k5 + 1 ≤ k6) (hB : Behind ws k6 k' g h) : D tail (sl ws a k') (tailT tf g tw h) := by
  have l1 := hd_lt hw
  rcases hB with ⟨rfl, _, rfl, rfl⟩ | ⟨h1, h2, h3, h4⟩
  · rw [sl_app ws ha (show k5 ≤ k' by omega), sl_cons l1 (by omega)]
    exact .tWhere (hd_tok hw l1) hD (.aCond hC)
  · have l2 := hd_lt h1
    have l3 := hd_lt h2
    rw [sl_app ws ha (show k5 ≤ k' by omega), sl_cons l1 (by omega), sl_app ws hk (show k6 ≤ k' by omega), sl_cons l2 (by omega), sl_cons l3 (by omega)]
    exact .tWhere (hd_tok hw l1) hD (.aGroup (hd_tok h1 l2) (hd_tok h2 l3) hC h4)
/-- the part of the grammar ahead of from -/
theorem core_star {ws : List RW} {k k1 k' : Nat} {b : Bool} {tt : Tr} (h0 : hd ws k = some sel) (h1 : TookB ws (k + 1) dist b k1) (h2 : hd ws k1 = some T.star) (h3 : hd ws (k1 + 1) = some fr_) (hle : k1 + 2 ≤ k') (hT : D tail (sl ws (k1 + 2) k') tt) : D core (sl ws k k') (selT true b .nil tt) := by
  have l0 := hd_lt h0
  have l2 := hd_lt h2
  have l3 := hd_lt h3
  rcases h1 with ⟨rfl, h1, rfl⟩ | ⟨rfl, h1, rfl⟩
  · have l1 := hd_lt h1
    rw [sl_cons l0 (by omega), sl_cons l1 (by omega), sl_cons l2 (by omega), sl_cons l3 (by omega)]
    exact .cStarD (hd_tok h0 l0) (hd_tok h1 l1) (hd_tok h2 l2) (hd_tok h3 l3) hT
  · rw [sl_cons l0 (by omega), sl_cons l2 (by omega), sl_cons l3 (by omega)]
    exact .cStar (hd_tok h0 l0) (hd_tok h2 l2) (hd_tok h3 l3) hT
theorem core_items {ws : List RW} {k k1 k3 k' : Nat} {b : Bool} {ti tt : Tr} (h0 : hd ws k = some sel) (h1 : TookB ws (k + 1) dist b k1) (hI : D items (sl ws k1 k3) (nd { kind := [114, 111, 119] } ti)) (h13 : k1 ≤ k3) (h3 : hd ws k3 = some fr_) (hle : k3 + 1 ≤ k') (hT : D tail (sl ws (k3 + 1) k') tt) : D core (sl ws k k') (selT false b ti tt) := by
  have l0 := hd_lt h0
  have l3 := hd_lt h3
  rcases h1 with ⟨rfl, h1, rfl⟩ | ⟨rfl, h1, rfl⟩
  · have l1 := hd_lt h1
    rw [sl_cons l0 (by omega), sl_cons l1 (by omega), sl_app ws h13 (by omega), sl_cons l3 (by omega)]
    exact .cSelD (hd_tok h0 l0) (hd_tok h1 l1) (hd_tok h3 l3) hI hT
  · rw [sl_cons l0 (by omega), sl_app ws h13 (by omega), sl_cons l3 (by omega)]
    exact .cSel (hd_tok h0 l0) (hd_tok h3 l3) hI hT
theorem sel_star {ws : List RW} {k k1 : Nat} {b : Bool} (h0 : hd ws k = some sel) (h1 : TookB ws (k + 1) dist b k1) (h2 : hd ws k1 = some T.star) : ans (P core) (tk ws k) = (eat fr_ (tk ws (k1 + 1))).bind (ans (P tail)) := by
  rw [tk_hd h0, ans_core_sel]
  have e : skip dist (tk ws (k + 1)) = tk ws k1 := by
    rcases h1 with ⟨_, h, rfl⟩ | ⟨_, h, rfl⟩
    · exact skip_yes h
    · exact skip_no h
  rw [e, tk_hd h2]; rfl
theorem sel_items {ws : List RW} {k k1 : Nat} {b : Bool} (h0 : hd ws k = some sel) (h1 : TookB ws (k + 1) dist b k1) (h2 : hd ws k1 ≠ some T.star) : ans (P core) (tk ws k) = (ans (P items) (tk ws k1)).bind fun r => (eat fr_ r).bind (ans (P tail)) := by
  rw [tk_hd h0, ans_core_sel]
  have e : skip dist (tk ws (k + 1)) = tk ws k1 := by
    rcases h1 with ⟨_, h, rfl⟩ | ⟨_, h, rfl⟩
    · exact skip_yes h
    · exact skip_no h
  rw [e]
  have e2 : selA (tk ws k1) = ans (P items) (tk ws k1) := by
    cases e : tk ws k1 with
    | nil => rfl
    | cons u r =>
      have hu : u ≠ T.star := fun hu => h2 (by rw [tk_first e, hu])
      cases u <;> first | rfl | exact absurd rfl hu
  rw [e2]
theorem tailA_where {ws : List RW} {k : Nat} (h : hd ws k = some where_) : tailA (tk ws k) = (ans (P cnd) (tk ws (k + 1))).bind afterA := by
  rw [tk_hd h]
  show ans (P after) _ = _
  rw [ans_after]
theorem tailA_no {ws : List RW} {k : Nat} (h : hd ws k ≠ some where_) : tailA (tk ws k) = afterA (tk ws k) := by
  cases e : tk ws k with
  | nil => rfl
  | cons u r =>
    have hu : u ≠ where_ := fun hu => h (by rw [tk_first e, hu])
    cases u <;> first | rfl | exact absurd rfl hu
theorem afterA_no {ws : List RW} {k : Nat} (h : hd ws k ≠ some group) : afterA (tk ws k) = some (tk ws k) := by
  cases e : tk ws k with
  | nil => rfl
  | cons u r =>
    have hu : u ≠ group := fun hu => h (by rw [tk_first e, hu])
    cases u <;> first | rfl | exact absurd rfl hu
theorem afterA_group {ws : List RW} {k : Nat} (h : hd ws k = some group) : afterA (tk ws k) = (eat by_ (tk ws (k + 1))).bind fun r => (ans (P columns) r).bind groupedA := by
  rw [tk_hd h]
  show (eat by_ _).bind (ans (P grouped)) = _
  exact bind_congr fun x _ => ans_grouped x
theorem groupedA_having {ws : List RW} {k : Nat} (h : hd ws k = some having) : groupedA (tk ws k) = ans (P cnd) (tk ws (k + 1)) := by
  rw [tk_hd h]; rfl
theorem groupedA_no {ws : List RW} {k : Nat} (h : hd ws k ≠ some having) : groupedA (tk ws k) = some (tk ws k) := by
  cases e : tk ws k with
  | nil => rfl
  | cons u r =>
    have hu : u ≠ having := fun hu => h (by rw [tk_first e, hu])
    cases u <;> first | rfl | exact absurd rfl hu
end Gr
end Go.Proofs.YtfkdfplnhlnnoaaGreatDoor
end
