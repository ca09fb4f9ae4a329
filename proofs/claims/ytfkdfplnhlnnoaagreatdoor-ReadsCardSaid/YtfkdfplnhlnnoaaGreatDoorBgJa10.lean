import Derived.Test.YtfkdfplnhlnnoaaGreatDoorBgCuA
import Derived.Test.YtfkdfplnhlnnoaaGreatDoorBgJa08
section
namespace Go.Proofs.YtfkdfplnhlnnoaaGreatDoor
open Go.RowKit
namespace Gr
set_option linter.unusedSimpArgs false
set_option linter.unusedVariables false
/-- the words of a query in memory -/
def WordsAt (W : World) (wa : Option Addr) (ws : List RW) : Prop := ∀ i (h : i < ws.length), ∃ g, wa = some ⟨g, 0, none⟩ ∧ W.cell? ⟨g, i * 3, none⟩ = some (.string ⟨ws[i].sort.toArray⟩) ∧ W.cell? ⟨g, i * 3 + 1, none⟩ = some (.string ⟨ws[i].text.toArray⟩) ∧ W.cell? ⟨g, i * 3 + 2, none⟩ = some (.int .i64 ws[i].num)
/-- what a word opens -/
def opens (w : RW) : Int := if signB w [40] then 1 else if signB w [41] then -1 else 0
/-- are more brackets open than may be? -/
def deepN (n : Int) : List RW → Bool
  | [] => false
  | w :: r => if 16 < n + opens w then true else deepN (n + opens w) r
def deep (l : List RW) : Bool := deepN 0 l
theorem deepN_cons {n : Int} {w : RW} {r : List RW} : deepN n (w :: r) = if 16 < n + opens w then true else deepN (n + opens w) r := by rw [deepN]
set_option maxRecDepth 10000 in
set_option maxHeartbeats 1000000 in
theorem ref_Deep (ws : List RW) (wa : Option Addr) (cap : Nat) (W : World) (hw : WordsAt W wa ws) (hlen : ws.length ≤ 400) :
    Calls Tryz.prog 21 #[.slice wa ws.length cap] W fun e w' => e = .returned (.bool (deep ws)) ∧ W = w' := by
  go_enter Tryz.func21, Tryz.ntmps21
  go_wp2
  go_loopg [3, 4] (ws.length + 1) (fun gk nv iv wr => ∃ (k : Nat) (n : Int), k ≤ ws.length ∧ gk = ws.length - k + 1 ∧ iv = .int .i64 k ∧ nv = .int .i64 n ∧ -(k : Int) ≤ n ∧ n ≤ 16 ∧ W = wr ∧ Hid (deepN n (ws.drop k) = deep ws))
  case atStart => exact ⟨0, 0, by omega, by omega, rfl, rfl, by omega, by omega, rfl, rfl⟩
  case round =>
    obtain ⟨k, n, hk, rfl, rfl, rfl, hn1, hn2, rfl, hq⟩ := hrel
    by_cases hlt : k < ws.length
    · obtain ⟨g, rfl, q1, q2, q3⟩ := hw k hlt
      clear hw
      have HD : Hid (∀ o, opens ws[k] = o → (16 < n + o → deep ws = true) ∧ (¬ 16 < n + o → deepN (n + o) (ws.drop (k + 1)) = deep ws)) := fun o ho => by
        have e := hq.out
        rw [List.drop_eq_getElem_cons hlt, deepN_cons, ho] at e
        exact ⟨fun h => by rw [if_pos h] at e; exact e.symm, fun h => by rw [if_neg h] at e; exact e⟩
      clear hq
      by_cases hs : ws[k].sort = [115, 105, 103, 110]
      · by_cases h1 : ws[k].text = [40]
        · have HF := HD.out 1 (by unfold opens signB kSign; rw [hs, h1]; rfl)
          have HF' : Hid ((16 < n + 1 → deep ws = true) ∧ (¬ 16 < n + 1 → deepN (n + 1) (ws.drop (k + 1)) = deep ws)) := HF
          rw [hs] at q1
          rw [h1] at q2
          clear hs h1 HD HF
          by_cases ho : 16 < n + 1
          · go_wp2_with fail
            go_ret
            exact ⟨ret_bool (HF'.out.1 ho).symm, rfl⟩
          · go_wp2_with fail
            go_roundg (ws.length - (k + 1) + 1)
            case measure => omega
            case rel => exact ⟨k + 1, n + 1, by omega, rfl, by exact vint (by omega), rfl, by omega, by omega, rfl, HF'.out.2 ho⟩
        · by_cases h2 : ws[k].text = [41]
          · have HF := HD.out (-1) (by unfold opens signB kSign; rw [hs, h2]; rfl)
            have HF' : Hid ((16 < n + -1 → deep ws = true) ∧ (¬ 16 < n + -1 → deepN (n + -1) (ws.drop (k + 1)) = deep ws)) := HF
            rw [hs] at q1
            rw [h2] at q2
            clear hs h1 h2 HD HF
            go_wp2_with fail
            go_roundg (ws.length - (k + 1) + 1)
            case measure => omega
            case rel => exact ⟨k + 1, n - 1, by omega, rfl, by exact vint (by omega), rfl, by omega, by omega, rfl, by exact HF'.out.2 (by omega)⟩
          · have HF := HD.out 0 (by unfold opens signB kSign; rw [hs]; simp [h1, h2])
            have HF' : Hid ((16 < n + 0 → deep ws = true) ∧ (¬ 16 < n + 0 → deepN (n + 0) (ws.drop (k + 1)) = deep ws)) := HF
            rw [hs] at q1
            have h1' : (ws[k].text == [40]) = false := by simpa using h1
            have h2' : (ws[k].text == [41]) = false := by simpa using h2
            clear hs HD HF h1 h2
            go_wp2_with fail
            go_roundg (ws.length - (k + 1) + 1)
            case measure => omega
            case rel => exact ⟨k + 1, n, by omega, rfl, by exact vint (by omega), rfl, by omega, by omega, rfl, by have := HF'.out.2 (by omega); rw [Int.add_zero] at this; exact this⟩
      · have HF := HD.out 0 (by unfold opens signB kSign; simp [hs])
        have HF' : Hid ((16 < n + 0 → deep ws = true) ∧ (¬ 16 < n + 0 → deepN (n + 0) (ws.drop (k + 1)) = deep ws)) := HF
        have hs' : (ws[k].sort == [115, 105, 103, 110]) = false := by simpa using hs
        clear hs HD HF
        go_wp2_with fail
        go_roundg (ws.length - (k + 1) + 1)
        case measure => omega
        case rel => exact ⟨k + 1, n, by omega, rfl, by exact vint (by omega), rfl, by omega, by omega, rfl, by have := HF'.out.2 (by omega); rw [Int.add_zero] at this; exact this⟩
    · go_wp2
      go_ret
      refine ⟨ret_bool ?_, rfl⟩
      rw [← hq.out, List.drop_eq_nil_of_le (by omega)]; rfl
end Gr
end Go.Proofs.YtfkdfplnhlnnoaaGreatDoor
end
section
namespace Go.Proofs.YtfkdfplnhlnnoaaGreatDoor
open Go.RowKit
namespace Gr
set_option linter.unusedSimpArgs false
set_option linter.unusedVariables false
theorem own_below {w w' : World} {B e size n : Nat} {v : Value} {xs : List Value} (h : w.ownsRow B e size v n xs) (hb : Below w.heap.size w w') : w'.ownsRow B e size v n xs := by
  refine ⟨h.1, ?_⟩
  rcases h.2 with h0 | ⟨g, cap, cur, rfl, hg, hh, r⟩
  · exact .inl h0
  · have hlt : g < w.heap.size := (Array.getElem?_eq_some_iff.1 hh).1
    exact .inr ⟨g, cap, cur, rfl, hg, (hb.block g hlt).trans hh, r⟩
theorem cells3 {w : World} {T : Nat} {cv pv rv : Value} {ty : TypeId} (h : w.heap[T]? = some (.cells #[cv, pv, rv] ty (0, 0))) :
    w.cell? ⟨T, 0, none⟩ = some cv ∧ w.cell? ⟨T, 1, none⟩ = some pv ∧ w.cell? ⟨T, 2, none⟩ = some rv ∧ (∀ k, w.frozen? ⟨T, k, none⟩ = false) :=
  ⟨by simp [World.cell?, h], by simp [World.cell?, h], by simp [World.cell?, h], fun k => by simp [World.frozen?, h]⟩
theorem setCell_heap {w : World} {b k : Nat} {u : Value} {cur : Array Value} {e : TypeId} {fr : Nat × Nat} (h : w.heap[b]? = some (.cells cur e fr)) : (w.setCell ⟨b, k, none⟩ u).heap[b]? = some (.cells (cur.setIfInBounds k u) e fr) := by
  simp [World.setCell, Array.getElem?_modify, h]
theorem cell_three (w : World) (a b c : Value) (ty : TypeId) : ∀ j u, [a, b, c][j]? = some u → (w.alloc (.cells #[a, b, c] ty)).cell? ((⟨w.heap.size, 0, none⟩ : Addr).add j) = some u := by
  intro j u h
  obtain ⟨q0, q1, q2, _⟩ := cells3 (heap_alloc_new w (.cells #[a, b, c] ty))
  rw [Addr.add_lit]
  rcases j with _ | _ | _ | j
  · cases h; exact q0
  · cases h; exact q1
  · cases h; exact q2
  · simp at h
theorem cell_three2 (w : World) (o : Obj) (a b c : Value) (ty : TypeId) : ∀ j u, [a, b, c][j]? = some u → ((w.alloc o).alloc (.cells #[a, b, c] ty)).cell? ((⟨w.heap.size + 1, 0, none⟩ : Addr).add j) = some u := by
  have h := cell_three (w.alloc o) a b c ty
  have e : (w.alloc o).heap.size = w.heap.size + 1 := by simp
  rw [e] at h
  exact h
theorem Tryz.infoWord : (Tryz.prog.info? 94).map (fun i => (i.zero, i.size, i.bytes)) = some (some (.agg #[.string ⟨#[]⟩, .string ⟨#[]⟩, .int .i64 0]), 3, 40) := by kernel_rfl
/-- the words' cells -/
def wcell (w : RW) : List Value := [.string ⟨w.sort.toArray⟩, .string ⟨w.text.toArray⟩, .int .i64 w.num]
def wcells (l : List RW) : List Value := l.flatMap wcell
def wordsPost (w : World) : Except Nat (List RW) → Ending → World → Prop
  | .error k, e, w' => e = .returned (.tuple #[.slice none 0 0, .int .i64 k]) ∧ Below w.heap.size w w'
  | .ok l, e, w' => ∃ v, e = .returned (.tuple #[v, .int .i64 (-1)]) ∧ w'.ownsRow w.heap.size 94 3 v l.length (wcells l) ∧ Below w.heap.size w w'
theorem byte_t {s : Bg.Str} {k : Nat} (hk : k < s.length) (hsz : k < (ByteArray.mk s.toArray).size) {b : UInt8} (h : s[k] = b) : ((((ByteArray.mk s.toArray)[k]'hsz).toNat : Int) == (b.toNat : Int)) = true := by
  rw [beq_iff_eq, ← h]; rfl
theorem byte_f {s : Bg.Str} {k : Nat} (hk : k < s.length) (hsz : k < (ByteArray.mk s.toArray).size) {b : UInt8} (h : s[k] ≠ b) : ((((ByteArray.mk s.toArray)[k]'hsz).toNat : Int) == (b.toNat : Int)) = false := by
  rw [beq_eq_false_iff_ne]; intro e; exact h (Bg.u8_eq e)
theorem map_id' {l : Except Nat (List RW)} : l.map (fun x => [] ++ x) = l := by cases l <;> rfl
theorem map_map' {l : Except Nat (List RW)} {a : List RW} {w : RW} : (l.map fun x => w :: x).map (fun x => a ++ x) = l.map fun x => (a ++ [w]) ++ x := by
  cases l
  · rfl
  · show Except.ok _ = Except.ok _; simp
set_option maxRecDepth 10000 in
set_option maxHeartbeats 1000000 in
theorem ref_Words (s : Bg.Str) (w : World) (hs : s.length ≤ 90000) :
    Calls Tryz.prog 19 #[.string ⟨s.toArray⟩] w (wordsPost w (rWords s)) := by
  have hex := Bg.ext_mk
  obtain ⟨i0, hi0, hz0, hz1, hz2⟩ := info_parts Tryz.infoWord
  by_cases hl : 400 < s.length
  · have HR : Hid (rWords s = .error 400) := by show _ = _; unfold rWords; rw [if_pos hl]
    generalize rWords s = R at HR ⊢
    go_enter Tryz.func19, Tryz.ntmps19
    go_wp2_with fail
    go_ret2
    rw [HR.out]
    exact ⟨rfl, Below.refl _ _⟩
  · have HR : Hid ((rWordsN s (s.length + 1) 0).map (fun x => [] ++ x) = rWords s) := by show _ = _; unfold rWords; rw [if_neg hl, map_id']
    generalize rWords s = R at HR ⊢
    go_enter Tryz.func19, Tryz.ntmps19
    go_wp2_with fail
    go_loopg [4, 5] (s.length + 1) (fun gk ov iv wr => ∃ (k : Nat) (out : List RW), k ≤ s.length ∧ out.length ≤ k ∧ gk = s.length - k + 1 ∧ iv = .int .i64 k ∧ wr.ownsRow w.heap.size 94 3 ov out.length (wcells out) ∧ Below w.heap.size w wr ∧ Hid ((rWordsN s (s.length + 1) k).map (fun x => out ++ x) = R))
    case atStart => exact ⟨0, [], by omega, by simp, by omega, rfl, World.ownsRow_nil _ _ _ _, Below.refl _ _, HR⟩
    case round =>
      obtain ⟨k, out, hk, ho, rfl, rfl, hown, hB, hq⟩ := hrel
      by_cases hlt : k < s.length
      · have hsz : k < (ByteArray.mk s.toArray).size := hlt
        have HC := (show Hid _ from rw_cons hlt)
        have HB : Hid (blank s[k] = true → (rWordsN s (s.length + 1) (k + 1)).map (fun x => out ++ x) = R) := fun hb => by
          rw [← hq.out, HC.out, if_pos hb]
        by_cases h32 : s[k] = 32
        · have f0 : ((((ByteArray.mk s.toArray)[k]'hsz).toNat : Int) == 32) = true := byte_t (b := 32) hlt hsz h32
          go_wp2_with fail
          go_roundg (s.length - (k + 1) + 1)
          case measure => omega
          case rel => exact ⟨k + 1, out, by omega, by omega, rfl, by exact vint (by omega), hown, hB, HB.out (by rw [h32]; rfl)⟩
        · by_cases h9 : s[k] = 9
          · have f0 : ((((ByteArray.mk s.toArray)[k]'hsz).toNat : Int) == 32) = false := byte_f (b := 32) hlt hsz h32
            have f2 : ((((ByteArray.mk s.toArray)[k]'hsz).toNat : Int) == 9) = true := byte_t (b := 9) hlt hsz h9
            go_wp2_with fail
            go_roundg (s.length - (k + 1) + 1)
            case measure => omega
            case rel => exact ⟨k + 1, out, by omega, by omega, rfl, by exact vint (by omega), hown, hB, HB.out (by rw [h9]; rfl)⟩
          · by_cases h10 : s[k] = 10
            · have f0 : ((((ByteArray.mk s.toArray)[k]'hsz).toNat : Int) == 32) = false := byte_f (b := 32) hlt hsz h32
              have f2 : ((((ByteArray.mk s.toArray)[k]'hsz).toNat : Int) == 9) = false := byte_f (b := 9) hlt hsz h9
              have f3 : ((((ByteArray.mk s.toArray)[k]'hsz).toNat : Int) == 10) = true := byte_t (b := 10) hlt hsz h10
              go_wp2_with fail
              go_roundg (s.length - (k + 1) + 1)
              case measure => omega
              case rel => exact ⟨k + 1, out, by omega, by omega, rfl, by exact vint (by omega), hown, hB, HB.out (by rw [h10]; rfl)⟩
            · have f0 : ((((ByteArray.mk s.toArray)[k]'hsz).toNat : Int) == 32) = false := byte_f (b := 32) hlt hsz h32
              have f2 : ((((ByteArray.mk s.toArray)[k]'hsz).toNat : Int) == 9) = false := byte_f (b := 9) hlt hsz h9
              have f3 : ((((ByteArray.mk s.toArray)[k]'hsz).toNat : Int) == 10) = false := byte_f (b := 10) hlt hsz h10
              have hbl : ¬ blank s[k] = true := by unfold blank; simp [h32, h9, h10]
              by_cases hc : (s.drop k).take 2 = [45, 45]
              · have hl2 : k + 1 < s.length := by
                  have := congrArg List.length hc
                  rw [List.length_take, List.length_drop] at this
                  simp only [List.length_cons, List.length_nil] at this
                  omega
                have hc' : ((s.drop k).take 2 == [45, 45]) = true := by simpa using hc
                have HL : Hid (∀ q, k + lineLen (s.drop k) = q → (rWordsN s (s.length + 1) q).map (fun x => out ++ x) = R) := fun q e => by
                  rw [← hq.out, HC.out, if_neg hbl, if_pos hc, e]
                have H10 : Hid (s[k] ≠ 10) := h10
                clear HB HC h32 h9 h10 hbl hc
                go_wp2_with fail
                go_loopg [5] (s.length - k + 1) (fun gk iv wi => ∃ q : Nat, k ≤ q ∧ q ≤ s.length ∧ gk = s.length - q + 1 ∧ iv = .int .i64 q ∧ wr = wi ∧ Hid (∀ z, k ≤ z → z < q → ∀ (hz : z < s.length), s[z] ≠ 10))
                case atStart => exact ⟨k, by omega, by omega, by omega, rfl, rfl, fun z h1 h2 => by omega⟩
                case round =>
                  obtain ⟨q, hkq, hqs, rfl, rfl, rfl, hno⟩ := hrel
                  by_cases hql : q < s.length
                  · have hsq : q < (ByteArray.mk s.toArray).size := hql
                    by_cases hq10 : s[q] = 10
                    · have g3 : ((((ByteArray.mk s.toArray)[q]'hsq).toNat : Int) == 10) = true := byte_t (b := 10) hql hsq hq10
                      have g4 : ((((ByteArray.mk s.toArray)[q]'hsq).toNat : Int) != 10) = false := by rw [bne, g3]; rfl
                      have HLL : Hid (k + lineLen (s.drop k) = q) := by
                        show _ = _
                        rw [lineLen_at (j := q) (by omega) (fun _ => hq10) (q - k) k (by omega) (fun z h1 h2 hz => hno.out z h1 h2 hz)]; omega
                      have hkq' : k < q := by
                        by_cases e : k = q
                        · subst e; exact absurd hq10 H10.out
                        · omega
                      go_wp2_with fail
                      go_roundg (s.length - q + 1)
                      case measure => omega
                      case rel => exact ⟨q, out, by omega, by omega, rfl, rfl, hown, hB, HL.out q HLL.out⟩
                    · have g3 : ((((ByteArray.mk s.toArray)[q]'hsq).toNat : Int) == 10) = false := byte_f (b := 10) hql hsq hq10
                      have g4 : ((((ByteArray.mk s.toArray)[q]'hsq).toNat : Int) != 10) = true := by rw [bne, g3]; rfl
                      have HNO : Hid (∀ z, k ≤ z → z < q + 1 → ∀ (hz : z < s.length), s[z] ≠ 10) := fun z h1 h2 hz => by
                        by_cases e : z = q
                        · subst e; exact hq10
                        · exact hno.out z h1 (by omega) hz
                      go_wp2_with fail
                      go_roundg (s.length - (q + 1) + 1)
                      case measure => omega
                      case rel => exact ⟨q + 1, by omega, by omega, rfl, by exact vint (by omega), rfl, HNO⟩
                  · have HLL : Hid (k + lineLen (s.drop k) = q) := by
                      show _ = _
                      rw [lineLen_at (j := q) (by omega) (fun h => absurd h hql) (q - k) k (by omega) (fun z h1 h2 hz => hno.out z h1 h2 hz)]; omega
                    go_wp2_with fail
                    go_roundg (s.length - q + 1)
                    case measure => omega
                    case rel => exact ⟨q, out, by omega, by omega, rfl, rfl, hown, hB, HL.out q HLL.out⟩
              · have hc' : ((s.drop k).take 2 == [45, 45]) = false := by simpa using hc
                have HD : Hid (s.drop k = s[k] :: s.drop (k + 1)) := Bg.drop_get s k hlt
                have HW : Hid ((rWord (s.drop k)).2 = 0 → R = .error k) := fun e => by
                  rw [← hq.out, HC.out, if_neg hbl, if_neg hc, if_pos e]; rfl
                have HX : Hid ((rWord (s.drop k)).2 ≠ 0 → (rWordsN s (s.length + 1) (k + (rWord (s.drop k)).2)).map (fun x => (out ++ [(rWord (s.drop k)).1]) ++ x) = R) := fun e => by
                  rw [← hq.out, HC.out, if_neg hbl, if_neg hc, if_neg e, map_map']
                have HT : Hid (List.take (List.length s - k) (List.drop k s) = s[k] :: s.drop (k + 1)) := by
                  show _ = _
                  rw [← HD.out, List.take_of_length_le (by rw [List.length_drop]; omega)]
                have hwle := rWord_le s[k] (s.drop (k + 1))
                have hlr : (s[k] :: s.drop (k + 1)).length ≤ 400 := by rw [List.length_cons, List.length_drop]; omega
                have hcw := fun w => ref_word s[k] (s.drop (k + 1)) w hlr
                rw [← HD.out] at hcw hwle
                rw [List.length_drop] at hwle
                have HT' : Hid (List.take (List.length s - k) (List.drop k s) = s.drop k) := by show _ = _; rw [HT.out, HD.out]
                generalize rWord (s.drop k) = rw0 at HW HX hcw hwle
                obtain ⟨⟨so, te, nu⟩, n⟩ := rw0
                simp only [wordV] at hcw HW HX hwle
                clear HB HC h32 h9 h10 hbl hc
                by_cases hk1 : k + 1 < s.length
                · go_wp2_with fail
                  rw [HT'.out]
                  refine (hcw _).mono ?_
                  rintro e w1 ⟨rfl, hB1⟩
                  by_cases hn0 : n = 0
                  · have HE : Hid (R = .error k) := HW.out hn0
                    subst hn0
                    clear HW HX hq HR
                    go_wp2_with fail
                    go_ret2
                    rw [HE.out]
                    exact ⟨rfl, (hB.trans (hB1.mono hB.size)).alloc (Nat.le_trans hB.size hB1.size) _⟩
                  · have HXX : Hid ((rWordsN s (s.length + 1) (k + n)).map (fun x => (out ++ [⟨so, te, nu⟩]) ++ x) = R) := HX.out hn0
                    have hn0' : ((n : Int) == 0) = false := by simpa using hn0
                    have hown1 := own_below hown hB1
                    have hBw := (hB.trans (hB1.mono hB.size)).alloc (Nat.le_trans hB.size hB1.size) (.cells #[.string ⟨so.toArray⟩, .string ⟨te.toArray⟩, .int .i64 nu] 94)
                    have hsw := hBw.size
                    clear HW HX hq HR
                    go_wp2_with (at_builtin; go_must (refine wpList_append_own _ rfl _ _ 57 rfl w.heap.size 94 i0 (.agg #[.string ⟨#[]⟩, .string ⟨#[]⟩, .int .i64 0]) 3 40 Tryz.underlying57 hi0 hz0 hz1 hz2 rfl (by decide) _ _ _ rfl ((hown1.alloc _).alloc _) ⟨w1.heap.size + 1, 0, none⟩ 1 1 [.string ⟨so.toArray⟩, .string ⟨te.toArray⟩, .int .i64 nu] rfl rfl (cell_three2 _ _ _ _ _ _) (by simp [Value.oneCell']) (by unfold maxLen; omega) (by omega) (by simp at hsw ⊢; omega) ?_); intro v' w5 hown' hgrow _)
                    go_roundg (s.length - (k + n) + 1)
                    case measure => omega
                    case rel =>
                      refine ⟨k + n, out ++ [⟨so, te, nu⟩], by omega, by simp; omega, rfl, by exact vint (by omega), ?_, below_append hBw hBw.size (hown1.alloc _) hgrow, HXX⟩
                      rw [show wcells (out ++ [⟨so, te, nu⟩]) = wcells out ++ [.string ⟨so.toArray⟩, .string ⟨te.toArray⟩, .int .i64 nu] from by simp [wcells, wcell], List.length_append]
                      exact hown'
                · go_wp2_with fail
                  rw [HT'.out]
                  refine (hcw _).mono ?_
                  rintro e w1 ⟨rfl, hB1⟩
                  by_cases hn0 : n = 0
                  · have HE : Hid (R = .error k) := HW.out hn0
                    subst hn0
                    clear HW HX hq HR
                    go_wp2_with fail
                    go_ret2
                    rw [HE.out]
                    exact ⟨rfl, (hB.trans (hB1.mono hB.size)).alloc (Nat.le_trans hB.size hB1.size) _⟩
                  · have HXX : Hid ((rWordsN s (s.length + 1) (k + n)).map (fun x => (out ++ [⟨so, te, nu⟩]) ++ x) = R) := HX.out hn0
                    have hn0' : ((n : Int) == 0) = false := by simpa using hn0
                    have hown1 := own_below hown hB1
                    have hBw := (hB.trans (hB1.mono hB.size)).alloc (Nat.le_trans hB.size hB1.size) (.cells #[.string ⟨so.toArray⟩, .string ⟨te.toArray⟩, .int .i64 nu] 94)
                    have hsw := hBw.size
                    clear HW HX hq HR
                    go_wp2_with (at_builtin; go_must (refine wpList_append_own _ rfl _ _ 57 rfl w.heap.size 94 i0 (.agg #[.string ⟨#[]⟩, .string ⟨#[]⟩, .int .i64 0]) 3 40 Tryz.underlying57 hi0 hz0 hz1 hz2 rfl (by decide) _ _ _ rfl ((hown1.alloc _).alloc _) ⟨w1.heap.size + 1, 0, none⟩ 1 1 [.string ⟨so.toArray⟩, .string ⟨te.toArray⟩, .int .i64 nu] rfl rfl (cell_three2 _ _ _ _ _ _) (by simp [Value.oneCell']) (by unfold maxLen; omega) (by omega) (by simp at hsw ⊢; omega) ?_); intro v' w5 hown' hgrow _)
                    go_roundg (s.length - (k + n) + 1)
                    case measure => omega
                    case rel =>
                      refine ⟨k + n, out ++ [⟨so, te, nu⟩], by omega, by simp; omega, rfl, by exact vint (by omega), ?_, below_append hBw hBw.size (hown1.alloc _) hgrow, HXX⟩
                      rw [show wcells (out ++ [⟨so, te, nu⟩]) = wcells out ++ [.string ⟨so.toArray⟩, .string ⟨te.toArray⟩, .int .i64 nu] from by simp [wcells, wcell], List.length_append]
                      exact hown'
      · have hR : R = .ok out := by rw [← hq.out, rw_end (by omega)]; show Except.ok _ = _; simp
        go_wp2_with fail
        go_ret2
        rw [hR]
        exact ⟨_, rfl, hown, hB⟩
end Gr
end Go.Proofs.YtfkdfplnhlnnoaaGreatDoor
end
