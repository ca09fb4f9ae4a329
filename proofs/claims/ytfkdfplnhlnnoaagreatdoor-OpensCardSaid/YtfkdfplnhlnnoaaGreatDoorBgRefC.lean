/- The document's answer (package bagsref): lines, pieces. -/
import Derived.Test.YtfkdfplnhlnnoaaGreatDoorBgRefB
import Derived.Test.YtfkdfplnhlnnoaaGreatDoorBgPlain2
namespace Go.Proofs.YtfkdfplnhlnnoaaGreatDoor
open Go.RowKit

def strV (l : Bg.Str) : Value := .string ⟨l.toArray⟩
theorem Tryz.infoStr : (Tryz.prog.info? 9).map (fun i => (i.zero, i.size, i.bytes)) = some (some (.string ⟨#[]⟩), 1, 16) := by kernel_rfl

theorem below_append {n : Nat} {w0 wr w1 : World} {o : Obj} {e : TypeId} {sz m : Nat} {v : Value} {xs : List Value} (hB : Below n w0 wr) (hn : n ≤ wr.heap.size) (hown : wr.ownsRow n e sz v m xs) (hg : (wr.alloc o).grownBy w1 v.ownBlock) : Below n w0 w1 :=
  (hB.alloc hn o).grown hg (by simp; omega) (fun k e => (hown.lt k e).1)

set_option maxHeartbeats 400000 in
set_option maxRecDepth 100000 in
theorem ref_lines (s : Bg.Str) (w : World) (hs : s.length ≤ 90000) :
    Calls Tryz.prog 13 #[.string ⟨s.toArray⟩] w fun e w' => ∃ v, e = .returned v ∧ w'.ownsRow w.heap.size 9 1 v (Bg.lines s).length ((Bg.lines s).map strV) ∧ Below w.heap.size w w' := by
  have hex := Bg.ext_mk
  obtain ⟨i0, hi, hz0, hz1, hz2⟩ := info_parts Tryz.infoStr
  go_enter Tryz.func13, Tryz.ntmps13
  go_wp2
  go_loopw [3, 4, 5] (fun v f i wr => ∃ (k from_ : Nat) (out : List Bg.Str), k ≤ s.length + 1 ∧ from_ ≤ k ∧ out.length ≤ k ∧ i = .int .i64 k ∧ f = .int .i64 from_ ∧ wr.ownsRow w.heap.size 9 1 v out.length (out.map strV) ∧ Below w.heap.size w wr ∧
      Hid (if k ≤ s.length then out ++ Bg.linesFrom ((s.drop from_).take (k - from_)) (s.drop k) = Bg.lines s else out = Bg.lines s))
    (fun _ _ i _ => s.length + 1 - (intOf i).toNat)
  case atStart => exact ⟨0, 0, [], by omega, by omega, by simp, rfl, rfl, World.ownsRow_nil _ _ _ _, Below.refl _ _, by simp [Hid, Bg.lines]⟩
  case round =>
    obtain ⟨k, from_, out, hk, hf, ho, rfl, rfl, hown, hB, hq⟩ := hrel
    by_cases hlt : k < s.length
    · have hsz : k < (ByteArray.mk s.toArray).size := hlt
      have hnl : ((k : Int) == (s.length : Int)) = false := by simp; omega
      go_wp2_with (at_builtin; refine wpList_append_own _ rfl _ _ 40 rfl w.heap.size 9 i0 (.string ⟨#[]⟩) 1 16 Tryz.underlying40 hi hz0 hz1 hz2 rfl (by decide) _ _ _ rfl (hown.alloc _) ⟨wr.heap.size, 0, none⟩ 1 1 [strV ((s.drop from_).take (k - from_))] rfl rfl (cell_one_new _ _ _) (by simp [Value.oneCell', strV]) (by unfold maxLen; omega) (by omega) (by have := hB.size; simp; omega) ?_; intro v' w1 hown' hgrow _)
      · have h1 : (((ByteArray.mk s.toArray)[k].toNat : Int) == 10) = true := by assumption
        have e1 : s[k] = 10 := Bg.beq_t 10 h1 rfl
        have hq2 : out ++ Bg.linesFrom ((s.drop from_).take (k - from_)) (s.drop k) = Bg.lines s := by have := hq.out; rwa [if_pos (by omega)] at this
        refine ⟨⟨k + 1, k + 1, out ++ [(s.drop from_).take (k - from_)], by omega, by omega, by simp; omega, by go_num, by go_num, by simpa using hown', below_append hB hB.size hown hgrow, ?_⟩, by simp [intOf] <;> omega⟩
        show if k + 1 ≤ s.length then _ else _
        rw [if_pos (by omega), ← hq2, Bg.drop_get s k hlt, e1, Bg.linesFrom_nl]
        simp
      · have h1 : (((ByteArray.mk s.toArray)[k].toNat : Int) == 10) = false := by assumption
        have e1 : s[k] ≠ 10 := Bg.beq_f 10 h1 rfl
        have hq2 : out ++ Bg.linesFrom ((s.drop from_).take (k - from_)) (s.drop k) = Bg.lines s := by have := hq.out; rwa [if_pos (by omega)] at this
        refine ⟨⟨k + 1, from_, out, by omega, by omega, by omega, by go_num, rfl, hown, hB, ?_⟩, by simp [intOf] <;> omega⟩
        show if k + 1 ≤ s.length then _ else _
        rw [if_pos (by omega), ← hq2, Bg.drop_get s k hlt, Bg.linesFrom_other _ _ _ e1, Bg.take_snoc s from_ k hf hlt]
    · by_cases hle : k = s.length
      · subst hle
        have hq2 : out ++ Bg.linesFrom ((s.drop from_).take (s.length - from_)) (s.drop s.length) = Bg.lines s := by have := hq.out; rwa [if_pos (by omega)] at this
        have HQ : Hid (out ++ [(s.drop from_).take (s.length - from_)] = Bg.lines s) := by
          show out ++ [(s.drop from_).take (s.length - from_)] = Bg.lines s
          rw [← hq2, List.drop_length]; rfl
        clear hq2 hq
        go_wp2_with (at_builtin; refine wpList_append_own _ rfl _ _ 40 rfl w.heap.size 9 i0 (.string ⟨#[]⟩) 1 16 Tryz.underlying40 hi hz0 hz1 hz2 rfl (by decide) _ _ _ rfl (hown.alloc _) ⟨wr.heap.size, 0, none⟩ 1 1 [strV ((s.drop from_).take (s.length - from_))] rfl rfl (cell_one_new _ _ _) (by simp [Value.oneCell', strV]) (by unfold maxLen; omega) (by omega) (by have := hB.size; simp; omega) ?_; intro v' w1 hown' hgrow _)
        refine ⟨⟨s.length + 1, s.length + 1, out ++ [(s.drop from_).take (s.length - from_)], by omega, by omega, by simp; omega, by go_num, by go_num, by simpa using hown', below_append hB hB.size hown hgrow, ?_⟩, by simp [intOf] <;> omega⟩
        show if s.length + 1 ≤ s.length then _ else _
        rw [if_neg (by omega)]
        exact HQ.out
      · go_wp2
        go_ret
        have hq2 : out = Bg.lines s := by have := hq.out; rwa [if_neg (by omega)] at this
        subst hq2
        exact ⟨_, rfl, hown, hB⟩

/-- what pieces answers -/
def piecesPost (w : World) : Option (List Bg.Str) → Ending → World → Prop
  | none, e, w' => e = .returned (.tuple #[.slice none 0 0, .bool false]) ∧ Below w.heap.size w w'
  | some l, e, w' => ∃ v, e = .returned (.tuple #[v, .bool true]) ∧ w'.ownsRow w.heap.size 9 1 v l.length (l.map strV) ∧ Below w.heap.size w w'

set_option maxHeartbeats 1000000 in
set_option maxRecDepth 100000 in
theorem ref_pieces (s : Bg.Str) (w : World) (hs : s.length ≤ 90000) :
    Calls Tryz.prog 14 #[.string ⟨s.toArray⟩] w fun e w' => piecesPost w (Bg.pieces s) e w' := by
  have hex := Bg.ext_mk
  obtain ⟨i0, hi, hz0, hz1, hz2⟩ := info_parts Tryz.infoStr
  go_enter Tryz.func14, Tryz.ntmps14
  go_wp2
  go_loopw [4, 5, 6, 7, 8, 9] (fun v i _ _ _ _ wr => ∃ (k : Nat) (out : List Bg.Str), k ≤ s.length ∧ out.length ≤ k ∧ i = .int .i64 k ∧ wr.ownsRow w.heap.size 9 1 v out.length (out.map strV) ∧ Below w.heap.size w wr ∧
      Hid ((Bg.pieces (s.drop k)).map (out ++ ·) = Bg.pieces s))
    (fun _ i _ _ _ _ _ => s.length - (intOf i).toNat)
  case atStart => exact ⟨0, [], by omega, by simp, rfl, World.ownsRow_nil _ _ _ _, Below.refl _ _, by simp [Hid]⟩
  case round =>
    obtain ⟨k, out, hk, ho, rfl, hown, hB, hq⟩ := hrel
    by_cases hlt : k < s.length
    · have hsz : k < (ByteArray.mk s.toArray).size := hlt
      have HD : Hid (s.drop k = s[k] :: s.drop (k + 1)) := Bg.drop_get s k hlt
      go_wp2_with fail
      · have h1 : (((ByteArray.mk s.toArray)[k].toNat : Int) == 32) = true := by assumption
        have e1 : s[k] = 32 := Bg.beq_t 32 h1 rfl
        refine ⟨⟨k + 1, out, by omega, by omega, by go_num, hown, hB, ?_⟩, by simp [intOf] <;> omega⟩
        show (Bg.pieces (s.drop (k + 1))).map _ = _
        rw [← hq.out, HD.out, e1, Bg.pieces_blank]
      · have h1 : (((ByteArray.mk s.toArray)[k].toNat : Int) == 32) = false := by assumption
        have h2 : (((ByteArray.mk s.toArray)[k].toNat : Int) == 39) = true := by assumption
        have hc32 : s[k] ≠ 32 := Bg.beq_f 32 h1 rfl
        have e39 : s[k] = 39 := Bg.beq_t 39 h2 rfl
        rw [List.take_of_length_le (by simp)]
        refine (ref_quoted (s.drop k) _ (by simp; omega)).mono ?_
        rintro e w' ⟨rfl, rfl⟩
        obtain ⟨m, hm⟩ : ∃ m, (Bg.quoted (s.drop k)).2 = m := ⟨_, rfl⟩
        have hmle : m ≤ s.length - k := by
          rw [← hm, HD.out]
          have := Bg.quoted_le s[k] (s.drop (k + 1))
          simp at this ⊢; omega
        have HM : Hid (Bg.pieceLen (s.drop k) = m) := by
          show Bg.pieceLen (s.drop k) = m
          rw [← hm, HD.out]; unfold Bg.pieceLen; rw [e39]; simp
        rw [hm]
        clear hm h1 h2 e39
        by_cases hz : m = 0
        · have HR : Hid (Bg.pieces s = none) := by
            show Bg.pieces s = none
            rw [← hq.out, HD.out, Bg.pieces_none _ _ hc32 (by rw [← HD.out, HM.out, hz])]; rfl
          subst hz
          go_wp2
          go_ret2
          rw [HR.out]
          exact ⟨rfl, hB⟩
        · have hz' : ((m : Int) == 0) = false := by simp; omega
          by_cases hend : k + m < s.length
          · have hsz2 : k + m < (ByteArray.mk s.toArray).size := hend
            go_wp2_with (at_builtin; refine wpList_append_own _ rfl _ _ 40 rfl w.heap.size 9 i0 (.string ⟨#[]⟩) 1 16 Tryz.underlying40 hi hz0 hz1 hz2 rfl (by decide) _ _ _ rfl (hown.alloc _) ⟨wr.heap.size, 0, none⟩ 1 1 [strV ((s.drop k).take m)] rfl rfl (cell_one_new _ _ _) (by simp [Value.oneCell', strV]) (by unfold maxLen; omega) (by omega) (by have := hB.size; simp; omega) ?_; intro v' w1 hown' hgrow _)
            · have h1 : (((ByteArray.mk s.toArray)[k + m].toNat : Int) != 32) = true := by assumption
              have n1 : s[k + m] ≠ 32 := Bg.bne_t 32 h1 rfl
              go_ret2
              have hr : Bg.pieces s = none := by
                rw [← hq.out, HD.out, Bg.pieces_bad _ _ hc32 s[k + m] (s.drop (k + m + 1)) (by rw [← HD.out, HM.out, List.drop_drop, Bg.drop_get s (k + m) hend]) n1]; rfl
              rw [hr]
              exact ⟨rfl, hB⟩
            · have h1 : (((ByteArray.mk s.toArray)[k + m].toNat : Int) != 32) = false := by assumption
              have e1 : s[k + m] = 32 := Bg.bne_f 32 h1 rfl
              refine ⟨⟨k + m, out ++ [(s.drop k).take m], by omega, by simp; omega, by go_num, by simpa using hown', below_append hB hB.size hown hgrow, ?_⟩, by simp [intOf] <;> omega⟩
              have hst := Bg.pieces_step s[k] (s.drop (k + 1)) hc32 (by rw [← HD.out, HM.out]; exact hz) (by
                intro d r' hd
                rw [← HD.out, HM.out, List.drop_drop, Bg.drop_get s (k + m) hend] at hd
                exact (List.cons.inj hd).1.symm.trans e1)
              rw [← HD.out, HM.out, List.drop_drop] at hst
              show (Bg.pieces (s.drop (k + m))).map _ = _
              rw [← hq.out, hst, Option.map_map]
              congr 1; funext l; simp
          · go_wp2_with (at_builtin; refine wpList_append_own _ rfl _ _ 40 rfl w.heap.size 9 i0 (.string ⟨#[]⟩) 1 16 Tryz.underlying40 hi hz0 hz1 hz2 rfl (by decide) _ _ _ rfl (hown.alloc _) ⟨wr.heap.size, 0, none⟩ 1 1 [strV ((s.drop k).take m)] rfl rfl (cell_one_new _ _ _) (by simp [Value.oneCell', strV]) (by unfold maxLen; omega) (by omega) (by have := hB.size; simp; omega) ?_; intro v' w1 hown' hgrow _)
            refine ⟨⟨k + m, out ++ [(s.drop k).take m], by omega, by simp; omega, by go_num, by simpa using hown', below_append hB hB.size hown hgrow, ?_⟩, by simp [intOf] <;> omega⟩
            have hst := Bg.pieces_step s[k] (s.drop (k + 1)) hc32 (by rw [← HD.out, HM.out]; exact hz) (by
              intro d r' hd
              rw [← HD.out, HM.out, List.drop_drop, List.drop_eq_nil_of_le (by omega)] at hd
              cases hd)
            rw [← HD.out, HM.out, List.drop_drop] at hst
            show (Bg.pieces (s.drop (k + m))).map _ = _
            rw [← hq.out, hst, Option.map_map]
            congr 1; funext l; simp
      · have h1 : (((ByteArray.mk s.toArray)[k].toNat : Int) == 32) = false := by assumption
        have h2 : (((ByteArray.mk s.toArray)[k].toNat : Int) == 39) = false := by assumption
        have hc32 : s[k] ≠ 32 := Bg.beq_f 32 h1 rfl
        have n39 : s[k] ≠ 39 := Bg.beq_f 39 h2 rfl
        rw [h1, h2]
        go_loop [6] (fun n => ∃ m : Nat, k + m ≤ s.length ∧ n = .int .i64 m ∧ Hid (∀ j, j < m → (h : k + j < s.length) → s[k + j] ≠ 32 ∧ s[k + j] ≠ 39)) (fun n => s.length - (intOf n).toNat)
        case atStart => exact ⟨0, by omega, rfl, by intro j hj; omega⟩
        case round =>
          obtain ⟨m, hm, rfl, hn⟩ := hrel
          have hfin : (∀ (h : k + m < s.length), s[k + m] = 32 ∨ s[k + m] = 39) → Hid (Bg.pieceLen (s.drop k) = m) := by
            intro he
            show Bg.pieceLen (s.drop k) = m
            have hpl : Bg.pieceLen (s.drop k) = ((s.drop k).takeWhile fun c => c ≠ 32 && c ≠ 39).length := by
              rw [HD.out]; unfold Bg.pieceLen; simp only; rw [if_neg n39]
            rw [hpl, Bg.plain_run (s.drop k) m (by simp; omega) (fun j hj => by simp only [List.getElem_drop]; exact hn.out j hj (by omega)) (fun h' => by simp only [List.getElem_drop]; exact he (by simp at h'; omega))]
          have HF : Hid ((∀ (h : k + m < s.length), s[k + m] = 32 ∨ s[k + m] = 39) → Hid (Bg.pieceLen (s.drop k) = m)) := hfin
          clear hfin
          by_cases hin : k + m < s.length
          · have hszm : k + m < (ByteArray.mk s.toArray).size := hin
            by_cases hz : m = 0
            · subst hz
              go_wp2_with fail
              · exact absurd (by assumption : (((ByteArray.mk s.toArray)[k].toNat : Int) = 32)) (by simpa using h1)
              · refine ⟨⟨1, by omega, by simp, ?_⟩, by simp [intOf] <;> omega⟩
                intro j hj hl
                obtain rfl : j = 0 := by omega
                exact ⟨hc32, n39⟩
              · have ho : (((ByteArray.mk s.toArray)[k].toNat : Int) != 32) = false ∨ (((ByteArray.mk s.toArray)[k].toNat : Int) != 39) = false := by assumption
                rcases ho with ho | ho
                · exact absurd (Bg.bne_f 32 ho rfl) hc32
                · exact absurd (Bg.bne_f 39 ho rfl) n39
            · have hz' : ((m : Int) == 0) = false := by simp; omega
              go_wp2_with (at_builtin; refine wpList_append_own _ rfl _ _ 40 rfl w.heap.size 9 i0 (.string ⟨#[]⟩) 1 16 Tryz.underlying40 hi hz0 hz1 hz2 rfl (by decide) _ _ _ rfl (hown.alloc _) ⟨wr.heap.size, 0, none⟩ 1 1 [strV ((s.drop k).take m)] rfl rfl (cell_one_new _ _ _) (by simp [Value.oneCell', strV]) (by unfold maxLen; omega) (by omega) (by have := hB.size; simp; omega) ?_; intro v' w1 hown' hgrow _)
              · have h3 : (((ByteArray.mk s.toArray)[k + m].toNat : Int) = 32) := by assumption
                have e1 : s[k + m] = 32 := Bg.u8_eq (b := 32) h3
                have HM := HF.out (fun _ => .inl e1)
                refine ⟨⟨k + m, out ++ [(s.drop k).take m], by omega, by simp; omega, by go_num, by simpa using hown', below_append hB hB.size hown hgrow, ?_⟩, by simp [intOf] <;> omega⟩
                have hst := Bg.pieces_step s[k] (s.drop (k + 1)) hc32 (by rw [← HD.out, HM.out]; exact hz) (by
                  intro d r' hd
                  rw [← HD.out, HM.out, List.drop_drop, Bg.drop_get s (k + m) hin] at hd
                  exact (List.cons.inj hd).1.symm.trans e1)
                rw [← HD.out, HM.out, List.drop_drop] at hst
                show (Bg.pieces (s.drop (k + m))).map _ = _
                rw [← hq.out, hst, Option.map_map]
                congr 1; funext l; simp
              · have ho : (((ByteArray.mk s.toArray)[k + m].toNat : Int) != 32) = true ∧ (((ByteArray.mk s.toArray)[k + m].toNat : Int) != 39) = true := by assumption
                go_round
                case rel =>
                  have hnew : Hid (∀ j, j < m + 1 → (h : k + j < s.length) → s[k + j] ≠ 32 ∧ s[k + j] ≠ 39) := by
                    intro j hj hl
                    by_cases hjm : j = m
                    · subst hjm; exact ⟨Bg.bne_t 32 ho.1 rfl, Bg.bne_t 39 ho.2 rfl⟩
                    · exact hn.out j (by omega) hl
                  have hm1 : k + (m + 1) ≤ s.length := by omega
                  have hmi : Value.int .i64 ((m : Int) + 1) = .int .i64 ((m + 1 : Nat) : Int) := by go_num
                  exact ⟨m + 1, hm1, hmi, hnew⟩
                case measure => simp [intOf]; omega
              · have ho : (((ByteArray.mk s.toArray)[k + m].toNat : Int) != 32) = false ∨ (((ByteArray.mk s.toArray)[k + m].toNat : Int) != 39) = false := by assumption
                have ho2 : (((ByteArray.mk s.toArray)[k + m].toNat : Int) != 32) = true := by assumption
                have n1 : s[k + m] ≠ 32 := Bg.bne_t 32 ho2 rfl
                have HM := HF.out (fun _ => ho.elim (fun ho => .inl (Bg.bne_f 32 ho rfl)) (fun ho => .inr (Bg.bne_f 39 ho rfl)))
                go_ret2
                have hr : Bg.pieces s = none := by
                  rw [← hq.out, HD.out, Bg.pieces_bad _ _ hc32 s[k + m] (s.drop (k + m + 1)) (by rw [← HD.out, HM.out, List.drop_drop, Bg.drop_get s (k + m) hin]) n1]; rfl
                rw [hr]
                exact ⟨rfl, hB⟩
          · have HM := HF.out (fun h => absurd h hin)
            have hz : m ≠ 0 := by omega
            have hz' : ((m : Int) == 0) = false := by simp; omega
            go_wp2_with (at_builtin; refine wpList_append_own _ rfl _ _ 40 rfl w.heap.size 9 i0 (.string ⟨#[]⟩) 1 16 Tryz.underlying40 hi hz0 hz1 hz2 rfl (by decide) _ _ _ rfl (hown.alloc _) ⟨wr.heap.size, 0, none⟩ 1 1 [strV ((s.drop k).take m)] rfl rfl (cell_one_new _ _ _) (by simp [Value.oneCell', strV]) (by unfold maxLen; omega) (by omega) (by have := hB.size; simp; omega) ?_; intro v' w1 hown' hgrow _)
            refine ⟨⟨k + m, out ++ [(s.drop k).take m], by omega, by simp; omega, by go_num, by simpa using hown', below_append hB hB.size hown hgrow, ?_⟩, by simp [intOf] <;> omega⟩
            have hst := Bg.pieces_step s[k] (s.drop (k + 1)) hc32 (by rw [← HD.out, HM.out]; exact hz) (by
              intro d r' hd
              rw [← HD.out, HM.out, List.drop_drop, List.drop_eq_nil_of_le (by omega)] at hd
              cases hd)
            rw [← HD.out, HM.out, List.drop_drop] at hst
            show (Bg.pieces (s.drop (k + m))).map _ = _
            rw [← hq.out, hst, Option.map_map]
            congr 1; funext l; simp
    · go_wp2
      go_ret2
      have hr : Bg.pieces s = some out := by rw [← hq.out, List.drop_eq_nil_of_le (by omega), Bg.pieces_nil]; simp
      rw [hr]
      exact ⟨_, rfl, hown, hB⟩
end Go.Proofs.YtfkdfplnhlnnoaaGreatDoor
