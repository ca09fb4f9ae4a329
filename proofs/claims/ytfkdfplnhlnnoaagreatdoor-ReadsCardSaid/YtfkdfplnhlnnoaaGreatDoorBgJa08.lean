import Derived.Test.YtfkdfplnhlnnoaaGreatDoorBgJa07
section
namespace Go.Proofs.YtfkdfplnhlnnoaaGreatDoor
open Go.RowKit
namespace Gr
set_option linter.unusedSimpArgs false
set_option linter.unusedVariables false
theorem dig_pos (c : UInt8) (r : Bg.Str) : Bg.dig c = decide (0 < Bg.runs Bg.digits (c :: r)) := by
  rw [Bg.runs_cons]; unfold Bg.dig
  cases h : Bg.digits.contains c <;> simp
theorem nam_pos (c : UInt8) (r : Bg.Str) : Bg.nam c = decide (0 < Bg.runs (Bg.letters ++ Bg.digits) (c :: r)) := by
  rw [Bg.runs_cons]; unfold Bg.nam
  cases h : (Bg.letters ++ Bg.digits).contains c <;> simp
/-- what the reader of words needs of the world -/
structure WEnv (w : World) : Prop where
  num : NumVars w
  sg : Signs w
  big : 13 ≤ w.heap.size
theorem Signs.below {w w' : World} (h : Signs w) (hB : Below w.heap.size w w') : Signs w' := fun k hk =>
  (hB.cell (p := ⟨3, k, none⟩) (World.block_lt_of_cell? _ _ (h k hk))).trans (h k hk)
theorem WEnv.below {w w' : World} (h : WEnv w) (hB : Below w.heap.size w w') : WEnv w' := ⟨h.num.below hB h.big, Signs.below h.sg hB, Nat.le_trans h.big hB.size⟩
theorem rWord_txt {r : Bg.Str} : rWord (39 :: r) = (⟨kText, (Bg.quoted (39 :: r)).1, 0⟩, (Bg.quoted (39 :: r)).2) := by
  have e1 : ¬ 0 < Bg.runs Bg.digits (39 :: r) := by rw [Bg.runs_cons, if_neg (by decide)]; omega
  have e2 : ¬ 0 < Bg.runs (Bg.letters ++ Bg.digits) (39 :: r) := by rw [Bg.runs_cons, if_neg (by decide)]; omega
  unfold rWord dLen nLen; rw [if_neg e1, if_neg e2, if_pos (by simp)]
set_option maxRecDepth 10000 in
set_option maxHeartbeats 2000000 in
theorem w_first (c : UInt8) (r : Bg.Str) (Kb nk : Nat) (w : World) (hs : (c :: r).length ≤ 400) (hE : WEnv w) (hK : keyset1 w Kb nk kwsAll) :
    Calls Tryz.prog 74 #[.string ⟨(c :: r).toArray⟩, .map (some Kb)] w fun e w' => Below w.heap.size w w' ∧ ∃ v n, e = .returned (.tuple #[v, .int .i64 n]) ∧ FirstOk (c :: r) v n := by
  have hw0 : Below w.heap.size w (w.alloc (.cells #[.int .i64 0, .string ⟨#[]⟩, .nilIface] 139)) := wsum _
  have hE0 := hE.below hw0
  have hK0 := keyset1.below hK hw0
  have fin : ∀ (w1 : World), Below (w.alloc (.cells #[.int .i64 0, .string ⟨#[]⟩, .nilIface] 139)).heap.size (w.alloc (.cells #[.int .i64 0, .string ⟨#[]⟩, .nilIface] 139)) w1 → Below w.heap.size w w1 ∧ w1.heap[w.heap.size]? = some (.cells #[.int .i64 0, .string ⟨#[]⟩, .nilIface] 139 (0, 0)) := fun w1 hB1 =>
    ⟨hw0.trans (hB1.mono hw0.size), (hB1.block w.heap.size (by simp)).trans (heap_alloc_new w _)⟩
  go_enter Tryz.func74, Tryz.ntmps74
  go_wp2_with fail
  refine (w_isDigit ((ByteArray.mk (c :: r).toArray)[0]'(Nat.succ_pos _)) _).mono ?_
  rintro e w' ⟨rfl, rfl⟩
  have hd := dig_pos c r
  have hn := nam_pos c r
  cases hdg : Bg.dig ((ByteArray.mk (c :: r).toArray)[0]'(Nat.succ_pos _)) with
  | true =>
    have hd1 : 0 < Bg.runs Bg.digits (c :: r) := by
      have : Bg.dig c = true := hdg
      rw [this] at hd; exact of_decide_eq_true hd.symm
    clear hd hn hdg
    go_wp2_with fail
    refine (w_number (c :: r) _ hs hd1 hE0.num hE0.big).mono ?_
    rintro e w1 ⟨hB1, v, n, rfl, HF⟩
    obtain ⟨hB, hh⟩ := fin w1 hB1
    obtain ⟨r0, r1, r2, rf⟩ := cells3 hh
    obtain ⟨h1, ⟨a, b, x, hva, hx⟩, h3⟩ := HF
    have HF' : Hid (FirstOk (c :: r) v n) := ⟨h1, ⟨a, b, x, hva, hx⟩, h3⟩
    subst hva
    have rf0 := rf 0
    have rf1 := rf 1
    have rf2 := rf 2
    clear h1 h3 fin hh
    rcases hx with rfl | ⟨t, y, rfl⟩ <;>
     (go_wp2_with fail
      refine bodyPost_ret (v := .tuple #[_, .int .i64 n]) (by simp [results, Tryz.results74, go_sem, r0, r1, r2]; first | done | rfl) rfl ⟨?_, _, _, rfl, HF'.out⟩
      exact ((hB.setCell (p := ⟨w.heap.size, 0, none⟩) (Nat.le_refl _) _).setCell (p := ⟨w.heap.size, 1, none⟩) (Nat.le_refl _) _).setCell (p := ⟨w.heap.size, 2, none⟩) (Nat.le_refl _) _)
  | false =>
    have hd1 : ¬ 0 < Bg.runs Bg.digits (c :: r) := by
      have : Bg.dig c = false := hdg
      rw [this] at hd; exact of_decide_eq_false hd.symm
    clear hd hdg
    go_wp2_with fail
    refine (w_isNamed ((ByteArray.mk (c :: r).toArray)[0]'(Nat.succ_pos _)) _).mono ?_
    rintro e w' ⟨rfl, rfl⟩
    cases hng : Bg.nam ((ByteArray.mk (c :: r).toArray)[0]'(Nat.succ_pos _)) with
    | true =>
      have hn1 : 0 < Bg.runs (Bg.letters ++ Bg.digits) (c :: r) := by
        have : Bg.nam c = true := hng
        rw [this] at hn; exact of_decide_eq_true hn.symm
      clear hn hng
      go_wp2_with fail
      refine (w_name (c :: r) Kb nk _ hs hd1 hn1 hK0).mono ?_
      rintro e w1 ⟨hB1, v, n, rfl, HF⟩
      obtain ⟨hB, hh⟩ := fin w1 hB1
      obtain ⟨r0, r1, r2, rf⟩ := cells3 hh
      obtain ⟨h1, ⟨a, b, x, hva, hx⟩, h3⟩ := HF
      have HF' : Hid (FirstOk (c :: r) v n) := ⟨h1, ⟨a, b, x, hva, hx⟩, h3⟩
      subst hva
      have rf0 := rf 0
      have rf1 := rf 1
      have rf2 := rf 2
      clear h1 h3 fin hh
      rcases hx with rfl | ⟨t, y, rfl⟩ <;>
       (go_wp2_with fail
        refine bodyPost_ret (v := .tuple #[_, .int .i64 n]) (by simp [results, Tryz.results74, go_sem, r0, r1, r2]; first | done | rfl) rfl ⟨?_, _, _, rfl, HF'.out⟩
        exact ((hB.setCell (p := ⟨w.heap.size, 0, none⟩) (Nat.le_refl _) _).setCell (p := ⟨w.heap.size, 1, none⟩) (Nat.le_refl _) _).setCell (p := ⟨w.heap.size, 2, none⟩) (Nat.le_refl _) _)
    | false =>
      have hn1 : ¬ 0 < Bg.runs (Bg.letters ++ Bg.digits) (c :: r) := by
        have : Bg.nam c = false := hng
        rw [this] at hn; exact of_decide_eq_false hn.symm
      clear hn hng
      by_cases hq : c = 39
      · subst hq
        have HR := (show Hid _ from rWord_txt (r := r))
        go_wp2_with fail
        refine (w_Quoted (39 :: r) _ (by omega)).mono ?_
        rintro e w1 ⟨rfl, hB1⟩
        obtain ⟨hB, hh⟩ := fin w1 hB1
        obtain ⟨r0, r1, r2, rf⟩ := cells3 hh
        have rf0 := rf 0
        have rf1 := rf 1
        have rf2 := rf 2
        clear fin hh
        go_wp2_with fail
        refine bodyPost_ret (v := .tuple #[.agg #[.int .i64 3, .string ⟨#[]⟩, .iface 202 (.string ⟨(Bg.quoted (39 :: r)).1.toArray⟩)], .int .i64 (Bg.quoted (39 :: r)).2]) (by simp [results, Tryz.results74, go_sem, r0, r1, r2]) rfl ⟨?_, _, _, rfl, ?_⟩
        · exact ((hB.setCell (p := ⟨w.heap.size, 0, none⟩) (Nat.le_refl _) _).setCell (p := ⟨w.heap.size, 1, none⟩) (Nat.le_refl _) _).setCell (p := ⟨w.heap.size, 2, none⟩) (Nat.le_refl _) _
        · exact ⟨by rw [HR.out], ⟨3, [], _, rfl, .inr ⟨_, _, rfl⟩⟩, fun _ => by rw [HR.out]; rfl⟩
      · have hO : Odd c r := ⟨hd1, hn1, hq⟩
        have hq' : ((((ByteArray.mk (c :: r).toArray)[0]'(Nat.succ_pos _)).toNat : Int) == 39) = false := by
          rw [beq_eq_false_iff_ne]; intro e; exact hq (Bg.u8_eq (by rw [show ((39 : UInt8).toNat : Int) = 39 from rfl, ← e]; rfl))
        have HO : Hid (Odd c r) := hO
        clear hO
        go_wp2_with fail
        refine (w_sign c r _ hs HO.out hE0.sg).mono ?_
        rintro e w1 ⟨hB1, v, n, rfl, HF⟩
        obtain ⟨hB, hh⟩ := fin w1 hB1
        obtain ⟨r0, r1, r2, rf⟩ := cells3 hh
        obtain ⟨h1, ⟨a, b, x, hva, hx⟩, h3⟩ := HF
        have HF' : Hid (FirstOk (c :: r) v n) := ⟨h1, ⟨a, b, x, hva, hx⟩, h3⟩
        subst hva
        have rf0 := rf 0
        have rf1 := rf 1
        have rf2 := rf 2
        clear h1 h3 fin hh
        rcases hx with rfl | ⟨t, y, rfl⟩ <;>
         (go_wp2_with fail
          refine bodyPost_ret (v := .tuple #[_, .int .i64 n]) (by simp [results, Tryz.results74, go_sem, r0, r1, r2]; first | done | rfl) rfl ⟨?_, _, _, rfl, HF'.out⟩
          exact ((hB.setCell (p := ⟨w.heap.size, 0, none⟩) (Nat.le_refl _) _).setCell (p := ⟨w.heap.size, 1, none⟩) (Nat.le_refl _) _).setCell (p := ⟨w.heap.size, 2, none⟩) (Nat.le_refl _) _)
end Gr
end Go.Proofs.YtfkdfplnhlnnoaaGreatDoor
end
section
namespace Go.Proofs.YtfkdfplnhlnnoaaGreatDoor
open Go.RowKit
namespace Gr
set_option linter.unusedSimpArgs false
set_option linter.unusedVariables false
def wordV (w : RW) : Value := .agg #[.string ⟨w.sort.toArray⟩, .string ⟨w.text.toArray⟩, .int .i64 w.num]
theorem runs_self (set : Bg.Str) : ∀ s : Bg.Str, Bg.runs set (s.take (Bg.runs set s)) = (s.take (Bg.runs set s)).length := by
  intro s
  refine Bg.runs_all set _ (fun j hj => ?_)
  exact runs_take set s _ (List.getElem_mem hj)
theorem signSet_len : signSet.length ≤ 100000 := by rw [show signSet.length = 12 from rfl]; omega
set_option maxRecDepth 10000 in
set_option maxHeartbeats 1000000 in
theorem ref_word (c : UInt8) (r : Bg.Str) (w : World) (hs : (c :: r).length ≤ 400) :
    Calls Tryz.prog 40 #[.string ⟨(c :: r).toArray⟩] w fun e w' => e = .returned (.tuple #[wordV (rWord (c :: r)).1, .int .i64 (rWord (c :: r)).2]) ∧ Below w.heap.size w w' := by
  have hex := Bg.ext_mk
  have hnle : Bg.runs (Bg.letters ++ Bg.digits) (c :: r) ≤ (c :: r).length := Bg.runs_le _ _
  have hdle : Bg.runs Bg.digits (c :: r) ≤ (c :: r).length := Bg.runs_le _ _
  have HDN : Hid (Bg.runs Bg.digits ((c :: r).take (Bg.runs Bg.digits (c :: r))) = ((c :: r).take (Bg.runs Bg.digits (c :: r))).length) := runs_self _ (c :: r)
  have HR1 : Hid (0 < Bg.runs Bg.digits (c :: r) → rWord (c :: r) = if (Bg.number ((c :: r).take (Bg.runs Bg.digits (c :: r))) false).2 then (⟨kNum, [], (Bg.number ((c :: r).take (Bg.runs Bg.digits (c :: r))) false).1⟩, Bg.runs Bg.digits (c :: r)) else rNone) := fun h => by
    unfold rWord dLen; rw [if_pos h]
  have HR2 : Hid (¬ 0 < Bg.runs Bg.digits (c :: r) → 0 < Bg.runs (Bg.letters ++ Bg.digits) (c :: r) → rWord (c :: r) = (⟨if Bg.isKey ((c :: r).take (Bg.runs (Bg.letters ++ Bg.digits) (c :: r))) then kKey else kName, (c :: r).take (Bg.runs (Bg.letters ++ Bg.digits) (c :: r)), 0⟩, Bg.runs (Bg.letters ++ Bg.digits) (c :: r))) := fun h h2 => by
    unfold rWord dLen nLen; rw [if_neg h, if_pos h2]
  have HR3 : Hid (¬ 0 < Bg.runs Bg.digits (c :: r) → ¬ 0 < Bg.runs (Bg.letters ++ Bg.digits) (c :: r) → rWord (c :: r) = if c = 39 then (⟨kText, (Bg.quoted (c :: r)).1, 0⟩, (Bg.quoted (c :: r)).2) else if two (c :: r) then (⟨kSign, (c :: r).take 2, 0⟩, 2) else if signSet.contains c then (⟨kSign, [c], 0⟩, 1) else rNone) := fun h h2 => by
    unfold rWord dLen nLen; rw [if_neg h, if_neg h2]
    simp only [List.head?_cons, Option.some.injEq, List.take_succ_cons, List.take_zero, Bg.occ_one]
  generalize rWord (c :: r) = R at HR1 HR2 HR3 ⊢
  go_enter Tryz.func40, Tryz.ntmps40
  go_wp2_with fail
  refine (ref_run (c :: r) (Bg.letters ++ Bg.digits) _ (by omega) Bg.named_len).mono ?_
  rintro e w' ⟨rfl, rfl⟩
  go_wp2_with fail
  refine (ref_run (c :: r) Bg.digits _ (by omega) Bg.digits_len).mono ?_
  rintro e w' ⟨rfl, rfl⟩
  generalize Bg.runs Bg.digits (c :: r) = d at *
  generalize Bg.runs (Bg.letters ++ Bg.digits) (c :: r) = n at *
  simp only [List.length_cons] at hs hnle hdle
  have hdle' : (d : Int) ≤ (r.length : Int) + 1 := by omega
  have hnle' : (n : Int) ≤ (r.length : Int) + 1 := by omega
  by_cases hd : 0 < d
  · have HR := HR1.out hd
    clear HR1 HR2 HR3
    go_wp2_with fail
    refine (ref_number ((c :: r).take d) false _ (by rw [List.length_take, List.length_cons]; omega) HDN.out).mono ?_
    rintro e w' ⟨rfl, rfl⟩
    cases hn : (Bg.number ((c :: r).take d) false).2 with
    | false =>
      have HX : Hid (R = rNone) := by show _ = _; rw [HR, hn]; rfl
      clear HR
      go_wp2_with fail
      refine bodyPost_ret (v := .tuple #[.agg #[.string ⟨#[]⟩, .string ⟨#[]⟩, .int .i64 0], .int .i64 0]) (by simp [results, Tryz.results40, go_sem]) rfl ⟨by rw [HX.out]; rfl, (Below.refl _ w).alloc (Nat.le_refl _) _⟩
    | true =>
      have HX : Hid (R = (⟨kNum, [], (Bg.number ((c :: r).take d) false).1⟩, d)) := by show _ = _; rw [HR, hn]; rfl
      clear HR
      go_wp2_with fail
      refine bodyPost_ret (v := .tuple #[.agg #[.string ⟨#[110, 117, 109]⟩, .string ⟨#[]⟩, .int .i64 (Bg.number ((c :: r).take d) false).1], .int .i64 d]) (by simp [results, Tryz.results40, go_sem]) rfl ⟨by rw [HX.out]; rfl, (Below.refl _ w).alloc (Nat.le_refl _) _⟩
  · by_cases hn : 0 < n
    · have HR := HR2.out hd hn
      clear HR1 HR2 HR3
      go_wp2_with fail
      refine (ref_isKey ((c :: r).take n) _ (by rw [List.length_take, List.length_cons]; omega)).mono ?_
      rintro e w' ⟨rfl, rfl⟩
      cases hk : Bg.isKey ((c :: r).take n) with
      | false =>
        have HX : Hid (R = (⟨kName, (c :: r).take n, 0⟩, n)) := by show _ = _; rw [HR, hk]; rfl
        clear HR
        go_wp2_with fail
        refine bodyPost_ret (v := .tuple #[.agg #[.string ⟨#[110, 97, 109, 101]⟩, .string ⟨((c :: r).take n).toArray⟩, .int .i64 0], .int .i64 n]) (by simp [results, Tryz.results40, go_sem]) rfl ⟨by rw [HX.out]; rfl, (Below.refl _ w).alloc (Nat.le_refl _) _⟩
      | true =>
        have HX : Hid (R = (⟨kKey, (c :: r).take n, 0⟩, n)) := by show _ = _; rw [HR, hk]; rfl
        clear HR
        go_wp2_with fail
        refine bodyPost_ret (v := .tuple #[.agg #[.string ⟨#[107, 101, 121]⟩, .string ⟨((c :: r).take n).toArray⟩, .int .i64 0], .int .i64 n]) (by simp [results, Tryz.results40, go_sem]) rfl ⟨by rw [HX.out]; rfl, (Below.refl _ w).alloc (Nat.le_refl _) _⟩
    · have HR := HR3.out hd hn
      clear HR1 HR2 HR3
      by_cases hq : c = 39
      · subst hq
        have HX : Hid (R = (⟨kText, (Bg.quoted (39 :: r)).1, 0⟩, (Bg.quoted (39 :: r)).2)) := by show _ = _; rw [HR, if_pos rfl]
        clear HR
        go_wp2_with fail
        refine (ref_quoted (39 :: r) _ (by rw [List.length_cons]; omega)).mono ?_
        rintro e w' ⟨rfl, rfl⟩
        go_wp2_with fail
        refine bodyPost_ret (v := .tuple #[.agg #[.string ⟨#[116, 101, 120, 116]⟩, .string ⟨(Bg.quoted (39 :: r)).1.toArray⟩, .int .i64 0], .int .i64 (Bg.quoted (39 :: r)).2]) (by simp [results, Tryz.results40, go_sem]) rfl ⟨by rw [HX.out]; rfl, (Below.refl _ w).alloc (Nat.le_refl _) _⟩
      · rw [if_neg hq] at HR
        have hq' : ((((ByteArray.mk (c :: r).toArray)[0]'(Nat.succ_pos _)).toNat : Int) == 39) = false := by
          rw [beq_eq_false_iff_ne]; intro e; exact hq (Bg.u8_eq (by rw [show ((39 : UInt8).toNat : Int) = 39 from rfl, ← e]; rfl))
        have HOne : Hid (∀ b, two (c :: r) = false → signSet.contains c = b → R = if b then (⟨kSign, [c], 0⟩, 1) else rNone) := fun b h1 h2 => by rw [HR, h1, h2]; rfl
        have HTwo : Hid (two (c :: r) = true → R = (⟨kSign, (c :: r).take 2, 0⟩, 2)) := fun h1 => by rw [HR, h1]; rfl
        clear HR
        cases r with
        | nil =>
          have HT := (show two [c] = false by unfold two; simp)
          have HX1 : Hid (∀ b, signSet.contains c = b → R = if b then (⟨kSign, [c], 0⟩, 1) else rNone) := fun b h => HOne.out b HT h
          clear HOne HTwo HT
          go_wp2_with fail
          refine (ref_in [c] signSet _ signSet_len (by show (1 : Nat) ≤ 100000; omega)).mono ?_
          rintro e w' ⟨rfl, rfl⟩
          rw [Bg.occ_one]
          cases hk : signSet.contains c with
          | true =>
            have HX : Hid (R = (⟨kSign, [c], 0⟩, 1)) := by show _ = _; rw [HX1.out true hk]; rfl
            go_wp2_with fail
            refine bodyPost_ret (v := .tuple #[.agg #[.string ⟨#[115, 105, 103, 110]⟩, .string ⟨#[c]⟩, .int .i64 0], .int .i64 1]) (by simp [results, Tryz.results40, go_sem]) rfl ⟨by rw [HX.out]; rfl, (Below.refl _ w).alloc (Nat.le_refl _) _⟩
          | false =>
            have HX : Hid (R = rNone) := by show _ = _; rw [HX1.out false hk]; rfl
            go_wp2_with fail
            refine bodyPost_ret (v := .tuple #[.agg #[.string ⟨#[]⟩, .string ⟨#[]⟩, .int .i64 0], .int .i64 0]) (by simp [results, Tryz.results40, go_sem]) rfl ⟨by rw [HX.out]; rfl, (Below.refl _ w).alloc (Nat.le_refl _) _⟩
        | cons d' r' =>
          by_cases hc60 : c = 60
          · subst hc60
            by_cases hd_62 : d' = 62
            · subst hd_62
              have HX : Hid (R = (⟨kSign, [60, 62], 0⟩, 2)) := HTwo.out rfl
              clear HOne HTwo
              go_wp2_with fail
              refine bodyPost_ret (v := .tuple #[.agg #[.string ⟨#[115, 105, 103, 110]⟩, .string ⟨#[60, 62]⟩, .int .i64 0], .int .i64 2]) (by simp [results, Tryz.results40, go_sem]) rfl ⟨by rw [HX.out]; rfl, (Below.refl _ w).alloc (Nat.le_refl _) _⟩
            · have hbd62 : (d' == 62) = false := by simpa using hd_62
              by_cases hd_61 : d' = 61
              · subst hd_61
                have HX : Hid (R = (⟨kSign, [60, 61], 0⟩, 2)) := HTwo.out rfl
                clear HOne HTwo
                go_wp2_with fail
                refine bodyPost_ret (v := .tuple #[.agg #[.string ⟨#[115, 105, 103, 110]⟩, .string ⟨#[60, 61]⟩, .int .i64 0], .int .i64 2]) (by simp [results, Tryz.results40, go_sem]) rfl ⟨by rw [HX.out]; rfl, (Below.refl _ w).alloc (Nat.le_refl _) _⟩
              · have hbd61 : (d' == 61) = false := by simpa using hd_61
                have HT := (show two (60 :: d' :: r') = false by unfold two; simp [hd_62, hd_61])
                have HX1 : Hid (∀ b, signSet.contains 60 = b → R = if b then (⟨kSign, [60], 0⟩, 1) else rNone) := fun b h => HOne.out b HT h
                clear HOne HTwo HT
                go_wp2_with fail
                refine (ref_in [60] signSet _ signSet_len (by show (1 : Nat) ≤ 100000; omega)).mono ?_
                rintro e w' ⟨rfl, rfl⟩
                rw [Bg.occ_one]
                cases hk : signSet.contains 60 with
                | true =>
                  have HX : Hid (R = (⟨kSign, [60], 0⟩, 1)) := by show _ = _; rw [HX1.out true hk]; rfl
                  go_wp2_with fail
                  refine bodyPost_ret (v := .tuple #[.agg #[.string ⟨#[115, 105, 103, 110]⟩, .string ⟨#[60]⟩, .int .i64 0], .int .i64 1]) (by simp [results, Tryz.results40, go_sem]) rfl ⟨by rw [HX.out]; rfl, (Below.refl _ w).alloc (Nat.le_refl _) _⟩
                | false =>
                  have HX : Hid (R = rNone) := by show _ = _; rw [HX1.out false hk]; rfl
                  go_wp2_with fail
                  refine bodyPost_ret (v := .tuple #[.agg #[.string ⟨#[]⟩, .string ⟨#[]⟩, .int .i64 0], .int .i64 0]) (by simp [results, Tryz.results40, go_sem]) rfl ⟨by rw [HX.out]; rfl, (Below.refl _ w).alloc (Nat.le_refl _) _⟩
          · have hbc60 : (c == 60) = false := by simpa using hc60
            by_cases hc62 : c = 62
            · subst hc62
              by_cases hd_61 : d' = 61
              · subst hd_61
                have HX : Hid (R = (⟨kSign, [62, 61], 0⟩, 2)) := HTwo.out rfl
                clear HOne HTwo
                go_wp2_with fail
                refine bodyPost_ret (v := .tuple #[.agg #[.string ⟨#[115, 105, 103, 110]⟩, .string ⟨#[62, 61]⟩, .int .i64 0], .int .i64 2]) (by simp [results, Tryz.results40, go_sem]) rfl ⟨by rw [HX.out]; rfl, (Below.refl _ w).alloc (Nat.le_refl _) _⟩
              · have hbd61 : (d' == 61) = false := by simpa using hd_61
                have HT := (show two (62 :: d' :: r') = false by unfold two; simp [hd_61])
                have HX1 : Hid (∀ b, signSet.contains 62 = b → R = if b then (⟨kSign, [62], 0⟩, 1) else rNone) := fun b h => HOne.out b HT h
                clear HOne HTwo HT
                go_wp2_with fail
                refine (ref_in [62] signSet _ signSet_len (by show (1 : Nat) ≤ 100000; omega)).mono ?_
                rintro e w' ⟨rfl, rfl⟩
                rw [Bg.occ_one]
                cases hk : signSet.contains 62 with
                | true =>
                  have HX : Hid (R = (⟨kSign, [62], 0⟩, 1)) := by show _ = _; rw [HX1.out true hk]; rfl
                  go_wp2_with fail
                  refine bodyPost_ret (v := .tuple #[.agg #[.string ⟨#[115, 105, 103, 110]⟩, .string ⟨#[62]⟩, .int .i64 0], .int .i64 1]) (by simp [results, Tryz.results40, go_sem]) rfl ⟨by rw [HX.out]; rfl, (Below.refl _ w).alloc (Nat.le_refl _) _⟩
                | false =>
                  have HX : Hid (R = rNone) := by show _ = _; rw [HX1.out false hk]; rfl
                  go_wp2_with fail
                  refine bodyPost_ret (v := .tuple #[.agg #[.string ⟨#[]⟩, .string ⟨#[]⟩, .int .i64 0], .int .i64 0]) (by simp [results, Tryz.results40, go_sem]) rfl ⟨by rw [HX.out]; rfl, (Below.refl _ w).alloc (Nat.le_refl _) _⟩
            · have hbc62 : (c == 62) = false := by simpa using hc62
              have HT := (show two (c :: d' :: r') = false by unfold two; simp [hc60, hc62])
              have HX1 : Hid (∀ b, signSet.contains c = b → R = if b then (⟨kSign, [c], 0⟩, 1) else rNone) := fun b h => HOne.out b HT h
              clear HOne HTwo HT
              go_wp2_with fail
              refine (ref_in [c] signSet _ signSet_len (by show (1 : Nat) ≤ 100000; omega)).mono ?_
              rintro e w' ⟨rfl, rfl⟩
              rw [Bg.occ_one]
              cases hk : signSet.contains c with
              | true =>
                have HX : Hid (R = (⟨kSign, [c], 0⟩, 1)) := by show _ = _; rw [HX1.out true hk]; rfl
                go_wp2_with fail
                refine bodyPost_ret (v := .tuple #[.agg #[.string ⟨#[115, 105, 103, 110]⟩, .string ⟨#[c]⟩, .int .i64 0], .int .i64 1]) (by simp [results, Tryz.results40, go_sem]) rfl ⟨by rw [HX.out]; rfl, (Below.refl _ w).alloc (Nat.le_refl _) _⟩
              | false =>
                have HX : Hid (R = rNone) := by show _ = _; rw [HX1.out false hk]; rfl
                go_wp2_with fail
                refine bodyPost_ret (v := .tuple #[.agg #[.string ⟨#[]⟩, .string ⟨#[]⟩, .int .i64 0], .int .i64 0]) (by simp [results, Tryz.results40, go_sem]) rfl ⟨by rw [HX.out]; rfl, (Below.refl _ w).alloc (Nat.le_refl _) _⟩
end Gr
end Go.Proofs.YtfkdfplnhlnnoaaGreatDoor
end
