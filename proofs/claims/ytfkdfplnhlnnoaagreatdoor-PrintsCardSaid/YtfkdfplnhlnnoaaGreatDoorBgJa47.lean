import Derived.Deep.DeepHandedRow
import Derived.LaidHandle
import Derived.LaidLaws
import Derived.LaidMore
import Derived.Lay
import Derived.Lib.LaidTab
import Derived.OpenShut
import Derived.ProofKit
import Derived.SevenTiedAt
import Derived.Stop.Joined
import Derived.Stop.LaidErr
import Derived.Test.YtfkdfplnhlnnoaaGreatDoorBgJa34
import Derived.Test.YtfkdfplnhlnnoaaGreatDoorBgJa43
import Derived.Test.YtfkdfplnhlnnoaaGreatDoorBgPT
import Derived.Test.YtfkdfplnhlnnoaaGreatDoorBgPrE
import Derived.Test.YtfkdfplnhlnnoaaGreatDoorCards
section
namespace Go.Proofs.YtfkdfplnhlnnoaaGreatDoor
open Go.RowKit
namespace Gr
set_option linter.unusedSimpArgs false
set_option linter.unusedVariables false
open NT
/-- the start's variables -/
structure Start (w : World) : Prop where
  env : WEnv w
  sp : Spaces w
  pow : Pows w
  err : ErrType w
/-- the document's answer where it has a fault -/
theorem read_bad {W : World} {s : Bg.Str} {k a k' a' : Int} {v : Value} (h : AnsE s k a) (hr : ReadIs W (rWords s) v k' a') : k' = k ∧ a' = a := by
  unfold AnsE at h
  split at h
  · rename_i n hn
    rw [hn] at hr
    obtain ⟨_, h1, h2⟩ := hr
    exact ⟨by omega, by omega⟩
  · rename_i l hn
    rw [hn] at hr
    rcases h with ⟨h1, h2, h3⟩ | ⟨h1, h2, h3, h4⟩ <;> rcases hr with ⟨r1, _, r2, r3⟩ | ⟨r1, r2, _, r3, r4⟩ | ⟨r1, r2, r3, r4, _⟩
    · exact ⟨by omega, by omega⟩
    · exact absurd r1 h1
    · exact absurd r1 h1
    · exact absurd h1 r1
    · exact ⟨by omega, by omega⟩
    · rw [h2] at r2; cases r2
/-- the document's answer where it has a print -/
theorem read_well {W : World} {s p : Bg.Str} {k' a' : Int} {v : Value} (h : AnsP s p) (hr : ReadIs W (rWords s) v k' a') : k' = 0 ∧ a' = 0 ∧ ∃ M N b t, v = .pointer (some ⟨b, 0, none⟩) ∧ PtrAt M N W t v ∧ Good t ∧ p = pr t := by
  obtain ⟨l, t, h1, h2, h3, h4, rfl⟩ := h
  rw [h1] at hr
  rcases hr with ⟨r1, _⟩ | ⟨r1, r2, _⟩ | ⟨r1, r2, r3, r4, M, N, b, t', rv, rp, rd⟩
  · exact absurd h2 r1
  · rw [h3] at r2; cases r2
  · obtain rfl := h4.one rd
    exact ⟨r3, r4, M, N, b, t, rv, rp, read_good h1 h4, rfl⟩
theorem read_bad_kind {s : Bg.Str} {k a : Int} (h : AnsE s k a) : (k == 0) = false := by
  have := h.kind
  have : k ≠ 0 := by omega
  simpa using this
set_option maxRecDepth 100000 in
set_option maxHeartbeats 1000000 in
theorem reads_long (s : Bg.Str) (W : World) (hs : s.length ≤ 9223372036854775807) (h : s.length > 8192) :
    Calls Tryz.prog 4 #[.string ⟨s.toArray⟩] W fun e W' => e = .returned (.bool true) ∧ Below W.heap.size W W' := by
  have h1 : (8192 : Int) < (s.length : Int) := by omega
  go_enter Tryz.func4, Tryz.ntmps4
  go_wp2
  go_ret
  exact ⟨rfl, Below.refl _ _⟩
set_option maxRecDepth 100000 in
set_option maxHeartbeats 1000000 in
theorem prints_long (s : Bg.Str) (W : World) (hs : s.length ≤ 9223372036854775807) (h : s.length > 8192) :
    Calls Tryz.prog 5 #[.string ⟨s.toArray⟩] W fun e W' => e = .returned (.bool true) ∧ Below W.heap.size W W' := by
  have h1 : (8192 : Int) < (s.length : Int) := by omega
  go_enter Tryz.func5, Tryz.ntmps5
  go_wp2
  go_ret
  exact ⟨rfl, Below.refl _ _⟩
set_option maxRecDepth 100000 in
set_option maxHeartbeats 1000000 in
theorem reads_short (s : Bg.Str) (W : World) (h : s.length ≤ 8192) (hS : Start W) :
    Calls Tryz.prog 4 #[.string ⟨s.toArray⟩] W fun e W' => e = .returned (.bool true) ∧ Below W.heap.size W W' := by
  have h1 : ¬ (8192 : Int) < (s.length : Int) := by omega
  go_enter Tryz.func4, Tryz.ntmps4
  go_wp2_with fail
  refine (p_print s W (by omega) hS.env hS.sp hS.pow hS.err).mono ?_
  rintro e w1 ⟨hB1, ⟨q, rfl, hA⟩ | ⟨k, a, rfl, hA⟩⟩
  · have HA : Hid (AnsP s q) := hA
    clear hA
    go_wp2_with fail
    refine (ref_Read s _ (by omega)).mono ?_
    rintro e w2 ⟨v, k2, a2, rfl, hB2, hr⟩
    obtain ⟨rfl, rfl, M, N, b, t, rfl, _⟩ := read_well HA.out hr
    clear hr
    go_wp2
    go_ret
    exact ⟨rfl, hB1.trans (hB2.mono hB1.size)⟩
  · have HA : Hid (AnsE s k a) := hA
    clear hA
    go_wp2_with fail
    refine (ref_Read s _ (by omega)).mono ?_
    rintro e w2 ⟨v, k2, a2, rfl, hB2, hr⟩
    obtain ⟨rfl, rfl⟩ := read_bad HA.out hr
    clear hr HA
    go_wp2
    go_ret
    exact ⟨rfl, hB1.trans (hB2.mono hB1.size)⟩
set_option maxRecDepth 100000 in
set_option maxHeartbeats 1000000 in
theorem prints_short (s : Bg.Str) (W : World) (h : s.length ≤ 8192) (hS : Start W) :
    Calls Tryz.prog 5 #[.string ⟨s.toArray⟩] W fun e W' => e = .returned (.bool true) ∧ Below W.heap.size W W' := by
  have h1 : ¬ (8192 : Int) < (s.length : Int) := by omega
  go_enter Tryz.func5, Tryz.ntmps5
  go_wp2_with fail
  refine (p_print s W (by omega) hS.env hS.sp hS.pow hS.err).mono ?_
  rintro e w1 ⟨hB1, ⟨q, rfl, hA⟩ | ⟨k, a, rfl, hA⟩⟩
  · have HA : Hid (AnsP s q) := hA
    clear hA
    go_wp2_with fail
    refine (ref_Read s _ (by omega)).mono ?_
    rintro e w2 ⟨v, k2, a2, rfl, hB2, hr⟩
    obtain ⟨rfl, rfl, M, N, b, t, rfl, hp, hg, e⟩ := read_well HA.out hr
    have hcall := ref_Print M N t _ w2 hp hg
    rw [← e] at hcall
    clear hr hp hg e HA
    go_wp2_with fail
    refine hcall.mono ?_
    rintro e w3 ⟨rfl, hB3⟩
    go_wp2
    go_ret
    exact ⟨rfl, (hB1.trans (hB2.mono hB1.size)).trans (hB3.mono (hB1.trans (hB2.mono hB1.size)).size)⟩
  · have HA : Hid (AnsE s k a) := hA
    have hk := read_bad_kind hA
    clear hA
    go_wp2_with fail
    refine (ref_Read s _ (by omega)).mono ?_
    rintro e w2 ⟨v, k2, a2, rfl, hB2, hr⟩
    obtain ⟨rfl, rfl⟩ := read_bad HA.out hr
    have hv : ∃ o, v = .pointer o := by
      have h2 := HA.out
      unfold AnsE at h2
      split at h2
      · rename_i n hn
        rw [hn] at hr
        exact ⟨_, hr.1⟩
      · rename_i l hn
        rw [hn] at hr
        rcases hr with ⟨_, r, _⟩ | ⟨_, _, r, _⟩ | ⟨_, _, _, _, _, _, b, _, r, _⟩
        · exact ⟨_, r⟩
        · exact ⟨_, r⟩
        · exact ⟨_, r⟩
    obtain ⟨o, rfl⟩ := hv
    clear hr HA
    go_wp2
    go_ret
    exact ⟨rfl, hB1.trans (hB2.mono hB1.size)⟩
theorem reads_all (s : Bg.Str) (W : World) (hs : s.length ≤ 9223372036854775807) (hS : Start W) :
    Calls Tryz.prog 4 #[.string ⟨s.toArray⟩] W fun e W' => e = .returned (.bool true) ∧ Below W.heap.size W W' := by
  by_cases h : s.length > 8192
  · exact reads_long s W hs h
  · exact reads_short s W (by omega) hS
theorem prints_all (s : Bg.Str) (W : World) (hs : s.length ≤ 9223372036854775807) (hS : Start W) :
    Calls Tryz.prog 5 #[.string ⟨s.toArray⟩] W fun e W' => e = .returned (.bool true) ∧ Below W.heap.size W W' := by
  by_cases h : s.length > 8192
  · exact prints_long s W hs h
  · exact prints_short s W (by omega) hS
end Gr
end Go.Proofs.YtfkdfplnhlnnoaaGreatDoor
end
section
namespace Go.Proofs.YtfkdfplnhlnnoaaGreatDoor
open Go.ChangeShapes Go.WideShapes Go.ChangeAt Go.RowKit
namespace Gr
set_option linter.unusedSimpArgs false
set_option linter.unusedVariables false
theorem bgOwn : ownKnob Tryz.prog.godebug = none := by kernel_rfl
theorem gEt : Tryz.prog.globalNamed "errors.errorType" = some 0 := by kernel_rfl
theorem gSp : Tryz.prog.globalNamed "strings.asciiSpace" = some 1 := by kernel_rfl
theorem gSpT : (Tryz.prog.globals[1]?).map (·.type) = some 178 := by kernel_rfl
theorem gEs : Tryz.prog.globalNamed "strconv.ErrSyntax" = some 7 := by kernel_rfl
theorem gEsT : (Tryz.prog.globals[7]?).map (·.type) = some 36 := by kernel_rfl
theorem gEr : Tryz.prog.globalNamed "strconv.ErrRange" = some 8 := by kernel_rfl
theorem gErT : (Tryz.prog.globals[8]?).map (·.type) = some 36 := by kernel_rfl
theorem cellsSp : Tryz.prog.cellsOf 178 = 256 := by kernel_rfl
theorem cellsU8 : Tryz.prog.cellsOf 5 = 1 := by kernel_rfl
theorem cellsEs : Tryz.prog.cellsOf 312 = 1 := by kernel_rfl
theorem cellsStr : Tryz.prog.cellsOf 9 = 1 := by kernel_rfl
theorem starEs : "*" ++ "errors.errorString" = "*errors.errorString" := by decide
theorem rowEs (u : TypeId) (h : Tryz.prog.typeName? 3 u = some "*errors.errorString") : u = 310 :=
  typeName_ptr_named (nm := "errors.errorString") (by rw [starEs]; kernel_rfl) (by kernel_rfl) (by decide) u (by rw [starEs]; exact h)
theorem rtRow : (Tryz.prog.cutTypes.find? (·.1 == "internal/reflectlite.rtype")).map (·.2) = some 147 := by kernel_rfl
theorem oneErr : ((List.range Tryz.prog.types.size).filter fun t => Tryz.prog.rowNamed t [101, 114, 114, 111, 114]) = [36] := by kernel_rfl
theorem handleEr : typeHandle Tryz.prog 36 = .pointer (some ⟨13, 36, none⟩) := by kernel_rfl
theorem gSg : Tryz.prog.globalNamed "bags/words.signs" = some 3 := by kernel_rfl
theorem gSgT : (Tryz.prog.globals[3]?).map (·.type) = some 230 := by kernel_rfl
theorem cellsSg : Tryz.prog.cellsOf 230 = 15 := by kernel_rfl
theorem gPwT : (Tryz.prog.globals[9]?).map (·.type) = some 343 := by kernel_rfl
theorem cellsPw : Tryz.prog.cellsOf 343 = 20 := by kernel_rfl
theorem cellsU64 : Tryz.prog.cellsOf 287 = 1 := by kernel_rfl
theorem pwData : (Rows.laid_internal_strconv_uint64pow10 : DataW Unit) = Lib.tabData .u64 Lib.pow10Tab := by kernel_rfl
theorem sgData : (Rows.laid_bags_words_signs : DataW Unit) = .agg (sgW.map fun s => .lit (.string s)) := by kernel_rfl
/-- an array of texts that reads as these holds them -/
theorem strs_of {W : World} {rest : List (String × DataW Unit)} (h : laidMet Tryz.prog (("bags/words.signs", .agg (sgW.map fun s => .lit (.string s))) :: rest) W) : Signs W := by
  obtain ⟨ps, ⟨g', t', cs, fuel, p, q, hg', ht', hvar, hd, _, _⟩, _⟩ := h
  obtain rfl := Option.some.inj (gSg.symm.trans hg')
  obtain rfl := Option.some.inj (gSgT.symm.trans ht')
  cases fuel with
  | zero => simp [DataW.trod] at hd
  | succ fuel =>
    simp only [DataW.trod, Tryz.underlying230, cellsStr, cellsSg, Nat.mul_one] at hd
    split at hd
    · obtain ⟨xs, hm, hx⟩ := Option.map_eq_some_iff.1 hd
      have hxs : xs.map (·.1) = sgW.map fun s => (DataW.lit (.string s) : DataW Unit) := by
        have := congrArg Prod.fst hx
        simpa using this
      intro k hk
      have h15 : sgW.length = 15 := by decide
      obtain ⟨b, hb, hf⟩ := Lib.mapM_at hm k k (by rw [List.getElem?_range (by omega)])
      obtain ⟨s, hc, hbs, _⟩ := DataW.trod_string Tryz.underlying9 hf
      have h1 : cs[k]? = some (.string s) := by
        have := congrArg (·[0]?) hc
        simpa [List.getElem?_take, List.getElem?_drop] using this
      have h2 := congrArg (·[k]?) hxs
      simp only [List.getElem?_map, hb, List.getElem?_eq_getElem hk, Option.map_some, hbs] at h2
      have h3 : s.data.toList = sgW[k] := by simpa using h2
      have h4 := World.var?_cell gSg hvar k
      rw [h4, ← h3]
      simpa using h1
    · cases hd
/-- the table of blanks in numbers -/
def spNums : List Int := (List.range 256).map fun n => if n < 128 ∧ isSp (UInt8.ofNat n) = true then 1 else 0
theorem spData : (Rows.laid_strings_asciiSpace : DataW Unit) = Lib.tabData .u8 spNums := by kernel_rfl
theorem spChk : ((List.range 128).all fun n => spNums.getD n 0 == (if isSp (UInt8.ofNat n) then 1 else 0)) = true := by decide +kernel
/-- the listed variables but the handle -/
def rest10 : List (String × DataW Unit) := [("math/bits.deBruijn32tab", Rows.laid_math_bits_deBruijn32tab), ("math/bits.deBruijn64tab", Rows.laid_math_bits_deBruijn64tab), ("internal/strconv.uint64pow10", Rows.laid_internal_strconv_uint64pow10), ("unicode/utf8.acceptRanges", Rows.laid_unicode_utf8_acceptRanges), ("strconv.ErrRange", Rows.laid_strconv_ErrRange), ("strconv.ErrSyntax", Rows.laid_strconv_ErrSyntax), ("unicode.White_Space", Rows.laid_unicode_White_Space), ("strings.asciiSpace", Rows.laid_strings_asciiSpace), ("bags/words.signs", Rows.laid_bags_words_signs), ("unicode/utf8.first", Rows.laid_unicode_utf8_first)]
/-- what the listed variables give -/
theorem of_laid {W : World} (hp : laidMet Tryz.prog rest10 W) (hh : handlesMet Tryz.prog [("errors.errorType", Rows.laid_errors_errorType)] W) (hG : 13 ≤ W.heap.size) : Start W := by
  unfold rest10 at hp
  have t3 := hp.tail.tail
  have t5 := hp.tail.tail.tail.tail
  have t6 := t5.tail
  have t8 := t6.tail.tail
  have t9 := t8.tail
  refine ⟨⟨⟨?_, ?_⟩, ?_, hG⟩, ?_, ?_, ?_⟩
  · obtain ⟨a0, s0, hv0, -, -, -⟩ := laid_sentinel t6 gEs gEsT Tryz.underlying36 rowEs Tryz.underlying310 Tryz.underlying312 rfl rfl Tryz.underlying9 cellsEs cellsStr
    exact ⟨_, _, hv0⟩
  · obtain ⟨a0, s0, hv0, -, -, -⟩ := laid_sentinel t5 gEr gErT Tryz.underlying36 rowEs Tryz.underlying310 Tryz.underlying312 rfl rfl Tryz.underlying9 cellsEs cellsStr
    exact ⟨_, _, hv0⟩
  · rw [sgData] at t9
    exact strs_of t9
  · have ht : Lib.TabIs Tryz.prog W "strings.asciiSpace" .u8 spNums := by
      rw [spData] at t8
      exact Lib.tabIs_of_head gSp gSpT Tryz.underlying178 Tryz.underlying5 cellsU8 cellsSp t8
    have hc := fun (i : Nat) (hi : i < spNums.length) => ht.cell gSp i hi
    have hlen : spNums.length = 256 := by decide +kernel
    refine ⟨World.block_lt_of_cell? W _ (hc 0 (by omega)), fun c hcc => ?_⟩
    have h1 := hc c.toNat (by omega)
    have h2 := List.all_eq_true.1 spChk c.toNat (List.mem_range.2 hcc)
    rw [UInt8.ofNat_toNat] at h2
    rw [h1, eq_of_beq h2]
  · rw [pwData] at t3
    exact Lib.tabIs_of_head gPow gPwT Tryz.underlying343 Tryz.underlying287 cellsU64 cellsPw t3
  · obtain ⟨name, u, ty, e1, e2, e3, e4, e5⟩ := hh _ (List.mem_singleton.2 rfl)
    have en : name = [101, 114, 114, 111, 114] := (Option.some.inj e1).symm
    subst en
    obtain rfl := Option.some.inj (rtRow.symm.trans e2)
    have hm : ty ∈ (List.range Tryz.prog.types.size).filter fun t => Tryz.prog.rowNamed t [101, 114, 114, 111, 114] := List.mem_filter.2 ⟨List.mem_range.2 e3, e4⟩
    rw [oneErr] at hm
    obtain rfl := List.mem_singleton.1 hm
    rw [handleEr] at e5
    show W.cell? ⟨0, 0, none⟩ = _
    simpa using World.var?_cell gEt e5 0
end Gr
end Go.Proofs.YtfkdfplnhlnnoaaGreatDoor
end
