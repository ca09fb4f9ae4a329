/- Opens: the row, and the tied card. -/
import Derived.Test.YtfkdfplnhlnnoaaGreatDoorBgOpens
import Derived.Test.YtfkdfplnhlnnoaaGreatDoorCards
import Derived.Test.YtfkdfplnhlnnoaaGreatDoorBgFacts
import Derived.Test.YtfkdfplnhlnnoaaGreatDoorTie
import Derived.ProofKit
import Derived.OpenShut
import Derived.LaidMore
import Derived.LaidHandle
import Derived.LaidLaws
import Derived.Lay
import Derived.Stop.LaidErr
import Derived.Stop.Joined
import Derived.Deep.DeepHandedRow
import Derived.Lib.LaidTab
import Derived.SevenTiedAt
namespace Go.Proofs.YtfkdfplnhlnnoaaGreatDoor
open Go.ChangeShapes Go.WideShapes Go.ChangeAt Go.RowKit
set_option linter.unusedSimpArgs false
set_option linter.unusedVariables false

theorem bgOwn : ownKnob Tryz.prog.godebug = none := by kernel_rfl
theorem gEt : Tryz.prog.globalNamed "errors.errorType" = some 0 := by kernel_rfl
theorem gSp : Tryz.prog.globalNamed "strings.asciiSpace" = some 1 := by kernel_rfl
theorem gSpT : (Tryz.prog.globals[1]?).map (·.type) = some 178 := by kernel_rfl
theorem gEs : Tryz.prog.globalNamed "strconv.ErrSyntax" = some 7 := by kernel_rfl
theorem gEsT : (Tryz.prog.globals[7]?).map (·.type) = some 36 := by kernel_rfl
theorem gEr : Tryz.prog.globalNamed "strconv.ErrRange" = some 8 := by kernel_rfl
theorem gErT : (Tryz.prog.globals[8]?).map (·.type) = some 36 := by kernel_rfl
theorem cellsSp : Tryz.prog.cellsOf 178 = 256 := by kernel_rfl
theorem cellsU8 : Tryz.prog.cellsOf 5 = 1 := by kernel_rfl
theorem cellsEs : Tryz.prog.cellsOf 312 = 1 := by kernel_rfl
theorem cellsStr : Tryz.prog.cellsOf 9 = 1 := by kernel_rfl
theorem starEs : "*" ++ "errors.errorString" = "*errors.errorString" := by decide
theorem rowEs (u : TypeId) (h : Tryz.prog.typeName? 3 u = some "*errors.errorString") : u = 310 :=
  typeName_ptr_named (nm := "errors.errorString") (by rw [starEs]; kernel_rfl) (by kernel_rfl) (by decide) u (by rw [starEs]; exact h)
theorem rtRow : (Tryz.prog.cutTypes.find? (·.1 == "internal/reflectlite.rtype")).map (·.2) = some 147 := by kernel_rfl
theorem oneErr : ((List.range Tryz.prog.types.size).filter fun t => Tryz.prog.rowNamed t [101, 114, 114, 111, 114]) = [36] := by kernel_rfl
theorem handleEr : typeHandle Tryz.prog 36 = .pointer (some ⟨13, 36, none⟩) := by kernel_rfl

theorem laidOne : (Rows.opensRow.laid.filter fun x => x.2.handleName?.isSome) = [("errors.errorType", Rows.laid_errors_errorType)] := by kernel_rfl
theorem laidRest : (Rows.opensRow.laid.filter fun x => x.2.handleName?.isNone) = [("math/bits.deBruijn32tab", Rows.laid_math_bits_deBruijn32tab), ("math/bits.deBruijn64tab", Rows.laid_math_bits_deBruijn64tab), ("internal/strconv.uint64pow10", Rows.laid_internal_strconv_uint64pow10), ("unicode/utf8.acceptRanges", Rows.laid_unicode_utf8_acceptRanges), ("strconv.ErrRange", Rows.laid_strconv_ErrRange), ("strconv.ErrSyntax", Rows.laid_strconv_ErrSyntax), ("unicode.White_Space", Rows.laid_unicode_White_Space), ("strings.asciiSpace", Rows.laid_strings_asciiSpace), ("unicode/utf8.first", Rows.laid_unicode_utf8_first)] := by kernel_rfl
/-- the table of blanks in numbers -/
def spNums : List Int := (List.range 256).map fun n => if n < 128 ∧ isSp (UInt8.ofNat n) = true then 1 else 0
theorem spData : (Rows.laid_strings_asciiSpace : DataW Unit) = Lib.tabData .u8 spNums := by kernel_rfl
theorem spChk : ((List.range 128).all fun n => spNums.getD n 0 == (if isSp (UInt8.ofNat n) then 1 else 0)) = true := by decide +kernel

/-- what the listed variables give -/
theorem of_laid {W : World} (h : laidMetH Tryz.prog Rows.opensRow.laid W) : Spaces W ∧ NumVars W ∧ ErrType W := by
  unfold laidMetH at h
  rw [laidOne] at h
  obtain ⟨hp, hh⟩ := h
  rw [laidRest] at hp
  have t5 := hp.tail.tail.tail.tail
  have t6 := t5.tail
  have t8 := t6.tail.tail
  refine ⟨?_, ⟨?_, ?_⟩, ?_⟩
  · have ht : Lib.TabIs Tryz.prog W "strings.asciiSpace" .u8 spNums := by
      rw [spData] at t8
      exact Lib.tabIs_of_head gSp gSpT Tryz.underlying178 Tryz.underlying5 cellsU8 cellsSp t8
    have hc := fun (i : Nat) (hi : i < spNums.length) => ht.cell gSp i hi
    have hlen : spNums.length = 256 := by decide +kernel
    refine ⟨World.block_lt_of_cell? W _ (hc 0 (by omega)), fun c hcc => ?_⟩
    have h1 := hc c.toNat (by omega)
    have h2 := List.all_eq_true.1 spChk c.toNat (List.mem_range.2 hcc)
    rw [UInt8.ofNat_toNat] at h2
    rw [h1, eq_of_beq h2]
  · obtain ⟨a0, s0, hv0, -, -, -⟩ := laid_sentinel t6 gEs gEsT Tryz.underlying36 rowEs Tryz.underlying310 Tryz.underlying312 rfl rfl Tryz.underlying9 cellsEs cellsStr
    exact ⟨_, _, hv0⟩
  · obtain ⟨a0, s0, hv0, -, -, -⟩ := laid_sentinel t5 gEr gErT Tryz.underlying36 rowEs Tryz.underlying310 Tryz.underlying312 rfl rfl Tryz.underlying9 cellsEs cellsStr
    exact ⟨_, _, hv0⟩
  · obtain ⟨name, u, ty, e1, e2, e3, e4, e5⟩ := hh _ (List.mem_singleton.2 rfl)
    have en : name = [101, 114, 114, 111, 114] := (Option.some.inj e1).symm
    subst en
    obtain rfl := Option.some.inj (rtRow.symm.trans e2)
    have hm : ty ∈ (List.range Tryz.prog.types.size).filter fun t => Tryz.prog.rowNamed t [101, 114, 114, 111, 114] := List.mem_filter.2 ⟨List.mem_range.2 e3, e4⟩
    rw [oneErr] at hm
    obtain rfl := List.mem_singleton.1 hm
    rw [handleEr] at e5
    show W.cell? ⟨0, 0, none⟩ = _
    simpa using World.var?_cell gEt e5 0

theorem law_all (s : Bg.Str) (W : World) (hs : s.length ≤ 9223372036854775807) (hS : Spaces W) (hnv : NumVars W) (hG : 13 ≤ W.heap.size) (hE : ErrType W) :
    Calls Tryz.prog 3 #[.string ⟨s.toArray⟩] W fun e W' => e = .returned (.bool true) ∧ Below W.heap.size W W' := by
  by_cases h : s.length > 8192
  · exact law_long s W hs h
  · exact law_short s W (by omega) hS hnv hG hE
set_option maxRecDepth 100000 in
/-- what the walk gives, for every argument and every world that holds the variables -/
theorem contract (H : Type) (enc : TypeId × Value → H) (W : World) (base : Nat) (args : Array Value) (ds gs : List (DataW H)) (before : List MemPlace)
    (hval : ∀ (j : Nat) t v, Tryz.f3.params[j]? = some t → args[j]? = some v → Value.okWide Tryz.prog W .any base t v)
    (hW : DataW.Whole enc Tryz.prog Tryz.f3.params.toList Rows.opensSpec.vars false W args.toList ds gs before) (hL : laidMetH Tryz.prog Rows.opensRow.laid W) (hG : 13 ≤ W.heap.size) :
    Calls Tryz.prog 3 args W fun e W' => ∃ v, e = .returned v ∧ Rows.opensSpec.post enc Tryz.prog Tryz.f3 false true false false W args v W' := by
  have hW' := hW
  obtain ⟨p, q, hA0, hV, rfl, hfz, hnd⟩ := hW
  have hA : DataW.TrodAll enc Tryz.prog W 0 (fun _ => true) true Tryz.f3.params.toList args.toList ds p := hA0
  rw [Tryz.params3] at hA hval
  obtain ⟨v0, d0, rfl, rfl, h0⟩ := trodAll_one hA
  obtain ⟨rfl, rfl⟩ := trodVars_none hV
  obtain ⟨s, rfl, rfl, rfl, hs⟩ := Go.ChangeMaps.open_string Tryz.underlying9 (hval 0 9 v0 rfl rfl) h0
  clear hA0
  simp only [List.append_nil] at hW'
  obtain ⟨hS, hnv, hE⟩ := of_laid hL
  have es : s = ⟨s.data.toList.toArray⟩ := by cases s; simp
  have walk : Calls Tryz.prog 3 #[.string s] W fun e W' => e = .returned (.bool true) ∧ Below W.heap.size W W' := by
    rw [es]
    exact law_all s.data.toList W (by have e1 : s.size = s.data.size := rfl; have e2 : s.data.toList.length = s.data.size := Array.length_toList; unfold maxLen at hs; omega) hS hnv hG hE
  refine walk.mono fun e W' ⟨he, hB⟩ => ?_
  subst he
  refine ⟨_, rfl, _, _, _, [], [], [], hW', ?_, ?_, rfl, hB.frame _, fun h => by cases h⟩
  · exact trodAll_mk1 (shut_bool Tryz.underlying4 true)
  · exact trodAll_mk1 (Go.ChangeMaps.shut_string Tryz.underlying9 hs)

set_option maxRecDepth 100000 in
theorem opens_lifted (os : Os) (started : os.Started) (H : Type) (enc : TypeId × Value → H) (F : Stop.Interp) :
    ReturnsInHanded {} Tryz.checked os 3 .any ((OpenSpec.ofChange Rows.opensSpec).preRow enc Tryz.prog Tryz.f3 Rows.opensRow.domain false Rows.opensRow.laid) (((OpenSpec.ofChange Rows.opensSpec).at F).post enc Tryz.prog Tryz.f3 false true false false) := by
  refine returnsInHanded_of_row (C := Tryz.checked) (s := OpenSpec.ofChange Rows.opensSpec) bgOwn started (by kernel_rfl) Tryz.func3 (Opens.wit os H enc) ?_
  intro W base args ds gs before hval hW _ _ _ hL hsh _
  have hG : 13 ≤ W.heap.size := by
    obtain ⟨cs, hc, _⟩ := hsh.1 (13 - 1) #[.pointer none] 211 (of_decide_eq_true (by kernel_rfl)) (by kernel_rfl)
    have := (Array.getElem?_eq_some_iff.1 hc).1
    omega
  exact contract H enc W base args ds gs before hval hW hL hG

theorem opens_said : Rows.OpensSaid :=
  OpenClaim.holds_of_cond 3 Tryz.f3 rfl rfl rfl rfl rfl rfl rfl ⟨rfl, rfl, rfl, rfl, rfl⟩ rfl rfl rfl rfl rfl opens_named Tryz.func3 opens_closed opens_inst opens_wrap
    (fun os started H enc _ F => by rw [OpenClaim.pre_eq_preRow]; exact opens_lifted os started H enc F)

theorem opens_plain (f : FuncId) (fn : Func) (hf : Tryz.pinned.checked.prog.funcNamed "bags/bagslaw.Opens" = some f) (hfn : Tryz.pinned.checked.prog.funcs[f]? = some fn) :
    true = Tryz.pinned.checked.prog.looks [] ∧ ∀ (j : Nat) t, fn.params[j]? = some t → Tryz.pinned.checked.prog.wantsStandIn t = false := by
  obtain rfl : f = 3 := Option.some.inj ((show Tryz.prog.funcNamed "bags/bagslaw.Opens" = some 3 by kernel_rfl).symm.trans hf) |>.symm
  obtain rfl : fn = Tryz.f3 := (Option.some.inj (Tryz.func3.symm.trans hfn)).symm
  refine ⟨by kernel_rfl, fun j t ht => ?_⟩
  rw [Tryz.params3] at ht
  obtain rfl : t = 9 := by simpa using Array.mem_of_getElem? ht
  exact (show Tryz.prog.wantsStandIn 9 = false by kernel_rfl)

theorem opens_card : Rows.OpensCardSaid :=
  Claim7.holds_tied_plain_at .later [] _ _ _ _ opens_said (fun _ h => by cases h) (by kernel_rfl) (fun _ h => by cases h) opens_row_tie rfl ⟨rfl, rfl⟩ (by kernel_rfl) rfl opens_plain (by kernel_rfl)
#print axioms opens_card
end Go.Proofs.YtfkdfplnhlnnoaaGreatDoor
