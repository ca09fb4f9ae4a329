import Derived.Test.YtfkdfplnhlnnoaaGreatDoorBgJa28
import Derived.Test.YtfkdfplnhlnnoaaGreatDoorBgShelf2
import Derived.Test.YtfkdfplnhlnnoaaGreatDoorBgTwC
section
namespace Go.Proofs.YtfkdfplnhlnnoaaGreatDoor
open Go.RowKit
namespace Gr
set_option linter.unusedSimpArgs false
set_option linter.unusedVariables false
/-- the powers of ten, as they are laid -/
def Pows (w : World) : Prop := Lib.TabIs Tryz.prog w "internal/strconv.uint64pow10" .u64 Lib.pow10Tab
theorem gPow : Tryz.prog.globalNamed "internal/strconv.uint64pow10" = some 9 := by kernel_rfl
theorem Pows.below {n : Nat} {w w' : World} (h : Pows w) (hB : Below n w w') (hn : 13 ≤ n) : Pows w' := by
  unfold Pows Lib.TabIs World.var? at *
  rw [gPow] at *
  simp only [Option.bind_some] at *
  rw [hB.block _ (Nat.lt_of_lt_of_le (by decide) hn)]
  exact h
theorem decN_eq (n : Nat) : decN n = Lib.decDigits n := by
  induction n using Nat.strongRecOn with
  | ind n ih =>
    rw [decN, Lib.decDigits]
    by_cases h : n < 10
    · rw [if_pos h, dif_pos h]
    · rw [if_neg h, dif_neg h, ih _ (by omega)]
theorem dec_eq (n : Int) : dec n = Lib.itoa n := by
  unfold dec Lib.itoa
  split
  · rw [decN_eq]
  · rw [decN_eq, show n.natAbs = n.toNat from by omega]
theorem below_grow (w : World) (q : Nat) (os : Array Obj) : Below w.heap.size w (Sort.grow (w.drewN q) os) :=
  ⟨rfl, rfl, rfl, by simp [Sort.grow, World.drewN], fun i hi => by unfold Sort.grow; exact Array.getElem?_append_left hi⟩
theorem w_null (W0 : World) : Says 248 #[.agg #[]] [110, 117, 108, 108] W0 := by
  unfold Says
  go_enter Tryz.func248, Tryz.ntmps248
  go_wp2_with fail
  go_ret
  exact ⟨rfl, wsum _⟩
theorem w_int (n : Int) (h0 : -9223372036854775808 ≤ n) (h1 : n ≤ 9223372036854775807) (W0 : World) (hp : Pows W0) : Says 249 #[.int .i64 n] (dec n) W0 := by
  unfold Says
  rw [dec_eq]
  go_enter Tryz.func249, Tryz.ntmps249
  go_wp2_with fail
  refine (Tryz.strconv_FormatInt_10 n h0 h1 _ hp).mono ?_
  rintro e w1 ⟨rfl, k, os, rfl⟩
  go_wp2_with fail
  go_ret
  exact ⟨rfl, below_grow _ _ _⟩
theorem quoteB_snoc (c : UInt8) : ∀ s : Bg.Str, quoteB (s ++ [c]) = quoteB s ++ (if c = 39 then [39, 39] else [c])
  | [] => by by_cases h : c = 39 <;> simp [quoteB, h]
  | d :: s => by
    have ih := quoteB_snoc c s
    by_cases h : d = 39 <;> simp [quoteB, h, ih]
theorem own39 (acc : Bg.Str) : (acc ++ [39]).map byteV = acc.map byteV ++ [.int .u8 39] := by rw [List.map_append]; rfl
set_option maxRecDepth 100000 in
set_option maxHeartbeats 1000000 in
theorem w_text (s : Bg.Str) (hs : s.length ≤ 90000) (w : World) : Says 247 #[.string ⟨s.toArray⟩] (quote s) w := by
  have hex := Bg.ext_mk
  obtain ⟨i0, hi, hz0, hz1, hz2⟩ := info_parts Tryz.infoByte
  have hown0 : (w.alloc (.cells #[byteV 39] 5)).ownsRow w.heap.size 5 1 (.slice (some ⟨w.heap.size, 0, none⟩) 1 1) 1 [byteV 39] := World.ownsRow_lit w #[byteV 39] 1 (Nat.le_refl _) (by unfold maxLen; omega) rfl
  unfold Says
  go_enter Tryz.func247, Tryz.ntmps247
  go_wp2_with fail
  go_loopw [3, 4] (fun v i wr => ∃ (k : Nat) (acc : Bg.Str), k ≤ s.length ∧ acc.length ≤ 2 * k + 1 ∧ i = .int .i64 k ∧ wr.ownsRow w.heap.size 5 1 v acc.length (acc.map byteV) ∧ Below w.heap.size w wr ∧ Hid (acc = 39 :: quoteB (s.take k))) (fun _ i _ => s.length - (intOf i).toNat)
  case atStart => exact ⟨0, [39], by omega, by simp, rfl, hown0, wsum _, rfl⟩
  case round =>
    obtain ⟨k, acc, hk, hacc, rfl, hown, hB, hq⟩ := hrel
    by_cases hlt : k < s.length
    · have hsz : k < (ByteArray.mk s.toArray).size := hlt
      have HT : Hid (39 :: quoteB (s.take (k + 1)) = acc ++ (if s[k] = 39 then [39, 39] else [s[k]])) := by
        show _ = _
        rw [List.take_succ_eq_append_getElem hlt, quoteB_snoc, hq.out]; rfl
      clear hq
      by_cases hc : s[k] = 39
      · have hc' : (((ByteArray.mk s.toArray)[k]'hsz).toNat : Int) = 39 := by
          have : (ByteArray.mk s.toArray)[k]'hsz = 39 := hc
          rw [this]; rfl
        have HT2 : Hid (39 :: quoteB (s.take (k + 1)) = acc ++ [39] ++ [39]) := by show _ = _; rw [HT.out, if_pos hc]; simp
        have hb1 : (((ByteArray.mk s.toArray)[k]'hsz).toNat : Int) == 39 := by rw [hc']; rfl
        clear HT hc
        go_wp2_with (at_builtin; first | (refine wpList_append_own _ rfl _ _ 182 rfl w.heap.size 5 i0 (.int .u8 0) 1 1 Tryz.underlying182 hi hz0 hz1 hz2 rfl (by decide) _ _ _ rfl (hown.alloc _) ⟨wr.heap.size, 0, none⟩ 1 1 [.int .u8 39] rfl rfl (cell_one_new _ _ _) (by simp [Value.oneCell', byteV]) (by unfold maxLen; (try simp only [List.length_append, List.length_cons, List.length_nil]); omega) (by (try simp only [List.length_append, List.length_cons, List.length_nil]); omega) (by have := hB.size; simp; omega) ?_; intro v1 w1 hown1 hg1 _; have hown1 : w1.ownsRow w.heap.size 5 1 v1 (acc ++ [39]).length ((acc ++ [39]).map byteV) := (by rw [own39]; simpa using hown1); have hB1 := below_append hB hB.size hown hg1) | (refine wpList_append_own _ rfl _ _ 182 rfl w.heap.size 5 i0 (.int .u8 0) 1 1 Tryz.underlying182 hi hz0 hz1 hz2 rfl (by decide) _ _ _ rfl (hown1.alloc _) ⟨w1.heap.size, 0, none⟩ 1 1 [.int .u8 39] rfl rfl (cell_one_new _ _ _) (by simp [Value.oneCell', byteV]) (by unfold maxLen; (try simp only [List.length_append, List.length_cons, List.length_nil]); omega) (by (try simp only [List.length_append, List.length_cons, List.length_nil]); omega) (by have := hB1.size; simp; omega) ?_; intro v2 w2 hown2 hg2 _))
        have hown3 : w2.ownsRow w.heap.size 5 1 v2 (acc ++ [39] ++ [39]).length ((acc ++ [39] ++ [39]).map byteV) := by
          rw [own39]; simpa using hown2
        exact ⟨⟨k + 1, acc ++ [39] ++ [39], by omega, by simp; omega, by go_num, hown3, below_append hB1 hB1.size hown1 hg2, HT2.out.symm⟩, by simp [intOf] <;> omega⟩
      · have hc' : ((((ByteArray.mk s.toArray)[k]'hsz).toNat : Int) == 39) = false := by
          have h1 : (s[k]).toNat ≠ 39 := fun e => hc (UInt8.toNat_inj.1 e)
          have h2 : (((ByteArray.mk s.toArray)[k]'hsz).toNat : Int) ≠ 39 := fun e => h1 (by have : (((ByteArray.mk s.toArray)[k]'hsz)).toNat = 39 := by omega
                                                                                            exact this)
          simpa using h2
        have HT2 : Hid (39 :: quoteB (s.take (k + 1)) = acc ++ [s[k]]) := by show _ = _; rw [HT.out, if_neg hc]
        clear HT hc
        go_wp2_with (at_builtin; refine wpList_append_own _ rfl _ _ 182 rfl w.heap.size 5 i0 (.int .u8 0) 1 1 Tryz.underlying182 hi hz0 hz1 hz2 rfl (by decide) _ _ _ rfl (hown.alloc _) ⟨wr.heap.size, 0, none⟩ 1 1 [byteV ((ByteArray.mk s.toArray)[k]'hsz)] rfl rfl (cell_one_new _ _ _) (by simp [Value.oneCell', byteV]) (by unfold maxLen; (try simp only [List.length_append, List.length_cons, List.length_nil]); omega) (by (try simp only [List.length_append, List.length_cons, List.length_nil]); omega) (by have := hB.size; simp; omega) ?_; intro v1 w1 hown1 hg1 _)
        have hown3 : w1.ownsRow w.heap.size 5 1 v1 (acc ++ [s[k]]).length ((acc ++ [s[k]]).map byteV) := by
          have h2 : w1.ownsRow w.heap.size 5 1 v1 (acc.length + 1) (acc.map byteV ++ [byteV s[k]]) := hown1
          simpa using h2
        exact ⟨⟨k + 1, acc ++ [s[k]], by omega, by simp; omega, by go_num, hown3, below_append hB hB.size hown hg1, HT2.out.symm⟩, by simp [intOf] <;> omega⟩
    · obtain rfl : k = s.length := by omega
      have HF : Hid (quote s = acc ++ [39]) := by show _ = _; rw [hq.out]; unfold quote; rw [List.take_of_length_le (Nat.le_refl _)]; rfl
      clear hq
      go_wp2_with (at_builtin; refine wpList_append_own _ rfl _ _ 182 rfl w.heap.size 5 i0 (.int .u8 0) 1 1 Tryz.underlying182 hi hz0 hz1 hz2 rfl (by decide) _ _ _ rfl (hown.alloc _) ⟨wr.heap.size, 0, none⟩ 1 1 [.int .u8 39] rfl rfl (cell_one_new _ _ _) (by simp [Value.oneCell', byteV]) (by unfold maxLen; (try simp only [List.length_append, List.length_cons, List.length_nil]); omega) (by (try simp only [List.length_append, List.length_cons, List.length_nil]); omega) (by have := hB.size; simp; omega) ?_; intro v1 w1 hown1 hg1 _; have hown1 : w1.ownsRow w.heap.size 5 1 v1 (acc ++ [39]).length ((acc ++ [39]).map byteV) := (by rw [own39]; simpa using hown1); have hconv := own_string hown1)
      go_ret
      exact ⟨by first | (rw [HF.out]; done) | (rw [HF.out]; rfl) | simp [HF.out], below_append hB hB.size hown hg1⟩
end Gr
end Go.Proofs.YtfkdfplnhlnnoaaGreatDoor
end
section
namespace Go.Proofs.YtfkdfplnhlnnoaaGreatDoor
open Go.RowKit
namespace Gr
set_option linter.unusedSimpArgs false
set_option linter.unusedVariables false
open NT
/-- the pointers of a list of parts -/
def Ptrs (M N : Nat) (W : World) : Tr → List Value → Prop
  | .nil, [] => True
  | .cons h t, v :: vs => PtrAt M N W h v ∧ Ptrs M N W t vs
  | _, _ => False
theorem row_ptrs {M N : Nat} {W : World} {g : Nat} : ∀ {t : Tr} {o : Nat}, RowAt M N W t (some ⟨g, 0, none⟩) o → ∃ vs : List Value, vs.length = t.len ∧ Ptrs M N W t vs ∧ ∀ i (h : i < vs.length), W.cell? ⟨g, o + i, none⟩ = some vs[i]
  | .nil, o, _ => ⟨[], rfl, trivial, fun i h => by cases h⟩
  | .cons x t, o, h => by
    rw [RowAt] at h
    obtain ⟨⟨g', v, e, _, _, hc, hp⟩, hr⟩ := h
    cases e
    obtain ⟨vs, hl, hps, hcs⟩ := row_ptrs hr
    refine ⟨v :: vs, by simp [Tr.len, hl], ⟨hp, hps⟩, fun i hi => ?_⟩
    cases i with
    | zero => exact hc
    | succ i => have := hcs i (by simpa using hi); rw [show o + (i + 1) = o + 1 + i from by omega]; exact this
  | .node f k i fr g' w h', o, h => by simp [RowAt] at h
theorem ptrs_row {M N : Nat} {W : World} {g : Nat} (hM : g ≠ M) (hN : g ≠ N) : ∀ {t : Tr} {vs : List Value} {o : Nat}, Ptrs M N W t vs → (∀ i (h : i < vs.length), W.cell? ⟨g, o + i, none⟩ = some vs[i]) → RowAt M N W t (some ⟨g, 0, none⟩) o ∧ t.len = vs.length
  | .nil, [], o, _, _ => ⟨by simp [RowAt], rfl⟩
  | .cons x t, v :: vs, o, h, hc => by
    obtain ⟨h1, h2⟩ := ptrs_row (t := t) (vs := vs) (o := o + 1) hM hN h.2 (fun i hi => by have := hc (i + 1) (by simpa using hi); rw [show o + 1 + i = o + (i + 1) from by omega]; exact this)
    rw [RowAt]
    exact ⟨⟨⟨g, v, rfl, hM, hN, hc 0 (by simp), h.1⟩, h1⟩, by simp [Tr.len, h2]⟩
  | .nil, _ :: _, _, h, _ => by simp [Ptrs] at h
  | .cons _ _, [], _, h, _ => by simp [Ptrs] at h
  | .node _ _ _ _ _ _ _, [], _, h, _ => by simp [Ptrs] at h
  | .node _ _ _ _ _ _ _, _ :: _, _, h, _ => by simp [Ptrs] at h
theorem ptrs_snoc {M N : Nat} {W : World} {x : Tr} {v : Value} (hx : PtrAt M N W x v) : ∀ {t : Tr} {vs : List Value}, Ptrs M N W t vs → Ptrs M N W (t.snoc x) (vs ++ [v])
  | .nil, [], _ => ⟨hx, trivial⟩
  | .cons h t, u :: us, hp => ⟨hp.1, ptrs_snoc hx hp.2⟩
  | .nil, _ :: _, h => by simp [Ptrs] at h
  | .cons _ _, [], h => by simp [Ptrs] at h
  | .node _ _ _ _ _ _ _, [], h => by simp [Ptrs] at h
  | .node _ _ _ _ _ _ _, _ :: _, h => by simp [Ptrs] at h
theorem Ptrs.keep {M N : Nat} {W W' : World} (hk : Keep M W W') : ∀ {t : Tr} {vs : List Value}, Ptrs M N W t vs → Ptrs M N W' t vs
  | .nil, [], _ => trivial
  | .cons h t, u :: us, hp => ⟨hp.1.keep hk, Ptrs.keep hk hp.2⟩
  | .nil, _ :: _, h => by simp [Ptrs] at h
  | .cons _ _, [], h => by simp [Ptrs] at h
  | .node _ _ _ _ _ _ _, [], h => by simp [Ptrs] at h
  | .node _ _ _ _ _ _ _, _ :: _, h => by simp [Ptrs] at h
theorem ptr_one {M N : Nat} {W : World} {t : Tr} {v : Value} (h : PtrAt M N W t v) : v.oneCell' = true := by
  cases t with
  | nil => simp only [PtrAt] at h; subst h; rfl
  | cons x t => simp [PtrAt] at h
  | node f k i fr g w hh => rw [ptr_node] at h; obtain ⟨b, _, _, _, _, _, _, rfl, _⟩ := h; rfl
theorem ptrs_one {M N : Nat} {W : World} : ∀ {t : Tr} {vs : List Value}, Ptrs M N W t vs → ∀ u ∈ vs, u.oneCell' = true
  | .nil, [], _, u, hu => by cases hu
  | .cons h t, v :: vs, hp, u, hu => by
    rcases List.mem_cons.1 hu with rfl | hu
    · exact ptr_one hp.1
    · exact ptrs_one hp.2 u hu
  | .nil, _ :: _, h, _, _ => by simp [Ptrs] at h
  | .cons _ _, [], h, _, _ => by simp [Ptrs] at h
  | .node _ _ _ _ _ _ _, [], h, _, _ => by simp [Ptrs] at h
  | .node _ _ _ _ _ _ _, _ :: _, h, _, _ => by simp [Ptrs] at h
theorem Tryz.infoPtr : (Tryz.prog.info? 30).map (fun i => (i.zero, i.size, i.bytes)) = some (some (.pointer none), 1, 8) := by kernel_rfl
theorem snoc_len (y : Tr) : ∀ t : Tr, (t.snoc y).len = t.len + 1
  | .nil => rfl
  | .cons h t => by show (t.snoc y).len + 1 = _; rw [snoc_len y t]; rfl
  | .node _ _ _ _ _ _ _ => rfl
def isRow : NT → Bool | items => true | sources => true | columns => true | _ => false
theorem kids_le {k : NT} {a : List RW} {x : Tr} (h : D k a x) : isRow k = true → x.kids.len ≤ a.length := by
  have one : ∀ {k' : NT} {a : List RW} {y : Tr}, D k' a y → 1 ≤ a.length := fun h => by
    have := g_nil h.g
    rw [Ne, List.map_eq_nil_iff] at this
    exact List.length_pos_iff.2 this
  induction h <;> intro hk <;> first
    | (exact absurd hk (by decide))
    | (rename_i h1 _; exact one h1)
    | (rename_i h1 h2 ih1 ih2; have h3 := one h2; have h4 := ih1 rfl; simp only [nd, Tr.kids, snoc_len, List.length_append, List.length_cons] at *; omega)
/-- the kinds that are rows -/
structure RowK (one same : NT) : Prop where
  inv : ∀ l, G same l ↔ G one l ∨ ∃ a u b, l = a ++ u :: b ∧ u = T.comma ∧ G same a ∧ G one b
  d1 : ∀ a x, D one a x → D same a (nd { kind := [114, 111, 119] } (l1 x))
  d2 : ∀ a u b x y, tok u = T.comma → D same a x → D one b y → D same (a ++ u :: b) (nd { kind := [114, 111, 119] } (x.kids.snoc y))
  shape : ∀ a x, D same a x → ∃ h t, x = nd { kind := [114, 111, 119] } (.cons h t)
  rk : rk one < rk same
  isr : isRow same = true
theorem snoc_cons (t y : Tr) : ∃ h r, t.snoc y = .cons h r := by cases t <;> exact ⟨_, _, rfl⟩
theorem rowItems : RowK NT.item items := ⟨inv_items, fun _ _ h => .iOne h, fun _ _ _ _ _ h1 h2 h3 => .iMore h1 h2 h3, fun a x h => by
  cases h
  · exact ⟨_, _, rfl⟩
  · rename_i x y _ _ _; obtain ⟨h, r, e⟩ := snoc_cons x.kids y; exact ⟨h, r, by rw [e]⟩, by decide, rfl⟩
theorem rowSources : RowK source sources := ⟨inv_sources, fun _ _ h => .sOne h, fun _ _ _ _ _ h1 h2 h3 => .sMore h1 h2 h3, fun a x h => by
  cases h
  · exact ⟨_, _, rfl⟩
  · rename_i x y _ _ _; obtain ⟨h, r, e⟩ := snoc_cons x.kids y; exact ⟨h, r, by rw [e]⟩, by decide, rfl⟩
theorem rowColumns : RowK column columns := ⟨inv_columns, fun _ _ h => .cOne h, fun _ _ _ _ _ h1 h2 h3 => .cMore h1 h2 h3, fun a x h => by
  cases h
  · exact ⟨_, _, rfl⟩
  · rename_i x y _ _ _; obtain ⟨h, r, e⟩ := snoc_cons x.kids y; exact ⟨h, r, by rw [e]⟩, by decide, rfl⟩
set_option maxRecDepth 10000 in
set_option maxHeartbeats 1000000 in
theorem c_row (C M N : Nat) (ws : List RW) (m : Nat) (hI : Is C M N ws m) (one same : NT) (hR : RowK one same) (i j : Nat) (W : World) (h : Cut C M N ws W) (hi : i < j) (hj : j ≤ ws.length) (hm : (j - i) * 20 + rk one < m) :
    Calls Tryz.prog 83 #[.pointer (some ⟨C, 0, none⟩), .int .i64 (num one), .int .i64 (num same), .int .i64 i, .int .i64 j] W (Post C M N ws W (¬ G same (st (ws.map tok) i j)) (D same (sw ws i j))) := by
  have hlen := h.len
  have HL : Hid (j ≤ (ws.map tok).length) := by show j ≤ _; simpa using hj
  go_enter Tryz.func83, Tryz.ntmps83
  go_wp2_with fail
  refine (hI one i j _ h (by omega) (by omega) (by omega) (by simpa using hm)).mono ?_
  rintro e w1 ⟨v1, rfl, hC1, hK1, hF1⟩
  rw [Int.toNat_natCast] at hF1
  rcases hF1 with ⟨rfl, hno⟩ | ⟨b, t, rfl, hb, hp, hd⟩
  · have HNO : Hid (¬ G one (st (ws.map tok) i j)) := hno
    clear hno
    go_wp2_with fail
    go_loopg [12] (j - i) (fun gk pv wr => ∃ p : Nat, i + 1 ≤ p ∧ p ≤ j ∧ gk = j - p + 1 ∧ pv = .int .i64 p ∧ Cut C M N ws wr ∧ Keep M W wr ∧ NoTil same one (fun u => u = T.comma) (ws.map tok) i j p)
    case atStart => exact ⟨i + 1, by omega, by omega, by omega, rfl, hC1, hK1, HNO.out, fun q h1 h2 => by omega⟩
    case round =>
      obtain ⟨p, hp1, hp2, rfl, rfl, hC, hK, hno⟩ := hrel
      have HNT : Hid (NoTil same one (fun u => u = T.comma) (ws.map tok) i j p) := hno
      clear hno
      by_cases hlt : p < j
      · have HNX : Hid (NoCut same one (fun u => u = T.comma) (ws.map tok) i j p → NoTil same one (fun u => u = T.comma) (ws.map tok) i j (p + 1)) := fun hn => ⟨HNT.out.1, fun q h1 h2 => by
          by_cases e : q = p
          · subst e; exact hn
          · exact HNT.out.2 q h1 (by omega)⟩
        go_wp2_with fail
        refine (c_sign C M N ws (p : Int) _ _ hC (by omega) (by omega)).mono ?_
        rintro e w' ⟨rfl, rfl⟩
        cases hc : signAt ws (p : Int) [44] with
        | false =>
          have HN : Hid (NoCut same one (fun u => u = T.comma) (ws.map tok) i j p) := fun u hu hj => by
            subst hj; rw [(sign_at h.ok ([44], T.comma) (by decide) (by decide) p).2 hu] at hc; cases hc
          clear hc
          go_wp2_with fail
          go_roundg (j - (p + 1) + 1)
          case measure => omega
          case rel => exact ⟨p + 1, by omega, by omega, rfl, by exact vint (by omega), hC, hK, HNX.out HN.out⟩
        | true =>
          have HY := (sign_at h.ok ([44], T.comma) (by decide) (by decide) p).1 hc
          clear hc
          go_wp2_with fail
          refine (hI same i p _ hC (by omega) (by omega) (by omega) (by have := rk_lt same; simp; omega)).mono ?_
          rintro e w3 ⟨v3, rfl, hC3, hK3, hF3⟩
          rw [Int.toNat_natCast] at hF3
          go_wp2_with fail
          refine (hI one (p + 1) j _ hC3 (by omega) (by omega) (by omega) (by have := rk_lt one; simp; omega)).mono ?_
          rintro e w4 ⟨v4, rfl, hC4, hK4, hF4⟩
          rw [Int.toNat_natCast] at hF4
          have hKW := (hK.trans hK3).trans hK4
          rcases hF3 with ⟨rfl, hn3⟩ | ⟨b3, t3, rfl, hb3, hp3, hd3⟩
          · have HN3 : Hid (NoCut same one (fun u => u = T.comma) (ws.map tok) i j p) := fun u _ _ h _ => hn3 h
            clear hn3
            go_wp2_with fail
            go_roundg (j - (p + 1) + 1)
            case measure => omega
            case rel => exact ⟨p + 1, by omega, by omega, rfl, by exact vint (by omega), hC4, hKW, HNX.out HN3.out⟩
          · rcases hF4 with ⟨rfl, hn4⟩ | ⟨b4, t4, rfl, hb4, hp4, hd4⟩
            · have HN4 : Hid (NoCut same one (fun u => u = T.comma) (ws.map tok) i j p) := fun u _ _ _ => hn4
              clear hn4
              go_wp2_with fail
              go_roundg (j - (p + 1) + 1)
              case measure => omega
              case rel => exact ⟨p + 1, by omega, by omega, rfl, by exact vint (by omega), hC4, hKW, HNX.out HN4.out⟩
            · have hp3' := hp3.keep hK4
              have hkl := kids_le hd3 hR.isr
              have hsl : (sw ws i p).length ≤ 400 := by unfold sw; rw [List.length_take, List.length_drop]; omega
              obtain ⟨x0, t0, ex⟩ := hR.shape _ _ hd3
              subst ex
              have hpn := hp3'
              unfold nd at hpn
              rw [ptr_node] at hpn
              obtain ⟨b, vk, vi, vf, vg, vw, vh, eb, hbM, hbN, hob, ⟨ak, ck, ek, hrow⟩, _⟩ := hpn
              cases eb
              subst ek
              obtain ⟨gk, eg⟩ : ∃ gk, ak = some ⟨gk, 0, none⟩ := by
                rw [RowAt] at hrow
                obtain ⟨⟨g, v, e, _⟩, _⟩ := hrow
                exact ⟨g, e⟩
              subst eg
              obtain ⟨vs, hvl, hps, hcs⟩ := row_ptrs hrow
              have hkl' : (Tr.cons x0 t0).len ≤ 400 := by simp only [nd, Tr.kids] at hkl; omega
              have c10 : w4.cell? ⟨b3, 10, none⟩ = some (.slice (some ⟨gk, 0, none⟩) (Tr.cons x0 t0).len ck) := by simp [World.cell?, hob, cellsT]
              obtain ⟨i0, hi0, hz0, hz1, hz2⟩ := info_parts Tryz.infoPtr
              have HVS : Hid (∀ u ∈ vs, u.oneCell' = true) := ptrs_one hps
              have HCS : Hid (∀ q u, vs[q]? = some u → w4.cell? ((⟨gk, 0, none⟩ : Addr).add q) = some u) := fun q u e => by
                obtain ⟨hq, e2⟩ := List.getElem?_eq_some_iff.1 e
                have := hcs q hq
                rw [Addr.add_lit]
                simpa [e2] using this
              have HPS : Hid (Ptrs M N w4 (.cons x0 t0) vs) := hps
              have hM := hC4.mlt
              have hN := hC4.nlt
              generalize hLn : (Tr.cons x0 t0).len = L at *
              clear hps hcs hrow hob
              go_wp2_with (at_builtin; first
                | (refine wpList_append_own _ rfl _ _ 62 rfl w4.heap.size 30 i0 (.pointer none) 1 8 Tryz.underlying62 hi0 hz0 hz1 hz2 rfl (by decide) _ _ _ rfl (World.ownsRow_nil _ _ _ _) ⟨gk, 0, none⟩ L ck vs rfl (by rw [hvl, Nat.mul_one]) HCS.out HVS.out (by unfold maxLen; omega) (by omega) (Nat.le_refl _) ?_; intro va wA hownA hgrowA _; have hBA : Below w4.heap.size w4 wA := (Below.refl _ _).grown hgrowA (Nat.le_refl _) (fun k e => by cases e))
                | (refine wpList_append_own _ rfl _ _ 62 rfl w4.heap.size 30 i0 (.pointer none) 1 8 Tryz.underlying62 hi0 hz0 hz1 hz2 rfl (by decide) _ _ _ rfl (hownA.alloc _) ⟨wA.heap.size, 0, none⟩ 1 1 [.pointer (some ⟨b4, 0, none⟩)] rfl rfl (cell_one_new _ _ _) (by simp [Value.oneCell']) (by unfold maxLen; omega) (by omega) (by have := hBA.size; simp; omega) ?_; intro vb wB hownB hgrowB _; obtain ⟨gb, cb, hgbB, ebv⟩ : ∃ gb cb, w4.heap.size ≤ gb ∧ vb = .slice (some ⟨gb, 0, none⟩) (0 + L + 1) cb := (by rcases hownB.2 with ⟨_, h0⟩ | ⟨gb, cb, cur, e, hgb, _⟩; (exact absurd h0 (by omega)); exact ⟨gb, cb, hgb, e⟩); subst ebv))
              have hBB : Below w4.heap.size w4 wB := (hBA.alloc hBA.size _).grown hgrowB (by have := hBA.size; simp; omega) (fun k e => (hownA.lt k e).1)
              go_ret
              have hCB := hC4.below hBB
              have hKB : Keep M w4 wB := Keep.of_below hBB
              rw [List.nil_append] at hownB
              have hPB : Ptrs M N wB ((Tr.cons x0 t0).snoc t4) (vs ++ [.pointer (some ⟨b4, 0, none⟩)]) := ptrs_snoc (hp4.keep hKB) (HPS.out.keep hKB)
              have hSB : SlAt M N wB ((Tr.cons x0 t0).snoc t4) (.slice (some ⟨gb, 0, none⟩) (L + 1) cb) := by
                obtain ⟨r1, r2⟩ := ptrs_row (o := 0) (g := gb) (by omega) (by omega) hPB (fun q hq => by
                  have := hownB.cells (g := gb) rfl q _ (List.getElem?_eq_getElem hq)
                  rw [Addr.add_lit] at this
                  exact this)
                refine ⟨_, cb, ?_, r1⟩
                rw [snoc_len, hLn]
              refine ⟨_, rfl, hCB.alloc _, (hKW.trans hKB).trans (Keep.alloc M _ _), .inr ⟨_, _, rfl, ?_, mk_nd (f := { kind := [114, 111, 119] }) hCB.mlt hCB.nlt hSB, ?_⟩⟩
              · have := hCB.nlt; omega
              · obtain ⟨hpl, htp⟩ := tok_get HY
                have e := hR.d2 _ ws[p] _ _ _ htp hd3 hd4
                rw [sw_split ws (i := i) (p := p) (by omega) hlt hj]
                exact e
      · go_wp2_with fail
        go_ret
        exact ⟨_, rfl, hC, hK, .inl ⟨rfl, noTil_all HL.out hR.inv (by rw [show j = p from by omega]; have := HNT.out; rw [show j = p from by omega] at this; exact this)⟩⟩
  · go_wp2_with fail
    go_ret
    refine ⟨_, rfl, (hC1.alloc _).alloc _, (hK1.trans (Keep.alloc M _ _)).trans (Keep.alloc M _ _), .inr ⟨_, _, rfl, ?_, mk_nd1 hC1.mlt hC1.nlt { kind := [114, 111, 119] } hp, hR.d1 _ _ hd⟩⟩
    have := hC1.nlt; simp; omega
end Gr
end Go.Proofs.YtfkdfplnhlnnoaaGreatDoor
end
