import Derived.Test.YtfkdfplnhlnnoaaGreatDoorBgCuI
import Derived.Test.YtfkdfplnhlnnoaaGreatDoorBgJa29
namespace Go.Proofs.YtfkdfplnhlnnoaaGreatDoor
open Go.RowKit
namespace Gr
set_option linter.unusedSimpArgs false
set_option linter.unusedVariables false
open NT
/-- no cut at a place: by a word (one), by group by (two) -/
def NoCutT (first : NT) (one : Option (T × NT)) (two : Bool) (w : List T) (i j q : Nat) : Prop := (∀ u n, one = some (u, n) → w[q]? = some u → G first (st w i q) → ¬ G n (st w (q + 1) j)) ∧ (two = true → w[q]? = some T.group → w[q + 1]? = some T.by_ → G first (st w i q) → ¬ G grouped (st w (q + 2) j))
def NoTilT (first : NT) (one : Option (T × NT)) (two : Bool) (w : List T) (i j p : Nat) : Prop := ¬ G first (st w i j) ∧ ∀ q, i < q → q < p → NoCutT first one two w i j q
theorem noTilT_all {k first : NT} {one : Option (T × NT)} {two : Bool} {w : List T} {i j : Nat} (hj : j ≤ w.length)
    (hinv : ∀ l, G k l → G first l ∨ (∃ u n a b, one = some (u, n) ∧ l = a ++ u :: b ∧ G first a ∧ G n b) ∨ (two = true ∧ ∃ a b, l = a ++ T.group :: T.by_ :: b ∧ G first a ∧ G grouped b)) (h : NoTilT first one two w i j j) : ¬ G k (st w i j) := by
  intro hg
  have hlt : ∀ {p : Nat}, G first (st w i p) → i < p := fun {p} ha => by
    have hne := g_nil ha
    by_cases hh : i < p
    · exact hh
    · rw [st_nil w (by omega)] at hne; exact absurd rfl hne
  rcases hinv _ hg with h1 | ⟨u, n, a, b, e0, e, ha, hb⟩ | ⟨e0, a, b, e, ha, hb⟩
  · exact h.1 h1
  · obtain ⟨p, p1, p2, rfl, p3, rfl⟩ := st_of hj e
    exact (h.2 p (hlt ha) p2).1 u n e0 p3 ha hb
  · obtain ⟨p, p1, p2, rfl, p3, p4⟩ := st_of hj e
    have hpj : p + 1 < j := by
      by_cases hh : p + 1 < j
      · exact hh
      · rw [st_nil w (by omega)] at p4; cases p4
    rw [st_cons w hpj hj] at p4
    obtain ⟨e1, rfl⟩ := List.cons.inj p4
    exact (h.2 p (hlt ha) p2).2 e0 p3 (by rw [List.getElem?_eq_getElem (by omega), e1]) ha hb
theorem invT_tail (l : List T) (h : G tail l) : G sources l ∨ (∃ u n a b, some (T.where_, after) = some (u, n) ∧ l = a ++ u :: b ∧ G sources a ∧ G n b) ∨ (true = true ∧ ∃ a b, l = a ++ T.group :: T.by_ :: b ∧ G sources a ∧ G grouped b) := by
  rcases (inv_tail l).1 h with h | ⟨a, b, e, h1, h2⟩ | ⟨a, b, e, h1, h2⟩
  · exact .inl h
  · exact .inr (.inl ⟨_, _, a, b, rfl, e, h1, h2⟩)
  · exact .inr (.inr ⟨rfl, a, b, e, h1, h2⟩)
theorem invT_after (l : List T) (h : G after l) : G cnd l ∨ (∃ u n a b, (none : Option (T × NT)) = some (u, n) ∧ l = a ++ u :: b ∧ G cnd a ∧ G n b) ∨ (true = true ∧ ∃ a b, l = a ++ T.group :: T.by_ :: b ∧ G cnd a ∧ G grouped b) := by
  rcases (inv_after l).1 h with h | ⟨a, b, e, h1, h2⟩
  · exact .inl h
  · exact .inr (.inr ⟨rfl, a, b, e, h1, h2⟩)
theorem invT_grouped (l : List T) (h : G grouped l) : G columns l ∨ (∃ u n a b, some (T.having, cnd) = some (u, n) ∧ l = a ++ u :: b ∧ G columns a ∧ G n b) ∨ (false = true ∧ ∃ a b, l = a ++ T.group :: T.by_ :: b ∧ G columns a ∧ G grouped b) := by
  rcases (inv_grouped l).1 h with h | ⟨a, b, e, h1, h2⟩
  · exact .inl h
  · exact .inr (.inl ⟨_, _, a, b, rfl, e, h1, h2⟩)
theorem key_case {ws : List RW} (ok : ∀ w ∈ ws, Ok1 w) (p : Nat) :
    (keyAt ws (p : Int) [119, 104, 101, 114, 101] = true ∧ keyAt ws (p : Int) [103, 114, 111, 117, 112] = false ∧ keyAt ws (p : Int) [104, 97, 118, 105, 110, 103] = false) ∨
    (keyAt ws (p : Int) [119, 104, 101, 114, 101] = false ∧ keyAt ws (p : Int) [103, 114, 111, 117, 112] = true ∧ keyAt ws (p : Int) [104, 97, 118, 105, 110, 103] = false) ∨
    (keyAt ws (p : Int) [119, 104, 101, 114, 101] = false ∧ keyAt ws (p : Int) [103, 114, 111, 117, 112] = false ∧ keyAt ws (p : Int) [104, 97, 118, 105, 110, 103] = true) ∨
    (keyAt ws (p : Int) [119, 104, 101, 114, 101] = false ∧ keyAt ws (p : Int) [103, 114, 111, 117, 112] = false ∧ keyAt ws (p : Int) [104, 97, 118, 105, 110, 103] = false) := by
  have h1 := key_at ok ([119, 104, 101, 114, 101], T.where_) (by decide) (by decide) p
  have h2 := key_at ok ([103, 114, 111, 117, 112], T.group) (by decide) (by decide) p
  have h3 := key_at ok ([104, 97, 118, 105, 110, 103], T.having) (by decide) (by decide) p
  simp only at h1 h2 h3
  cases e1 : keyAt ws (p : Int) [119, 104, 101, 114, 101] <;> cases e2 : keyAt ws (p : Int) [103, 114, 111, 117, 112] <;> cases e3 : keyAt ws (p : Int) [104, 97, 118, 105, 110, 103] <;> simp
  · rw [h2.1 e2] at h3; have := h3.1 e3; simp at this
  · rw [h1.1 e1] at h3; have := h3.1 e3; simp at this
  · rw [h1.1 e1] at h2; have := h2.1 e2; simp at this
  · rw [h1.1 e1] at h2; have := h2.1 e2; simp at this
/-- what a tail's part holds -/
def BOk (M N : Nat) (W : World) (b : Nat) (f g w v : Tr) : Prop := b ≠ M ∧ ∃ af cf ag cg ow ov, W.cell? ⟨b, 12, none⟩ = some (.slice af f.len cf) ∧ W.cell? ⟨b, 13, none⟩ = some (.slice ag g.len cg) ∧ W.cell? ⟨b, 14, none⟩ = some (.pointer ow) ∧ W.cell? ⟨b, 15, none⟩ = some (.pointer ov) ∧
    SlAt M N W f (.slice af f.len cf) ∧ SlAt M N W g (.slice ag g.len cg) ∧ PtrAt M N W w (.pointer ow) ∧ PtrAt M N W v (.pointer ov)
theorem BOk.keep {M N : Nat} {W W' : World} {b : Nat} {f g w v : Tr} (h : BOk M N W b f g w v) (hk : Keep M W W') : BOk M N W' b f g w v := by
  obtain ⟨hb, af, cf, ag, cg, ow, ov, c1, c2, c3, c4, s1, s2, s3, s4⟩ := h
  exact ⟨hb, af, cf, ag, cg, ow, ov, hk.cell hb c1, hk.cell hb c2, hk.cell hb c3, hk.cell hb c4, s1.keep hk, s2.keep hk, s3.keep hk, s4.keep hk⟩
theorem bok_tail {M N : Nat} {W : World} {f g w v : Tr} {b : Nat} (h : PtrAt M N W (tailT f g w v) (.pointer (some ⟨b, 0, none⟩))) : BOk M N W b f g w v := by
  refine ⟨?_, tail_cells h⟩
  unfold tailT at h
  rw [ptr_node] at h
  obtain ⟨b', _, _, _, _, _, _, e, h1, _⟩ := h
  cases e; exact h1
theorem cells_at {w : World} {b : Nat} {cs : Array Value} {ty : TypeId} (h : w.heap[b]? = some (.cells cs ty (0, 0))) (k : Nat) : w.cell? ⟨b, k, none⟩ = cs[k]? := by simp [World.cell?, h]
theorem bok_new {M N : Nat} {W : World} (hM : M < W.heap.size) (fl : Fl) (vk vi : Value) {v : Tr} {o : Option Addr} (hv : PtrAt M N W v (.pointer o)) :
    BOk M N (W.alloc (.cells (cellsT fl vk vi (.slice none 0 0) (.slice none 0 0) (.pointer none) (.pointer o)) NTree)) W.heap.size .nil .nil .nil v := by
  have h3 := heap_alloc_new W (.cells (cellsT fl vk vi (.slice none 0 0) (.slice none 0 0) (.pointer none) (.pointer o)) NTree)
  exact ⟨by omega, none, 0, none, 0, none, o, (cells_at h3 12).trans rfl, (cells_at h3 13).trans rfl, (cells_at h3 14).trans rfl, (cells_at h3 15).trans rfl, SlAt.nil _ _ _, SlAt.nil _ _ _, PtrAt.nil _ _ _, hv.keep (Keep.alloc M _ _)⟩
/-- the loop's a and b -/
def TInv (M N : Nat) (ws : List RW) (k first : NT) (one : Option (T × NT)) (two : Bool) (fin : Tr → Tr → Tr → Tr → Tr → Tr) (i j p : Nat) (W : World) (av bv : Value) : Prop :=
  (av = .pointer none ∧ (∃ o, bv = .pointer o) ∧ NoTilT first one two (ws.map tok) i j p) ∨
  ∃ ba bb ta f g w v, av = .pointer (some ⟨ba, 0, none⟩) ∧ ba ≠ N ∧ PtrAt M N W ta av ∧ bv = .pointer (some ⟨bb, 0, none⟩) ∧ BOk M N W bb f g w v ∧ (∃ l, D first l ta) ∧ D k (sw ws i j) (fin ta f g w v)
theorem after_shape {a : List RW} {x : Tr} (h : D after a x) : ∃ f g w v, x = tailT f g w v := by cases h <;> exact ⟨_, _, _, _, rfl⟩
theorem grouped_shape {a : List RW} {x : Tr} (h : D grouped a x) : ∃ f g w v, x = tailT f g w v := by cases h <;> exact ⟨_, _, _, _, rfl⟩
theorem sources_shape {a : List RW} {x : Tr} (h : D sources a x) : ∃ k, x = nd { kind := [114, 111, 119] } k := by cases h <;> exact ⟨_, rfl⟩
theorem columns_shape {a : List RW} {x : Tr} (h : D columns a x) : ∃ k, x = nd { kind := [114, 111, 119] } k := by cases h <;> exact ⟨_, rfl⟩
theorem sw_two (w : List RW) {i p j : Nat} (hi : i ≤ p) (hp : p + 1 < j) (hj : j ≤ w.length) : sw w i j = sw w i p ++ w[p]'(by omega) :: w[p + 1]'(by omega) :: sw w (p + 2) j := by
  rw [sw_split w hi (by omega) hj, sw_cons w hp hj]
theorem d_lt {k : NT} {ws : List RW} {i j : Nat} {x : Tr} (h : D k (sw ws i j) x) : i < j := by
  have hne := g_nil h.g
  by_cases hh : i < j
  · exact hh
  · rw [sw_nil ws (by omega)] at hne; exact absurd rfl hne
set_option maxRecDepth 10000 in
set_option maxHeartbeats 4000000 in
theorem c_tail_t (C M N : Nat) (ws : List RW) (m : Nat) (hI : Is C M N ws m) (i j : Nat) (W : World) (h : Cut C M N ws W) (hi : i < j) (hj : j ≤ ws.length) (hm : (j - i) * 20 + 1 < m) :
    Calls Tryz.prog 82 #[.pointer (some ⟨C, 0, none⟩), .int .i64 2, .int .i64 i, .int .i64 j] W (Post C M N ws W (¬ G tail (st (ws.map tok) i j)) (D tail (sw ws i j))) := by
  have hlen := h.len
  have HL : Hid (j ≤ (ws.map tok).length) := by show j ≤ _; simpa using hj
  go_enter Tryz.func82, Tryz.ntmps82
  go_wp2_with fail
  refine (hI sources i j _ h (by omega) (by omega) (by omega) (by simp [rk]; omega)).mono ?_
  rintro e w1 ⟨v1, rfl, hC1, hK1, hF1⟩
  rw [Int.toNat_natCast] at hF1
  go_wp2_with fail
  go_loopg [10, 11, 12] (j - i) (fun gk av bv pv wr => ∃ p : Nat, i + 1 ≤ p ∧ p ≤ j ∧ gk = j - p + 1 ∧ pv = .int .i64 p ∧ Cut C M N ws wr ∧ Keep M W wr ∧ TInv M N ws tail sources (some (T.where_, after)) true (fun ta f g w v => tailT ta.kids g w v) i j p wr av bv)
  case atStart =>
    refine ⟨i + 1, by omega, by omega, by omega, rfl, hC1.alloc _, hK1.trans (Keep.alloc M _ _), ?_⟩
    rcases hF1 with ⟨e, hn⟩ | ⟨b, t, e, hb, hp, hd⟩
    · exact .inl ⟨e, ⟨_, rfl⟩, hn, fun q h1 h2 => by omega⟩
    · exact .inr ⟨b, _, t, .nil, .nil, .nil, .nil, e, hb, hp.keep (Keep.alloc M _ _), rfl, bok_new hC1.mlt {} (.slice none 0 0) (.slice none 0 0) (PtrAt.nil _ _ _), ⟨_, hd⟩, .tSrc hd⟩
  case round =>
    obtain ⟨p, hp1, hp2, rfl, rfl, hC, hK, hA⟩ := hrel
    rcases hA with ⟨rfl, ⟨ob, rfl⟩, hno⟩ | ⟨ba, bb, ta, f, g, w, v, rfl, hba, hpa, rfl, hbb, ⟨sa, hsa⟩, hd⟩
    · by_cases hlt : p < j
      · have HNX : Hid (NoCutT sources (some (T.where_, after)) true (ws.map tok) i j p → NoTilT sources (some (T.where_, after)) true (ws.map tok) i j (p + 1)) := fun hn => ⟨hno.1, fun q h1 h2 => by
          by_cases e : q = p
          · subst e; exact hn
          · exact hno.2 q h1 (by omega)⟩
        clear hno
        have c1 := fun s => c_key C M N ws (p : Int) s wr hC (by omega) (by omega)
        have c2 := fun s => c_key C M N ws ((p + 1 : Nat) : Int) s wr hC (by omega) (by omega)
        rcases key_case h.ok p with ⟨kw, kg, kh⟩ | ⟨kw, kg, kh⟩ | ⟨kw, kg, kh⟩ | ⟨kw, kg, kh⟩
        · -- where
          have HY := (key_at h.ok ([119, 104, 101, 114, 101], T.where_) (by decide) (by decide) p).1 kw
          go_wp2_with fail
          refine (c1 _).mono ?_
          rintro e w' ⟨rfl, rfl⟩
          try simp only [kw, kg, kh]
          go_wp2_with fail
          refine (c1 _).mono ?_
          rintro e w' ⟨rfl, rfl⟩
          try simp only [kw, kg, kh]
          go_wp2_with fail
          refine (c1 _).mono ?_
          rintro e w' ⟨rfl, rfl⟩
          try simp only [kw, kg, kh]
          go_wp2_with fail
          refine (hI after (p + 1) j _ hC (by omega) (by omega) (by omega) (by simp [rk]; omega)).mono ?_
          rintro e w3 ⟨v3, rfl, hC3, hK3, hF3⟩
          rw [Int.toNat_natCast] at hF3
          rcases hF3 with ⟨rfl, hn3⟩ | ⟨b3, t3, rfl, hb3, hp3, hd3⟩
          · have HN : Hid (NoCutT sources (some (T.where_, after)) true (ws.map tok) i j p) := ⟨(fun u n e _ _ => by cases e; exact hn3), (fun _ hu => absurd hu (fun e => by rw [(key_at h.ok ([103, 114, 111, 117, 112], T.group) (by decide) (by decide) p).2 e] at kg; cases kg))⟩
            clear hn3
            go_wp2_with fail
            go_roundg (j - (p + 1) + 1)
            case measure => omega
            case rel => exact ⟨p + 1, by omega, by omega, rfl, by exact vint (by omega), hC3, (hK.trans hK3), .inl ⟨rfl, ⟨_, rfl⟩, HNX.out HN.out⟩⟩
          · go_wp2_with fail
            refine (hI sources i p _ (hC3) (by omega) (by omega) (by omega) (by simp [rk]; omega)).mono ?_
            rintro e w4 ⟨v4, rfl, hC4, hK4, hF4⟩
            rw [Int.toNat_natCast] at hF4
            have hKW := ((hK.trans hK3)).trans hK4
            rcases hF4 with ⟨rfl, hn4⟩ | ⟨b4, t4, rfl, hb4, hp4, hd4⟩
            · have HN : Hid (NoCutT sources (some (T.where_, after)) true (ws.map tok) i j p) := ⟨(fun u n e _ h => absurd h hn4), (fun _ hu => absurd hu (fun e => by rw [(key_at h.ok ([103, 114, 111, 117, 112], T.group) (by decide) (by decide) p).2 e] at kg; cases kg))⟩
              clear hn4
              go_wp2_with fail
              go_roundg (j - (p + 1) + 1)
              case measure => omega
              case rel => exact ⟨p + 1, by omega, by omega, rfl, by exact vint (by omega), hC4, hKW, .inl ⟨rfl, ⟨_, rfl⟩, HNX.out HN.out⟩⟩
            · obtain ⟨tf, tg, tw, tv, et⟩ := after_shape hd3
              subst et
              have HB : Hid (BOk M N w4 _ tf tg tw tv) := (bok_tail hp3).keep hK4
              go_wp2_with fail
              go_roundg (j - (p + 1) + 1)
              case measure => omega
              case rel =>
                refine ⟨p + 1, by omega, by omega, rfl, by exact vint (by omega), hC4, hKW, .inr ⟨b4, _, t4, tf, tg, tw, tv, rfl, hb4, hp4, rfl, HB.out, ⟨_, hd4⟩, ?_⟩⟩
                obtain ⟨hpl, htp⟩ := tok_get HY
                rw [sw_split ws (i := i) (p := p) (by omega) hlt hj]
                exact .tWhere htp hd4 hd3
        · -- group
          cases kb : keyAt ws ((p + 1 : Nat) : Int) [98, 121] with
          | false =>
            have HN : Hid (NoCutT sources (some (T.where_, after)) true (ws.map tok) i j p) := ⟨(fun u n e hu => by cases e; exact absurd hu (fun e => by rw [(key_at h.ok ([119, 104, 101, 114, 101], T.where_) (by decide) (by decide) p).2 e] at kw; cases kw)), (fun _ _ hb => absurd hb (fun e => by rw [(key_at h.ok ([98, 121], T.by_) (by decide) (by decide) (p + 1)).2 e] at kb; cases kb))⟩
            go_wp2_with fail
            refine (c1 _).mono ?_
            rintro e w' ⟨rfl, rfl⟩
            try simp only [kw, kg, kh, kb]
            go_wp2_with fail
            refine (c1 _).mono ?_
            rintro e w' ⟨rfl, rfl⟩
            try simp only [kw, kg, kh, kb]
            go_wp2_with fail
            refine (c2 _).mono ?_
            rintro e w' ⟨rfl, rfl⟩
            try simp only [kw, kg, kh, kb]
            go_wp2_with fail
            refine (c1 _).mono ?_
            rintro e w' ⟨rfl, rfl⟩
            try simp only [kw, kg, kh, kb]
            go_wp2_with fail
            go_roundg (j - (p + 1) + 1)
            case measure => omega
            case rel => exact ⟨p + 1, by omega, by omega, rfl, by exact vint (by omega), hC, hK, .inl ⟨rfl, ⟨_, rfl⟩, HNX.out HN.out⟩⟩
          | true =>
            have HY := (key_at h.ok ([103, 114, 111, 117, 112], T.group) (by decide) (by decide) p).1 kg
            have HY2 := (key_at h.ok ([98, 121], T.by_) (by decide) (by decide) (p + 1)).1 kb
            go_wp2_with fail
            refine (c1 _).mono ?_
            rintro e w' ⟨rfl, rfl⟩
            try simp only [kw, kg, kh, kb]
            go_wp2_with fail
            refine (c1 _).mono ?_
            rintro e w' ⟨rfl, rfl⟩
            try simp only [kw, kg, kh, kb]
            go_wp2_with fail
            refine (c2 _).mono ?_
            rintro e w' ⟨rfl, rfl⟩
            try simp only [kw, kg, kh, kb]
            go_wp2_with fail
            refine (c1 _).mono ?_
            rintro e w' ⟨rfl, rfl⟩
            try simp only [kw, kg, kh, kb]
            go_wp2_with fail
            refine (hI grouped (p + 2) j _ hC (by omega) (by omega) (by omega) (by simp [rk]; omega)).mono ?_
            rintro e w3 ⟨v3, rfl, hC3, hK3, hF3⟩
            rw [Int.toNat_natCast] at hF3
            rcases hF3 with ⟨rfl, hn3⟩ | ⟨b3, t3, rfl, hb3, hp3, hd3⟩
            · have HN : Hid (NoCutT sources (some (T.where_, after)) true (ws.map tok) i j p) := ⟨(fun u n e hu => by cases e; exact absurd hu (fun e => by rw [(key_at h.ok ([119, 104, 101, 114, 101], T.where_) (by decide) (by decide) p).2 e] at kw; cases kw)), (fun _ _ _ _ => hn3)⟩
              clear hn3
              go_wp2_with fail
              go_roundg (j - (p + 1) + 1)
              case measure => omega
              case rel => exact ⟨p + 1, by omega, by omega, rfl, by exact vint (by omega), hC3, (hK.trans hK3), .inl ⟨rfl, ⟨_, rfl⟩, HNX.out HN.out⟩⟩
            · go_wp2_with fail
              refine (hI sources i p _ (hC3) (by omega) (by omega) (by omega) (by simp [rk]; omega)).mono ?_
              rintro e w4 ⟨v4, rfl, hC4, hK4, hF4⟩
              rw [Int.toNat_natCast] at hF4
              have hKW := ((hK.trans hK3)).trans hK4
              rcases hF4 with ⟨rfl, hn4⟩ | ⟨b4, t4, rfl, hb4, hp4, hd4⟩
              · have HN : Hid (NoCutT sources (some (T.where_, after)) true (ws.map tok) i j p) := ⟨(fun u n e hu => by cases e; exact absurd hu (fun e => by rw [(key_at h.ok ([119, 104, 101, 114, 101], T.where_) (by decide) (by decide) p).2 e] at kw; cases kw)), (fun _ _ _ h => absurd h hn4)⟩
                clear hn4
                go_wp2_with fail
                go_roundg (j - (p + 1) + 1)
                case measure => omega
                case rel => exact ⟨p + 1, by omega, by omega, rfl, by exact vint (by omega), hC4, hKW, .inl ⟨rfl, ⟨_, rfl⟩, HNX.out HN.out⟩⟩
              · obtain ⟨tf, tg, tw, tv, et⟩ := grouped_shape hd3
                subst et
                have HB : Hid (BOk M N w4 _ tf tg tw tv) := (bok_tail hp3).keep hK4
                go_wp2_with fail
                go_roundg (j - (p + 1) + 1)
                case measure => omega
                case rel =>
                  refine ⟨p + 1, by omega, by omega, rfl, by exact vint (by omega), hC4, hKW, .inr ⟨b4, _, t4, tf, tg, tw, tv, rfl, hb4, hp4, rfl, HB.out, ⟨_, hd4⟩, ?_⟩⟩
                  obtain ⟨hpl, htp⟩ := tok_get HY
                  obtain ⟨hpl2, htp2⟩ := tok_get HY2
                  have hlt2 := d_lt hd3
                  rw [sw_two ws (i := i) (p := p) (by omega) (by omega) hj]
                  exact .tGroup htp htp2 hd4 hd3
        · -- having
          have HN : Hid (NoCutT sources (some (T.where_, after)) true (ws.map tok) i j p) := ⟨(fun u n e hu => by cases e; exact absurd hu (fun e => by rw [(key_at h.ok ([119, 104, 101, 114, 101], T.where_) (by decide) (by decide) p).2 e] at kw; cases kw)), (fun _ hu => absurd hu (fun e => by rw [(key_at h.ok ([103, 114, 111, 117, 112], T.group) (by decide) (by decide) p).2 e] at kg; cases kg))⟩
          go_wp2_with fail
          refine (c1 _).mono ?_
          rintro e w' ⟨rfl, rfl⟩
          try simp only [kw, kg, kh]
          go_wp2_with fail
          refine (c1 _).mono ?_
          rintro e w' ⟨rfl, rfl⟩
          try simp only [kw, kg, kh]
          go_wp2_with fail
          refine (c1 _).mono ?_
          rintro e w' ⟨rfl, rfl⟩
          try simp only [kw, kg, kh]
          go_wp2_with fail
          go_roundg (j - (p + 1) + 1)
          case measure => omega
          case rel => exact ⟨p + 1, by omega, by omega, rfl, by exact vint (by omega), hC, hK, .inl ⟨rfl, ⟨_, rfl⟩, HNX.out HN.out⟩⟩
        · -- none
          have HN : Hid (NoCutT sources (some (T.where_, after)) true (ws.map tok) i j p) := ⟨(fun u n e hu => by cases e; exact absurd hu (fun e => by rw [(key_at h.ok ([119, 104, 101, 114, 101], T.where_) (by decide) (by decide) p).2 e] at kw; cases kw)), (fun _ hu => absurd hu (fun e => by rw [(key_at h.ok ([103, 114, 111, 117, 112], T.group) (by decide) (by decide) p).2 e] at kg; cases kg))⟩
          go_wp2_with fail
          refine (c1 _).mono ?_
          rintro e w' ⟨rfl, rfl⟩
          try simp only [kw, kg, kh]
          go_wp2_with fail
          refine (c1 _).mono ?_
          rintro e w' ⟨rfl, rfl⟩
          try simp only [kw, kg, kh]
          go_wp2_with fail
          refine (c1 _).mono ?_
          rintro e w' ⟨rfl, rfl⟩
          try simp only [kw, kg, kh]
          go_wp2_with fail
          go_roundg (j - (p + 1) + 1)
          case measure => omega
          case rel => exact ⟨p + 1, by omega, by omega, rfl, by exact vint (by omega), hC, hK, .inl ⟨rfl, ⟨_, rfl⟩, HNX.out HN.out⟩⟩
      · go_wp2_with fail
        go_ret
        exact ⟨_, rfl, hC, hK, .inl ⟨rfl, noTilT_all HL.out invT_tail (by rw [show j = p from by omega]; rw [show j = p from by omega] at hno; exact hno)⟩⟩
    · obtain ⟨tk, ek⟩ := sources_shape hsa
      subst ek
      obtain ⟨ak, ck, c10, s0⟩ := kids_cell hpa
      obtain ⟨hbM, af, cf, ag, cg, ow, ov, c12, c13, c14, c15, s1, s2, s3, s4⟩ := hbb
      generalize hLf : f.len = Lf at c12 s1
      generalize hLg : g.len = Lg at c13 s2
      generalize hLk : tk.len = Lk at c10 s0
      have hb34 : ba < wr.heap.size := World.block_lt_of_cell? _ _ c10
      have HX : Hid (PtrAt M N _ _ _) := mk_node (f := { kind := [116, 97, 105, 108] }) hC.mlt hC.nlt (SlAt.nil M N wr) (SlAt.nil M N wr) s0 s2 s3 s4
      have HD : Hid (D tail (sw ws i j) _) := hd
      clear hd
      by_cases hlt : p < j <;>
       (go_wp2_with fail
        go_region
        go_wp2_with fail
        go_ret
        refine ⟨_, rfl, (hC.alloc _).drew 1, (hK.trans (Keep.alloc M _ _)).trans (Keep.drew M _ 1), .inr ⟨_, _, rfl, ?_, HX.out.keep (Keep.drew M _ 1), HD.out⟩⟩
        have := hC.nlt; omega)
set_option maxRecDepth 10000 in
set_option maxHeartbeats 4000000 in
theorem c_tail_a (C M N : Nat) (ws : List RW) (m : Nat) (hI : Is C M N ws m) (i j : Nat) (W : World) (h : Cut C M N ws W) (hi : i < j) (hj : j ≤ ws.length) (hm : (j - i) * 20 + 3 < m) :
    Calls Tryz.prog 82 #[.pointer (some ⟨C, 0, none⟩), .int .i64 3, .int .i64 i, .int .i64 j] W (Post C M N ws W (¬ G after (st (ws.map tok) i j)) (D after (sw ws i j))) := by
  have hlen := h.len
  have HL : Hid (j ≤ (ws.map tok).length) := by show j ≤ _; simpa using hj
  go_enter Tryz.func82, Tryz.ntmps82
  go_wp2_with fail
  refine (hI cnd i j _ h (by omega) (by omega) (by omega) (by simp [rk]; omega)).mono ?_
  rintro e w1 ⟨v1, rfl, hC1, hK1, hF1⟩
  rw [Int.toNat_natCast] at hF1
  go_wp2_with fail
  go_loopg [10, 11, 12] (j - i) (fun gk av bv pv wr => ∃ p : Nat, i + 1 ≤ p ∧ p ≤ j ∧ gk = j - p + 1 ∧ pv = .int .i64 p ∧ Cut C M N ws wr ∧ Keep M W wr ∧ TInv M N ws after cnd (none) true (fun ta f g w v => tailT f g ta v) i j p wr av bv)
  case atStart =>
    refine ⟨i + 1, by omega, by omega, by omega, rfl, hC1.alloc _, hK1.trans (Keep.alloc M _ _), ?_⟩
    rcases hF1 with ⟨e, hn⟩ | ⟨b, t, e, hb, hp, hd⟩
    · exact .inl ⟨e, ⟨_, rfl⟩, hn, fun q h1 h2 => by omega⟩
    · exact .inr ⟨b, _, t, .nil, .nil, .nil, .nil, e, hb, hp.keep (Keep.alloc M _ _), rfl, bok_new hC1.mlt {} (.slice none 0 0) (.slice none 0 0) (PtrAt.nil _ _ _), ⟨_, hd⟩, .aCond hd⟩
  case round =>
    obtain ⟨p, hp1, hp2, rfl, rfl, hC, hK, hA⟩ := hrel
    rcases hA with ⟨rfl, ⟨ob, rfl⟩, hno⟩ | ⟨ba, bb, ta, f, g, w, v, rfl, hba, hpa, rfl, hbb, ⟨sa, hsa⟩, hd⟩
    · by_cases hlt : p < j
      · have HNX : Hid (NoCutT cnd (none) true (ws.map tok) i j p → NoTilT cnd (none) true (ws.map tok) i j (p + 1)) := fun hn => ⟨hno.1, fun q h1 h2 => by
          by_cases e : q = p
          · subst e; exact hn
          · exact hno.2 q h1 (by omega)⟩
        clear hno
        have c1 := fun s => c_key C M N ws (p : Int) s wr hC (by omega) (by omega)
        have c2 := fun s => c_key C M N ws ((p + 1 : Nat) : Int) s wr hC (by omega) (by omega)
        rcases key_case h.ok p with ⟨kw, kg, kh⟩ | ⟨kw, kg, kh⟩ | ⟨kw, kg, kh⟩ | ⟨kw, kg, kh⟩
        · -- where
          have HN : Hid (NoCutT cnd (none) true (ws.map tok) i j p) := ⟨(fun u n e => by cases e), (fun _ hu => absurd hu (fun e => by rw [(key_at h.ok ([103, 114, 111, 117, 112], T.group) (by decide) (by decide) p).2 e] at kg; cases kg))⟩
          go_wp2_with fail
          refine (c1 _).mono ?_
          rintro e w' ⟨rfl, rfl⟩
          try simp only [kw, kg, kh]
          go_wp2_with fail
          refine (c1 _).mono ?_
          rintro e w' ⟨rfl, rfl⟩
          try simp only [kw, kg, kh]
          go_wp2_with fail
          refine (c1 _).mono ?_
          rintro e w' ⟨rfl, rfl⟩
          try simp only [kw, kg, kh]
          go_wp2_with fail
          go_roundg (j - (p + 1) + 1)
          case measure => omega
          case rel => exact ⟨p + 1, by omega, by omega, rfl, by exact vint (by omega), hC, hK, .inl ⟨rfl, ⟨_, rfl⟩, HNX.out HN.out⟩⟩
        · -- group
          cases kb : keyAt ws ((p + 1 : Nat) : Int) [98, 121] with
          | false =>
            have HN : Hid (NoCutT cnd (none) true (ws.map tok) i j p) := ⟨(fun u n e => by cases e), (fun _ _ hb => absurd hb (fun e => by rw [(key_at h.ok ([98, 121], T.by_) (by decide) (by decide) (p + 1)).2 e] at kb; cases kb))⟩
            go_wp2_with fail
            refine (c1 _).mono ?_
            rintro e w' ⟨rfl, rfl⟩
            try simp only [kw, kg, kh, kb]
            go_wp2_with fail
            refine (c1 _).mono ?_
            rintro e w' ⟨rfl, rfl⟩
            try simp only [kw, kg, kh, kb]
            go_wp2_with fail
            refine (c2 _).mono ?_
            rintro e w' ⟨rfl, rfl⟩
            try simp only [kw, kg, kh, kb]
            go_wp2_with fail
            refine (c1 _).mono ?_
            rintro e w' ⟨rfl, rfl⟩
            try simp only [kw, kg, kh, kb]
            go_wp2_with fail
            go_roundg (j - (p + 1) + 1)
            case measure => omega
            case rel => exact ⟨p + 1, by omega, by omega, rfl, by exact vint (by omega), hC, hK, .inl ⟨rfl, ⟨_, rfl⟩, HNX.out HN.out⟩⟩
          | true =>
            have HY := (key_at h.ok ([103, 114, 111, 117, 112], T.group) (by decide) (by decide) p).1 kg
            have HY2 := (key_at h.ok ([98, 121], T.by_) (by decide) (by decide) (p + 1)).1 kb
            go_wp2_with fail
            refine (c1 _).mono ?_
            rintro e w' ⟨rfl, rfl⟩
            try simp only [kw, kg, kh, kb]
            go_wp2_with fail
            refine (c1 _).mono ?_
            rintro e w' ⟨rfl, rfl⟩
            try simp only [kw, kg, kh, kb]
            go_wp2_with fail
            refine (c2 _).mono ?_
            rintro e w' ⟨rfl, rfl⟩
            try simp only [kw, kg, kh, kb]
            go_wp2_with fail
            refine (c1 _).mono ?_
            rintro e w' ⟨rfl, rfl⟩
            try simp only [kw, kg, kh, kb]
            go_wp2_with fail
            refine (hI grouped (p + 2) j _ hC (by omega) (by omega) (by omega) (by simp [rk]; omega)).mono ?_
            rintro e w3 ⟨v3, rfl, hC3, hK3, hF3⟩
            rw [Int.toNat_natCast] at hF3
            rcases hF3 with ⟨rfl, hn3⟩ | ⟨b3, t3, rfl, hb3, hp3, hd3⟩
            · have HN : Hid (NoCutT cnd (none) true (ws.map tok) i j p) := ⟨(fun u n e => by cases e), (fun _ _ _ _ => hn3)⟩
              clear hn3
              go_wp2_with fail
              go_roundg (j - (p + 1) + 1)
              case measure => omega
              case rel => exact ⟨p + 1, by omega, by omega, rfl, by exact vint (by omega), hC3, (hK.trans hK3), .inl ⟨rfl, ⟨_, rfl⟩, HNX.out HN.out⟩⟩
            · go_wp2_with fail
              refine (hI cnd i p _ (hC3) (by omega) (by omega) (by omega) (by simp [rk]; omega)).mono ?_
              rintro e w4 ⟨v4, rfl, hC4, hK4, hF4⟩
              rw [Int.toNat_natCast] at hF4
              have hKW := ((hK.trans hK3)).trans hK4
              rcases hF4 with ⟨rfl, hn4⟩ | ⟨b4, t4, rfl, hb4, hp4, hd4⟩
              · have HN : Hid (NoCutT cnd (none) true (ws.map tok) i j p) := ⟨(fun u n e => by cases e), (fun _ _ _ h => absurd h hn4)⟩
                clear hn4
                go_wp2_with fail
                go_roundg (j - (p + 1) + 1)
                case measure => omega
                case rel => exact ⟨p + 1, by omega, by omega, rfl, by exact vint (by omega), hC4, hKW, .inl ⟨rfl, ⟨_, rfl⟩, HNX.out HN.out⟩⟩
              · obtain ⟨tf, tg, tw, tv, et⟩ := grouped_shape hd3
                subst et
                have HB : Hid (BOk M N w4 _ tf tg tw tv) := (bok_tail hp3).keep hK4
                go_wp2_with fail
                go_roundg (j - (p + 1) + 1)
                case measure => omega
                case rel =>
                  refine ⟨p + 1, by omega, by omega, rfl, by exact vint (by omega), hC4, hKW, .inr ⟨b4, _, t4, tf, tg, tw, tv, rfl, hb4, hp4, rfl, HB.out, ⟨_, hd4⟩, ?_⟩⟩
                  obtain ⟨hpl, htp⟩ := tok_get HY
                  obtain ⟨hpl2, htp2⟩ := tok_get HY2
                  have hlt2 := d_lt hd3
                  rw [sw_two ws (i := i) (p := p) (by omega) (by omega) hj]
                  exact .aGroup htp htp2 hd4 hd3
        · -- having
          have HN : Hid (NoCutT cnd (none) true (ws.map tok) i j p) := ⟨(fun u n e => by cases e), (fun _ hu => absurd hu (fun e => by rw [(key_at h.ok ([103, 114, 111, 117, 112], T.group) (by decide) (by decide) p).2 e] at kg; cases kg))⟩
          go_wp2_with fail
          refine (c1 _).mono ?_
          rintro e w' ⟨rfl, rfl⟩
          try simp only [kw, kg, kh]
          go_wp2_with fail
          refine (c1 _).mono ?_
          rintro e w' ⟨rfl, rfl⟩
          try simp only [kw, kg, kh]
          go_wp2_with fail
          refine (c1 _).mono ?_
          rintro e w' ⟨rfl, rfl⟩
          try simp only [kw, kg, kh]
          go_wp2_with fail
          go_roundg (j - (p + 1) + 1)
          case measure => omega
          case rel => exact ⟨p + 1, by omega, by omega, rfl, by exact vint (by omega), hC, hK, .inl ⟨rfl, ⟨_, rfl⟩, HNX.out HN.out⟩⟩
        · -- none
          have HN : Hid (NoCutT cnd (none) true (ws.map tok) i j p) := ⟨(fun u n e => by cases e), (fun _ hu => absurd hu (fun e => by rw [(key_at h.ok ([103, 114, 111, 117, 112], T.group) (by decide) (by decide) p).2 e] at kg; cases kg))⟩
          go_wp2_with fail
          refine (c1 _).mono ?_
          rintro e w' ⟨rfl, rfl⟩
          try simp only [kw, kg, kh]
          go_wp2_with fail
          refine (c1 _).mono ?_
          rintro e w' ⟨rfl, rfl⟩
          try simp only [kw, kg, kh]
          go_wp2_with fail
          refine (c1 _).mono ?_
          rintro e w' ⟨rfl, rfl⟩
          try simp only [kw, kg, kh]
          go_wp2_with fail
          go_roundg (j - (p + 1) + 1)
          case measure => omega
          case rel => exact ⟨p + 1, by omega, by omega, rfl, by exact vint (by omega), hC, hK, .inl ⟨rfl, ⟨_, rfl⟩, HNX.out HN.out⟩⟩
      · go_wp2_with fail
        go_ret
        exact ⟨_, rfl, hC, hK, .inl ⟨rfl, noTilT_all HL.out invT_after (by rw [show j = p from by omega]; rw [show j = p from by omega] at hno; exact hno)⟩⟩
    · obtain ⟨hbM, af, cf, ag, cg, ow, ov, c12, c13, c14, c15, s1, s2, s3, s4⟩ := hbb
      generalize hLf : f.len = Lf at c12 s1
      generalize hLg : g.len = Lg at c13 s2
      have HX : Hid (PtrAt M N _ _ _) := mk_node (f := { kind := [116, 97, 105, 108] }) hC.mlt hC.nlt (SlAt.nil M N wr) (SlAt.nil M N wr) s1 s2 hpa s4
      have HD : Hid (D after (sw ws i j) _) := hd
      clear hd
      by_cases hlt : p < j <;>
       (go_wp2_with fail
        go_region
        go_wp2_with fail
        go_ret
        refine ⟨_, rfl, (hC.alloc _).drew 1, (hK.trans (Keep.alloc M _ _)).trans (Keep.drew M _ 1), .inr ⟨_, _, rfl, ?_, HX.out.keep (Keep.drew M _ 1), HD.out⟩⟩
        have := hC.nlt; omega)
set_option maxRecDepth 10000 in
set_option maxHeartbeats 4000000 in
theorem c_tail_g (C M N : Nat) (ws : List RW) (m : Nat) (hI : Is C M N ws m) (i j : Nat) (W : World) (h : Cut C M N ws W) (hi : i < j) (hj : j ≤ ws.length) (hm : (j - i) * 20 + 1 < m) :
    Calls Tryz.prog 82 #[.pointer (some ⟨C, 0, none⟩), .int .i64 4, .int .i64 i, .int .i64 j] W (Post C M N ws W (¬ G grouped (st (ws.map tok) i j)) (D grouped (sw ws i j))) := by
  have hlen := h.len
  have HL : Hid (j ≤ (ws.map tok).length) := by show j ≤ _; simpa using hj
  go_enter Tryz.func82, Tryz.ntmps82
  go_wp2_with fail
  refine (hI columns i j _ h (by omega) (by omega) (by omega) (by simp [rk]; omega)).mono ?_
  rintro e w1 ⟨v1, rfl, hC1, hK1, hF1⟩
  rw [Int.toNat_natCast] at hF1
  go_wp2_with fail
  go_loopg [10, 11, 12] (j - i) (fun gk av bv pv wr => ∃ p : Nat, i + 1 ≤ p ∧ p ≤ j ∧ gk = j - p + 1 ∧ pv = .int .i64 p ∧ Cut C M N ws wr ∧ Keep M W wr ∧ TInv M N ws grouped columns (some (T.having, cnd)) false (fun ta f g w v => tailT f ta.kids w v) i j p wr av bv)
  case atStart =>
    refine ⟨i + 1, by omega, by omega, by omega, rfl, hC1.alloc _, hK1.trans (Keep.alloc M _ _), ?_⟩
    rcases hF1 with ⟨e, hn⟩ | ⟨b, t, e, hb, hp, hd⟩
    · exact .inl ⟨e, ⟨_, rfl⟩, hn, fun q h1 h2 => by omega⟩
    · exact .inr ⟨b, _, t, .nil, .nil, .nil, .nil, e, hb, hp.keep (Keep.alloc M _ _), rfl, bok_new hC1.mlt {} (.slice none 0 0) (.slice none 0 0) (PtrAt.nil _ _ _), ⟨_, hd⟩, .gCols hd⟩
  case round =>
    obtain ⟨p, hp1, hp2, rfl, rfl, hC, hK, hA⟩ := hrel
    rcases hA with ⟨rfl, ⟨ob, rfl⟩, hno⟩ | ⟨ba, bb, ta, f, g, w, v, rfl, hba, hpa, rfl, hbb, ⟨sa, hsa⟩, hd⟩
    · by_cases hlt : p < j
      · have HNX : Hid (NoCutT columns (some (T.having, cnd)) false (ws.map tok) i j p → NoTilT columns (some (T.having, cnd)) false (ws.map tok) i j (p + 1)) := fun hn => ⟨hno.1, fun q h1 h2 => by
          by_cases e : q = p
          · subst e; exact hn
          · exact hno.2 q h1 (by omega)⟩
        clear hno
        have c1 := fun s => c_key C M N ws (p : Int) s wr hC (by omega) (by omega)
        have c2 := fun s => c_key C M N ws ((p + 1 : Nat) : Int) s wr hC (by omega) (by omega)
        rcases key_case h.ok p with ⟨kw, kg, kh⟩ | ⟨kw, kg, kh⟩ | ⟨kw, kg, kh⟩ | ⟨kw, kg, kh⟩
        · -- where
          have HN : Hid (NoCutT columns (some (T.having, cnd)) false (ws.map tok) i j p) := ⟨(fun u n e hu => by cases e; exact absurd hu (fun e => by rw [(key_at h.ok ([104, 97, 118, 105, 110, 103], T.having) (by decide) (by decide) p).2 e] at kh; cases kh)), (fun e => by cases e)⟩
          go_wp2_with fail
          refine (c1 _).mono ?_
          rintro e w' ⟨rfl, rfl⟩
          try simp only [kw, kg, kh]
          go_wp2_with fail
          refine (c1 _).mono ?_
          rintro e w' ⟨rfl, rfl⟩
          try simp only [kw, kg, kh]
          go_wp2_with fail
          refine (c1 _).mono ?_
          rintro e w' ⟨rfl, rfl⟩
          try simp only [kw, kg, kh]
          go_wp2_with fail
          go_roundg (j - (p + 1) + 1)
          case measure => omega
          case rel => exact ⟨p + 1, by omega, by omega, rfl, by exact vint (by omega), hC, hK, .inl ⟨rfl, ⟨_, rfl⟩, HNX.out HN.out⟩⟩
        · -- group
          cases kb : keyAt ws ((p + 1 : Nat) : Int) [98, 121] with
          | false =>
            have HN : Hid (NoCutT columns (some (T.having, cnd)) false (ws.map tok) i j p) := ⟨(fun u n e hu => by cases e; exact absurd hu (fun e => by rw [(key_at h.ok ([104, 97, 118, 105, 110, 103], T.having) (by decide) (by decide) p).2 e] at kh; cases kh)), (fun e => by cases e)⟩
            go_wp2_with fail
            refine (c1 _).mono ?_
            rintro e w' ⟨rfl, rfl⟩
            try simp only [kw, kg, kh, kb]
            go_wp2_with fail
            refine (c1 _).mono ?_
            rintro e w' ⟨rfl, rfl⟩
            try simp only [kw, kg, kh, kb]
            go_wp2_with fail
            refine (c2 _).mono ?_
            rintro e w' ⟨rfl, rfl⟩
            try simp only [kw, kg, kh, kb]
            go_wp2_with fail
            refine (c1 _).mono ?_
            rintro e w' ⟨rfl, rfl⟩
            try simp only [kw, kg, kh, kb]
            go_wp2_with fail
            go_roundg (j - (p + 1) + 1)
            case measure => omega
            case rel => exact ⟨p + 1, by omega, by omega, rfl, by exact vint (by omega), hC, hK, .inl ⟨rfl, ⟨_, rfl⟩, HNX.out HN.out⟩⟩
          | true =>
            have HN : Hid (NoCutT columns (some (T.having, cnd)) false (ws.map tok) i j p) := ⟨(fun u n e hu => by cases e; exact absurd hu (fun e => by rw [(key_at h.ok ([104, 97, 118, 105, 110, 103], T.having) (by decide) (by decide) p).2 e] at kh; cases kh)), (fun e => by cases e)⟩
            go_wp2_with fail
            refine (c1 _).mono ?_
            rintro e w' ⟨rfl, rfl⟩
            try simp only [kw, kg, kh, kb]
            go_wp2_with fail
            refine (c1 _).mono ?_
            rintro e w' ⟨rfl, rfl⟩
            try simp only [kw, kg, kh, kb]
            go_wp2_with fail
            refine (c2 _).mono ?_
            rintro e w' ⟨rfl, rfl⟩
            try simp only [kw, kg, kh, kb]
            go_wp2_with fail
            refine (c1 _).mono ?_
            rintro e w' ⟨rfl, rfl⟩
            try simp only [kw, kg, kh, kb]
            go_wp2_with fail
            go_roundg (j - (p + 1) + 1)
            case measure => omega
            case rel => exact ⟨p + 1, by omega, by omega, rfl, by exact vint (by omega), hC, hK, .inl ⟨rfl, ⟨_, rfl⟩, HNX.out HN.out⟩⟩
        · -- having
          have HY := (key_at h.ok ([104, 97, 118, 105, 110, 103], T.having) (by decide) (by decide) p).1 kh
          go_wp2_with fail
          refine (c1 _).mono ?_
          rintro e w' ⟨rfl, rfl⟩
          try simp only [kw, kg, kh]
          go_wp2_with fail
          refine (c1 _).mono ?_
          rintro e w' ⟨rfl, rfl⟩
          try simp only [kw, kg, kh]
          go_wp2_with fail
          refine (c1 _).mono ?_
          rintro e w' ⟨rfl, rfl⟩
          try simp only [kw, kg, kh]
          go_wp2_with fail
          refine (hI cnd (p + 1) j _ hC (by omega) (by omega) (by omega) (by simp [rk]; omega)).mono ?_
          rintro e w3 ⟨v3, rfl, hC3, hK3, hF3⟩
          rw [Int.toNat_natCast] at hF3
          rcases hF3 with ⟨rfl, hn3⟩ | ⟨b3, t3, rfl, hb3, hp3, hd3⟩
          · have HN : Hid (NoCutT columns (some (T.having, cnd)) false (ws.map tok) i j p) := ⟨(fun u n e _ _ => by cases e; exact hn3), (fun e => by cases e)⟩
            clear hn3
            go_wp2_with fail
            go_roundg (j - (p + 1) + 1)
            case measure => omega
            case rel => exact ⟨p + 1, by omega, by omega, rfl, by exact vint (by omega), hC3, (hK.trans hK3), .inl ⟨rfl, ⟨_, rfl⟩, HNX.out HN.out⟩⟩
          · go_wp2_with fail
            refine (hI columns i p _ (hC3.alloc _) (by omega) (by omega) (by omega) (by simp [rk]; omega)).mono ?_
            rintro e w4 ⟨v4, rfl, hC4, hK4, hF4⟩
            rw [Int.toNat_natCast] at hF4
            have hKW := ((hK.trans hK3).trans (Keep.alloc M _ _)).trans hK4
            rcases hF4 with ⟨rfl, hn4⟩ | ⟨b4, t4, rfl, hb4, hp4, hd4⟩
            · have HN : Hid (NoCutT columns (some (T.having, cnd)) false (ws.map tok) i j p) := ⟨(fun u n e _ h => absurd h hn4), (fun e => by cases e)⟩
              clear hn4
              go_wp2_with fail
              go_roundg (j - (p + 1) + 1)
              case measure => omega
              case rel => exact ⟨p + 1, by omega, by omega, rfl, by exact vint (by omega), hC4, hKW, .inl ⟨rfl, ⟨_, rfl⟩, HNX.out HN.out⟩⟩
            · have HB : Hid (BOk M N w4 _ .nil .nil .nil t3) := (bok_new hC3.mlt {} (.slice none 0 0) (.slice none 0 0) hp3).keep hK4
              go_wp2_with fail
              go_roundg (j - (p + 1) + 1)
              case measure => omega
              case rel =>
                refine ⟨p + 1, by omega, by omega, rfl, by exact vint (by omega), hC4, hKW, .inr ⟨b4, _, t4, .nil, .nil, .nil, t3, rfl, hb4, hp4, rfl, HB.out, ⟨_, hd4⟩, ?_⟩⟩
                obtain ⟨hpl, htp⟩ := tok_get HY
                rw [sw_split ws (i := i) (p := p) (by omega) hlt hj]
                exact .gHaving htp hd4 hd3
        · -- none
          have HN : Hid (NoCutT columns (some (T.having, cnd)) false (ws.map tok) i j p) := ⟨(fun u n e hu => by cases e; exact absurd hu (fun e => by rw [(key_at h.ok ([104, 97, 118, 105, 110, 103], T.having) (by decide) (by decide) p).2 e] at kh; cases kh)), (fun e => by cases e)⟩
          go_wp2_with fail
          refine (c1 _).mono ?_
          rintro e w' ⟨rfl, rfl⟩
          try simp only [kw, kg, kh]
          go_wp2_with fail
          refine (c1 _).mono ?_
          rintro e w' ⟨rfl, rfl⟩
          try simp only [kw, kg, kh]
          go_wp2_with fail
          refine (c1 _).mono ?_
          rintro e w' ⟨rfl, rfl⟩
          try simp only [kw, kg, kh]
          go_wp2_with fail
          go_roundg (j - (p + 1) + 1)
          case measure => omega
          case rel => exact ⟨p + 1, by omega, by omega, rfl, by exact vint (by omega), hC, hK, .inl ⟨rfl, ⟨_, rfl⟩, HNX.out HN.out⟩⟩
      · go_wp2_with fail
        go_ret
        exact ⟨_, rfl, hC, hK, .inl ⟨rfl, noTilT_all HL.out invT_grouped (by rw [show j = p from by omega]; rw [show j = p from by omega] at hno; exact hno)⟩⟩
    · obtain ⟨tk, ek⟩ := columns_shape hsa
      subst ek
      obtain ⟨ak, ck, c10, s0⟩ := kids_cell hpa
      obtain ⟨hbM, af, cf, ag, cg, ow, ov, c12, c13, c14, c15, s1, s2, s3, s4⟩ := hbb
      generalize hLf : f.len = Lf at c12 s1
      generalize hLg : g.len = Lg at c13 s2
      generalize hLk : tk.len = Lk at c10 s0
      have hb34 : ba < wr.heap.size := World.block_lt_of_cell? _ _ c10
      have HX : Hid (PtrAt M N _ _ _) := mk_node (f := { kind := [116, 97, 105, 108] }) hC.mlt hC.nlt (SlAt.nil M N wr) (SlAt.nil M N wr) s1 s0 s3 s4
      have HD : Hid (D grouped (sw ws i j) _) := hd
      clear hd
      by_cases hlt : p < j <;>
       (go_wp2_with fail
        go_region
        go_wp2_with fail
        go_ret
        refine ⟨_, rfl, (hC.alloc _).drew 1, (hK.trans (Keep.alloc M _ _)).trans (Keep.drew M _ 1), .inr ⟨_, _, rfl, ?_, HX.out.keep (Keep.drew M _ 1), HD.out⟩⟩
        have := hC.nlt; omega)
end Gr
end Go.Proofs.YtfkdfplnhlnnoaaGreatDoor
