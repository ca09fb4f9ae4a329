import Derived.Test.YtamfmffdgidmgaaGreatDoorBgJa29
section
namespace Go.Proofs.YtamfmffdgidmgaaGreatDoor
open Go.RowKit
namespace Gr
set_option linter.unusedSimpArgs false
set_option linter.unusedVariables false
open NT
/-- the pointers of a list of parts -/
def Ptrs (M N : Nat) (W : World) : Tr → List Value → Prop
  | .nil, [] => True
  | .cons h t, v :: vs => PtrAt M N W h v ∧ Ptrs M N W t vs
  | _, _ => False
theorem row_ptrs {M N : Nat} {W : World} {g : Nat} : ∀ {t : Tr} {o : Nat}, RowAt M N W t (some ⟨g, 0, none⟩) o → ∃ vs : List Value, vs.length = t.len ∧ Ptrs M N W t vs ∧ ∀ i (h : i < vs.length), W.cell? ⟨g, o + i, none⟩ = some vs[i]
  | .nil, o, _ => ⟨[], rfl, trivial, fun i h => by cases h⟩
  | .cons x t, o, h => by
    rw [RowAt] at h
    obtain ⟨⟨g', v, e, _, _, hc, hp⟩, hr⟩ := h
    cases e
    obtain ⟨vs, hl, hps, hcs⟩ := row_ptrs hr
    refine ⟨v :: vs, by simp [Tr.len, hl], ⟨hp, hps⟩, fun i hi => ?_⟩
    cases i with
    | zero => exact hc
    | succ i => have := hcs i (by simpa using hi); rw [show o + (i + 1) = o + 1 + i from by omega]; exact this
  | .node f k i fr g' w h', o, h => by simp [RowAt] at h
theorem ptrs_row {M N : Nat} {W : World} {g : Nat} (hM : g ≠ M) (hN : g ≠ N) : ∀ {t : Tr} {vs : List Value} {o : Nat}, Ptrs M N W t vs → (∀ i (h : i < vs.length), W.cell? ⟨g, o + i, none⟩ = some vs[i]) → RowAt M N W t (some ⟨g, 0, none⟩) o ∧ t.len = vs.length
  | .nil, [], o, _, _ => ⟨by simp [RowAt], rfl⟩
  | .cons x t, v :: vs, o, h, hc => by
    obtain ⟨h1, h2⟩ := ptrs_row (t := t) (vs := vs) (o := o + 1) hM hN h.2 (fun i hi => by have := hc (i + 1) (by simpa using hi); rw [show o + 1 + i = o + (i + 1) from by omega]; exact this)
    rw [RowAt]
    exact ⟨⟨⟨g, v, rfl, hM, hN, hc 0 (by simp), h.1⟩, h1⟩, by simp [Tr.len, h2]⟩
  | .nil, _ :: _, _, h, _ => by simp [Ptrs] at h
  | .cons _ _, [], _, h, _ => by simp [Ptrs] at h
  | .node _ _ _ _ _ _ _, [], _, h, _ => by simp [Ptrs] at h
  | .node _ _ _ _ _ _ _, _ :: _, _, h, _ => by simp [Ptrs] at h
theorem ptrs_snoc {M N : Nat} {W : World} {x : Tr} {v : Value} (hx : PtrAt M N W x v) : ∀ {t : Tr} {vs : List Value}, Ptrs M N W t vs → Ptrs M N W (t.snoc x) (vs ++ [v])
  | .nil, [], _ => ⟨hx, trivial⟩
  | .cons h t, u :: us, hp => ⟨hp.1, ptrs_snoc hx hp.2⟩
  | .nil, _ :: _, h => by simp [Ptrs] at h
  | .cons _ _, [], h => by simp [Ptrs] at h
  | .node _ _ _ _ _ _ _, [], h => by simp [Ptrs] at h
  | .node _ _ _ _ _ _ _, _ :: _, h => by simp [Ptrs] at h
theorem Ptrs.keep {M N : Nat} {W W' : World} (hk : Keep M W W') : ∀ {t : Tr} {vs : List Value}, Ptrs M N W t vs → Ptrs M N W' t vs
  | .nil, [], _ => trivial
  | .cons h t, u :: us, hp => ⟨hp.1.keep hk, Ptrs.keep hk hp.2⟩
  | .nil, _ :: _, h => by simp [Ptrs] at h
  | .cons _ _, [], h => by simp [Ptrs] at h
  | .node _ _ _ _ _ _ _, [], h => by simp [Ptrs] at h
  | .node _ _ _ _ _ _ _, _ :: _, h => by simp [Ptrs] at h
theorem ptr_one {M N : Nat} {W : World} {t : Tr} {v : Value} (h : PtrAt M N W t v) : v.oneCell' = true := by
  cases t with
  | nil => simp only [PtrAt] at h; subst h; rfl
  | cons x t => simp [PtrAt] at h
  | node f k i fr g w hh => rw [ptr_node] at h; obtain ⟨b, _, _, _, _, _, _, rfl, _⟩ := h; rfl
theorem ptrs_one {M N : Nat} {W : World} : ∀ {t : Tr} {vs : List Value}, Ptrs M N W t vs → ∀ u ∈ vs, u.oneCell' = true
  | .nil, [], _, u, hu => by cases hu
  | .cons h t, v :: vs, hp, u, hu => by
    rcases List.mem_cons.1 hu with rfl | hu
    · exact ptr_one hp.1
    · exact ptrs_one hp.2 u hu
  | .nil, _ :: _, h, _, _ => by simp [Ptrs] at h
  | .cons _ _, [], h, _, _ => by simp [Ptrs] at h
  | .node _ _ _ _ _ _ _, [], h, _, _ => by simp [Ptrs] at h
  | .node _ _ _ _ _ _ _, _ :: _, h, _, _ => by simp [Ptrs] at h
theorem Tryz.infoPtr : (Tryz.prog.info? 30).map (fun i => (i.zero, i.size, i.bytes)) = some (some (.pointer none), 1, 8) := by kernel_rfl
theorem snoc_len (y : Tr) : ∀ t : Tr, (t.snoc y).len = t.len + 1
  | .nil => rfl
  | .cons h t => by show (t.snoc y).len + 1 = _; rw [snoc_len y t]; rfl
  | .node _ _ _ _ _ _ _ => rfl
def isRow : NT → Bool | items => true | sources => true | columns => true | _ => false
theorem kids_le {k : NT} {a : List RW} {x : Tr} (h : D k a x) : isRow k = true → x.kids.len ≤ a.length := by
  have one : ∀ {k' : NT} {a : List RW} {y : Tr}, D k' a y → 1 ≤ a.length := fun h => by
    have := g_nil h.g
    rw [Ne, List.map_eq_nil_iff] at this
    exact List.length_pos_iff.2 this
  induction h <;> intro hk <;> first
    | (exact absurd hk (by decide))
    | (rename_i h1 _; exact one h1)
    | (rename_i h1 h2 ih1 ih2; have h3 := one h2; have h4 := ih1 rfl; simp only [nd, Tr.kids, snoc_len, List.length_append, List.length_cons] at *; omega)
/-- the kinds that are rows -/
structure RowK (one same : NT) : Prop where
  inv : ∀ l, G same l ↔ G one l ∨ ∃ a u b, l = a ++ u :: b ∧ u = T.comma ∧ G same a ∧ G one b
  d1 : ∀ a x, D one a x → D same a (nd { kind := [114, 111, 119] } (l1 x))
  d2 : ∀ a u b x y, tok u = T.comma → D same a x → D one b y → D same (a ++ u :: b) (nd { kind := [114, 111, 119] } (x.kids.snoc y))
  shape : ∀ a x, D same a x → ∃ h t, x = nd { kind := [114, 111, 119] } (.cons h t)
  rk : rk one < rk same
  isr : isRow same = true
theorem snoc_cons (t y : Tr) : ∃ h r, t.snoc y = .cons h r := by cases t <;> exact ⟨_, _, rfl⟩
theorem rowItems : RowK NT.item items := ⟨inv_items, fun _ _ h => .iOne h, fun _ _ _ _ _ h1 h2 h3 => .iMore h1 h2 h3, fun a x h => by
  cases h
  · exact ⟨_, _, rfl⟩
  · rename_i x y _ _ _; obtain ⟨h, r, e⟩ := snoc_cons x.kids y; exact ⟨h, r, by rw [e]⟩, by decide, rfl⟩
theorem rowSources : RowK source sources := ⟨inv_sources, fun _ _ h => .sOne h, fun _ _ _ _ _ h1 h2 h3 => .sMore h1 h2 h3, fun a x h => by
  cases h
  · exact ⟨_, _, rfl⟩
  · rename_i x y _ _ _; obtain ⟨h, r, e⟩ := snoc_cons x.kids y; exact ⟨h, r, by rw [e]⟩, by decide, rfl⟩
theorem rowColumns : RowK column columns := ⟨inv_columns, fun _ _ h => .cOne h, fun _ _ _ _ _ h1 h2 h3 => .cMore h1 h2 h3, fun a x h => by
  cases h
  · exact ⟨_, _, rfl⟩
  · rename_i x y _ _ _; obtain ⟨h, r, e⟩ := snoc_cons x.kids y; exact ⟨h, r, by rw [e]⟩, by decide, rfl⟩
set_option maxRecDepth 10000 in
set_option maxHeartbeats 1000000 in
theorem c_row (C M N : Nat) (ws : List RW) (m : Nat) (hI : Is C M N ws m) (one same : NT) (hR : RowK one same) (i j : Nat) (W : World) (h : Cut C M N ws W) (hi : i < j) (hj : j ≤ ws.length) (hm : (j - i) * 20 + rk one < m) :
    Calls Tryz.prog 116 #[.pointer (some ⟨C, 0, none⟩), .int .i64 (num one), .int .i64 (num same), .int .i64 i, .int .i64 j] W (Post C M N ws W (¬ G same (st (ws.map tok) i j)) (D same (sw ws i j))) := by
  have hlen := h.len
  have HL : Hid (j ≤ (ws.map tok).length) := by show j ≤ _; simpa using hj
  go_enter Tryz.func116, Tryz.ntmps116
  go_wp2_with fail
  refine (hI one i j _ h (by omega) (by omega) (by omega) (by simpa using hm)).mono ?_
  rintro e w1 ⟨v1, rfl, hC1, hK1, hF1⟩
  rw [Int.toNat_natCast] at hF1
  rcases hF1 with ⟨rfl, hno⟩ | ⟨b, t, rfl, hb, hp, hd⟩
  · have HNO : Hid (¬ G one (st (ws.map tok) i j)) := hno
    clear hno
    go_wp2_with fail
    go_loopg [12] (j - i) (fun gk pv wr => ∃ p : Nat, i + 1 ≤ p ∧ p ≤ j ∧ gk = j - p + 1 ∧ pv = .int .i64 p ∧ Cut C M N ws wr ∧ Keep M W wr ∧ NoTil same one (fun u => u = T.comma) (ws.map tok) i j p)
    case atStart => exact ⟨i + 1, by omega, by omega, by omega, rfl, hC1, hK1, HNO.out, fun q h1 h2 => by omega⟩
    case round =>
      obtain ⟨p, hp1, hp2, rfl, rfl, hC, hK, hno⟩ := hrel
      have HNT : Hid (NoTil same one (fun u => u = T.comma) (ws.map tok) i j p) := hno
      clear hno
      by_cases hlt : p < j
      · have HNX : Hid (NoCut same one (fun u => u = T.comma) (ws.map tok) i j p → NoTil same one (fun u => u = T.comma) (ws.map tok) i j (p + 1)) := fun hn => ⟨HNT.out.1, fun q h1 h2 => by
          by_cases e : q = p
          · subst e; exact hn
          · exact HNT.out.2 q h1 (by omega)⟩
        go_wp2_with fail
        refine (c_sign C M N ws (p : Int) _ _ hC (by omega) (by omega)).mono ?_
        rintro e w' ⟨rfl, rfl⟩
        cases hc : signAt ws (p : Int) [44] with
        | false =>
          have HN : Hid (NoCut same one (fun u => u = T.comma) (ws.map tok) i j p) := fun u hu hj => by
            subst hj; rw [(sign_at h.ok ([44], T.comma) (by decide) (by decide) p).2 hu] at hc; cases hc
          clear hc
          go_wp2_with fail
          go_roundg (j - (p + 1) + 1)
          case measure => omega
          case rel => exact ⟨p + 1, by omega, by omega, rfl, by exact vint (by omega), hC, hK, HNX.out HN.out⟩
        | true =>
          have HY := (sign_at h.ok ([44], T.comma) (by decide) (by decide) p).1 hc
          clear hc
          go_wp2_with fail
          refine (hI same i p _ hC (by omega) (by omega) (by omega) (by have := rk_lt same; simp; omega)).mono ?_
          rintro e w3 ⟨v3, rfl, hC3, hK3, hF3⟩
          rw [Int.toNat_natCast] at hF3
          go_wp2_with fail
          refine (hI one (p + 1) j _ hC3 (by omega) (by omega) (by omega) (by have := rk_lt one; simp; omega)).mono ?_
          rintro e w4 ⟨v4, rfl, hC4, hK4, hF4⟩
          rw [Int.toNat_natCast] at hF4
          have hKW := (hK.trans hK3).trans hK4
          rcases hF3 with ⟨rfl, hn3⟩ | ⟨b3, t3, rfl, hb3, hp3, hd3⟩
          · have HN3 : Hid (NoCut same one (fun u => u = T.comma) (ws.map tok) i j p) := fun u _ _ h _ => hn3 h
            clear hn3
            go_wp2_with fail
            go_roundg (j - (p + 1) + 1)
            case measure => omega
            case rel => exact ⟨p + 1, by omega, by omega, rfl, by exact vint (by omega), hC4, hKW, HNX.out HN3.out⟩
          · rcases hF4 with ⟨rfl, hn4⟩ | ⟨b4, t4, rfl, hb4, hp4, hd4⟩
            · have HN4 : Hid (NoCut same one (fun u => u = T.comma) (ws.map tok) i j p) := fun u _ _ _ => hn4
              clear hn4
              go_wp2_with fail
              go_roundg (j - (p + 1) + 1)
              case measure => omega
              case rel => exact ⟨p + 1, by omega, by omega, rfl, by exact vint (by omega), hC4, hKW, HNX.out HN4.out⟩
            · have hp3' := hp3.keep hK4
              have hkl := kids_le hd3 hR.isr
              have hsl : (sw ws i p).length ≤ 400 := by unfold sw; rw [List.length_take, List.length_drop]; omega
              obtain ⟨x0, t0, ex⟩ := hR.shape _ _ hd3
              subst ex
              have hpn := hp3'
              unfold nd at hpn
              rw [ptr_node] at hpn
              obtain ⟨b, vk, vi, vf, vg, vw, vh, eb, hbM, hbN, hob, ⟨ak, ck, ek, hrow⟩, _⟩ := hpn
              cases eb
              subst ek
              obtain ⟨gk, eg⟩ : ∃ gk, ak = some ⟨gk, 0, none⟩ := by
                rw [RowAt] at hrow
                obtain ⟨⟨g, v, e, _⟩, _⟩ := hrow
                exact ⟨g, e⟩
              subst eg
              obtain ⟨vs, hvl, hps, hcs⟩ := row_ptrs hrow
              have hkl' : (Tr.cons x0 t0).len ≤ 400 := by simp only [nd, Tr.kids] at hkl; omega
              have c10 : w4.cell? ⟨b3, 10, none⟩ = some (.slice (some ⟨gk, 0, none⟩) (Tr.cons x0 t0).len ck) := by simp [World.cell?, hob, cellsT]
              obtain ⟨i0, hi0, hz0, hz1, hz2⟩ := info_parts Tryz.infoPtr
              have HVS : Hid (∀ u ∈ vs, u.oneCell' = true) := ptrs_one hps
              have HCS : Hid (∀ q u, vs[q]? = some u → w4.cell? ((⟨gk, 0, none⟩ : Addr).add q) = some u) := fun q u e => by
                obtain ⟨hq, e2⟩ := List.getElem?_eq_some_iff.1 e
                have := hcs q hq
                rw [Addr.add_lit]
                simpa [e2] using this
              have HPS : Hid (Ptrs M N w4 (.cons x0 t0) vs) := hps
              have hM := hC4.mlt
              have hN := hC4.nlt
              generalize hLn : (Tr.cons x0 t0).len = L at *
              clear hps hcs hrow hob
              go_wp2_with (at_builtin; first
                | (refine wpList_append_own _ rfl _ _ 66 rfl w4.heap.size 30 i0 (.pointer none) 1 8 Tryz.underlying66 hi0 hz0 hz1 hz2 rfl (by decide) _ _ _ rfl (World.ownsRow_nil _ _ _ _) ⟨gk, 0, none⟩ L ck vs rfl (by rw [hvl, Nat.mul_one]) HCS.out HVS.out (by unfold maxLen; omega) (by omega) (Nat.le_refl _) ?_; intro va wA hownA hgrowA _; have hBA : Below w4.heap.size w4 wA := (Below.refl _ _).grown hgrowA (Nat.le_refl _) (fun k e => by cases e))
                | (refine wpList_append_own _ rfl _ _ 66 rfl w4.heap.size 30 i0 (.pointer none) 1 8 Tryz.underlying66 hi0 hz0 hz1 hz2 rfl (by decide) _ _ _ rfl (hownA.alloc _) ⟨wA.heap.size, 0, none⟩ 1 1 [.pointer (some ⟨b4, 0, none⟩)] rfl rfl (cell_one_new _ _ _) (by simp [Value.oneCell']) (by unfold maxLen; omega) (by omega) (by have := hBA.size; simp; omega) ?_; intro vb wB hownB hgrowB _; obtain ⟨gb, cb, hgbB, ebv⟩ : ∃ gb cb, w4.heap.size ≤ gb ∧ vb = .slice (some ⟨gb, 0, none⟩) (0 + L + 1) cb := (by rcases hownB.2 with ⟨_, h0⟩ | ⟨gb, cb, cur, e, hgb, _⟩; (exact absurd h0 (by omega)); exact ⟨gb, cb, hgb, e⟩); subst ebv))
              have hBB : Below w4.heap.size w4 wB := (hBA.alloc hBA.size _).grown hgrowB (by have := hBA.size; simp; omega) (fun k e => (hownA.lt k e).1)
              go_ret
              have hCB := hC4.below hBB
              have hKB : Keep M w4 wB := Keep.of_below hBB
              rw [List.nil_append] at hownB
              have hPB : Ptrs M N wB ((Tr.cons x0 t0).snoc t4) (vs ++ [.pointer (some ⟨b4, 0, none⟩)]) := ptrs_snoc (hp4.keep hKB) (HPS.out.keep hKB)
              have hSB : SlAt M N wB ((Tr.cons x0 t0).snoc t4) (.slice (some ⟨gb, 0, none⟩) (L + 1) cb) := by
                obtain ⟨r1, r2⟩ := ptrs_row (o := 0) (g := gb) (by omega) (by omega) hPB (fun q hq => by
                  have := hownB.cells (g := gb) rfl q _ (List.getElem?_eq_getElem hq)
                  rw [Addr.add_lit] at this
                  exact this)
                refine ⟨_, cb, ?_, r1⟩
                rw [snoc_len, hLn]
              refine ⟨_, rfl, hCB.alloc _, (hKW.trans hKB).trans (Keep.alloc M _ _), .inr ⟨_, _, rfl, ?_, mk_nd (f := { kind := [114, 111, 119] }) hCB.mlt hCB.nlt hSB, ?_⟩⟩
              · have := hCB.nlt; omega
              · obtain ⟨hpl, htp⟩ := tok_get HY
                have e := hR.d2 _ ws[p] _ _ _ htp hd3 hd4
                rw [sw_split ws (i := i) (p := p) (by omega) hlt hj]
                exact e
      · go_wp2_with fail
        go_ret
        exact ⟨_, rfl, hC, hK, .inl ⟨rfl, noTil_all HL.out hR.inv (by rw [show j = p from by omega]; have := HNT.out; rw [show j = p from by omega] at this; exact this)⟩⟩
  · go_wp2_with fail
    go_ret
    refine ⟨_, rfl, (hC1.alloc _).alloc _, (hK1.trans (Keep.alloc M _ _)).trans (Keep.alloc M _ _), .inr ⟨_, _, rfl, ?_, mk_nd1 hC1.mlt hC1.nlt { kind := [114, 111, 119] } hp, hR.d1 _ _ hd⟩⟩
    have := hC1.nlt; simp; omega
end Gr
end Go.Proofs.YtamfmffdgidmgaaGreatDoor
end
section
namespace Go.Proofs.YtamfmffdgidmgaaGreatDoor
open Go.RowKit
namespace Gr
set_option linter.unusedSimpArgs false
set_option linter.unusedVariables false
/-- a part is printed as its text says -/
def PrintOK (M N : Nat) (t : Tr) : Prop := ∀ (W : World) (v : Value), PtrAt M N W t v → Good t →
  Calls Tryz.prog 13 #[v] W fun e w' => e = .returned (.string ⟨(pr t).toArray⟩) ∧ Below W.heap.size W w'
theorem ptr_is2 {M N : Nat} {W : World} {t : Tr} {v : Value} (h : PtrAt M N W t v) : ∃ o, v = .pointer o := by
  cases t with
  | nil => simp only [PtrAt] at h; exact ⟨_, h⟩
  | cons x t => simp [PtrAt] at h
  | node f k i fr g w hh => rw [ptr_node] at h; obtain ⟨b, _, _, _, _, _, _, rfl, _⟩ := h; exact ⟨_, rfl⟩
theorem good_pr {t : Tr} (h : Good t) : (pr t).length ≤ 400000 := by
  cases t with
  | nil => rw [Good] at h; exact h.elim
  | cons x y => rw [Good] at h; exact h.elim
  | node f k i fr g w hh => rw [Good] at h; exact h.1.pr
/-- a slice of parts -/
theorem sl_cells {M N : Nat} {W : World} {t : Tr} {v : Value} (h : SlAt M N W t v) : ∃ a c, v = .slice a t.len c ∧ ∀ j (hj : j < (elems t).length), ∃ g u, a = some ⟨g, 0, none⟩ ∧ W.cell? ⟨g, j, none⟩ = some u ∧ PtrAt M N W (elems t)[j] u := by
  obtain ⟨a, c, rfl, hr⟩ := h
  refine ⟨a, c, rfl, ?_⟩
  have key : ∀ (t : Tr) (o : Nat), RowAt M N W t a o → ∀ j (hj : j < (elems t).length), ∃ g u, a = some ⟨g, 0, none⟩ ∧ W.cell? ⟨g, o + j, none⟩ = some u ∧ PtrAt M N W (elems t)[j] u := by
    intro t
    induction t with
    | nil => intro o _ j hj; simp [elems] at hj
    | node => intro o _ j hj; simp [elems] at hj
    | cons x t _ ih =>
      intro o hr j hj
      rw [RowAt] at hr
      obtain ⟨⟨g, v, e, _, _, hc, hp⟩, hr2⟩ := hr
      cases j with
      | zero => exact ⟨g, v, e, hc, hp⟩
      | succ j =>
        obtain ⟨g', u, e', hc', hp'⟩ := ih (o + 1) hr2 j (by simpa [elems] using hj)
        exact ⟨g', u, e', by rw [show o + (j + 1) = o + 1 + j from by omega]; exact hc', hp'⟩
  intro j hj
  obtain ⟨g, u, e, hc, hp⟩ := key t 0 hr j hj
  exact ⟨g, u, e, by rwa [Nat.zero_add] at hc, hp⟩
theorem commas_snoc : ∀ (l : List Bg.Str) (x : Bg.Str), commas (l ++ [x]) = if l = [] then x else commas l ++ [44, 32] ++ x
  | [], x => rfl
  | [a], x => by simp [commas]
  | a :: b :: l, x => by
    have ih := commas_snoc (b :: l) x
    rw [List.cons_append, List.cons_append, commas, ← List.cons_append, ih]
    · simp [commas]
    · simp
theorem commas_take : ∀ (l : List Bg.Str) (j : Nat), (commas (l.take j)).length ≤ (commas l).length
  | [], j => by simp
  | [a], 0 => by simp [commas]
  | [a], j + 1 => by simp
  | a :: b :: l, 0 => by simp [commas]
  | a :: b :: l, 1 => by
    have e : commas (a :: b :: l) = a ++ [44, 32] ++ commas (b :: l) := by rw [commas]; simp
    rw [e]; simp [commas]
  | a :: b :: l, j + 2 => by
    have ih := commas_take (b :: l) (j + 1)
    have e : commas (a :: b :: l) = a ++ [44, 32] ++ commas (b :: l) := by rw [commas]; simp
    have e2 : commas ((a :: b :: l).take (j + 2)) = a ++ [44, 32] ++ commas ((b :: l).take (j + 1)) := by
      rw [List.take_succ_cons, List.take_succ_cons, commas]; simp
    rw [e, e2]; simp; simp at ih; omega
set_option maxRecDepth 10000 in
set_option maxHeartbeats 1000000 in
theorem ref_printed (M N : Nat) (t : Tr) (v : Value) (W : World) (hs : SlAt M N W t v) (hg : GoodL t) (hl : t.len ≤ 400) (hc : (commas (prs t)).length ≤ 400000) (hP : ∀ x ∈ elems t, PrintOK M N x) :
    Calls Tryz.prog 52 #[v] W fun e w' => e = .returned (.string ⟨(commas (prs t)).toArray⟩) ∧ Below W.heap.size W w' := by
  obtain ⟨a, c, rfl, hcell⟩ := sl_cells hs
  have happ := Bg.app_mk
  have hel := elems_len t
  rw [prs_elems] at hc ⊢
  have hge := good_elems t hg
  generalize t.len = L at hl hel ⊢
  go_enter Tryz.func52, Tryz.ntmps52
  go_wp2_with fail
  go_loopg [3, 4] (L + 1) (fun gk sv iv wr => ∃ j : Nat, j ≤ L ∧ gk = L - j + 1 ∧ iv = .int .i64 j ∧ sv = .string ⟨(commas (((elems t).take j).map pr)).toArray⟩ ∧ Below W.heap.size W wr)
  case atStart => exact ⟨0, by omega, by omega, rfl, by simp [commas], Below.refl _ _⟩
  case round =>
    obtain ⟨j, hj, rfl, rfl, rfl, hB⟩ := hrel
    by_cases hlt : j < L
    · obtain ⟨g, u, rfl, hc1, hp1⟩ := hcell j (by omega)
      have hc2 : wr.cell? ⟨g, j, none⟩ = some u := (hB.cell (p := ⟨g, j, none⟩) (World.block_lt_of_cell? _ _ hc1)).trans hc1
      have hp2 := hp1.keep (Keep.of_below (M := M) hB)
      have hxm : (elems t)[j]'(by omega) ∈ elems t := List.getElem_mem _
      have hcall := hP _ hxm wr u hp2 (hge _ hxm)
      have hsz := good_pr (hge _ hxm)
      have HS : Hid (commas (((elems t).take (j + 1)).map pr) = if j = 0 then pr ((elems t)[j]'(by omega)) else commas (((elems t).take j).map pr) ++ [44, 32] ++ pr ((elems t)[j]'(by omega))) := by
        show _ = _
        rw [List.take_succ_eq_append_getElem (by omega), List.map_append, List.map_cons, List.map_nil, commas_snoc]
        by_cases h0 : j = 0
        · rw [if_pos h0, if_pos (by rw [h0]; rfl)]
        · rw [if_neg h0, if_neg]
          intro e
          have := congrArg List.length e
          rw [List.length_map, List.length_take, List.length_nil] at this
          omega
      have hpre : (commas (((elems t).take j).map pr)).length ≤ 400000 := by
        have := commas_take ((elems t).map pr) j
        rw [← List.map_take] at this
        omega
      obtain ⟨o, rfl⟩ := ptr_is2 hp2
      generalize pr ((elems t)[j]'(by omega)) = x at hcall hsz HS
      generalize hq : commas (((elems t).take j).map pr) = q at hpre HS ⊢
      by_cases h0 : j = 0
      · have HS' : Hid (commas (((elems t).take (j + 1)).map pr) = x) := by show _ = _; rw [HS.out, if_pos h0]
        have HQ : Hid (q = []) := by show _ = _; rw [← hq, h0]; rfl
        clear HS hq
        have hq0 := HQ.out
        subst hq0
        subst h0
        go_wp2_with fail
        refine hcall.mono ?_
        rintro e w1 ⟨rfl, hB1⟩
        go_wp2_with fail
        go_roundg (L - (0 + 1) + 1)
        case measure => omega
        case rel => exact ⟨0 + 1, by omega, rfl, by exact vint (by omega), by rw [HS'.out]; first | done | rfl | simp, hB.trans (hB1.mono hB.size)⟩
      · have HS' : Hid (commas (((elems t).take (j + 1)).map pr) = q ++ [44, 32] ++ x) := by show _ = _; rw [HS.out, if_neg h0]
        have h0' : (0 : Int) < (j : Int) := by omega
        clear HS hq
        go_wp2_with fail
        refine hcall.mono ?_
        rintro e w1 ⟨rfl, hB1⟩
        go_wp2_with fail
        go_roundg (L - (j + 1) + 1)
        case measure => omega
        case rel => exact ⟨j + 1, by omega, rfl, by exact vint (by omega), by rw [HS'.out]; first | done | rfl | simp, hB.trans (hB1.mono hB.size)⟩
    · obtain rfl : j = L := by omega
      have HX : Hid ((elems t).take j = elems t) := List.take_of_length_le (by omega)
      go_wp2_with fail
      go_ret
      exact ⟨by rw [HX.out]; rfl, hB⟩
end Gr
end Go.Proofs.YtamfmffdgidmgaaGreatDoor
end
