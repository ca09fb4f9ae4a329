import Derived.Test.YtamfmffdgidmgaaGreatDoorBgJa14
section
namespace Go.Proofs.YtamfmffdgidmgaaGreatDoor
open Go.RowKit
namespace Gr
set_option linter.unusedSimpArgs false
set_option linter.unusedVariables false
def markW : List Bg.Str := [[61], [60, 62], [60], [60, 61], [62], [62, 61], [105, 115], [105, 110], [101, 120, 105, 115, 116, 115]]
theorem mark_tabK : ∀ x ∈ keyToks.map Prod.fst, markW.contains x = marks (keyTok x) := by decide
theorem mark_tabS : ∀ x ∈ signToks.map Prod.fst, markW.contains x = marks (signTok x) := by decide
theorem open_tabK : ∀ x ∈ keyToks.map Prod.fst, opened (keyTok x) = 0 := by decide
theorem open_tabS : ∀ x ∈ signToks.map Prod.fst, (if x == [40] then 1 else if x == [41] then -1 else 0 : Int) = opened (signTok x) := by decide
theorem fix_mark {w : RW} (hw : Ok1 w) : fixB (pKind w) (pSpelt w) markW = marks (tok w) := by
  unfold fixB pKind pSpelt tok
  rcases hw with ⟨h, ht⟩ | ⟨h, ht⟩ | h | h | h
  · rw [h, if_neg (by decide), if_neg (by decide), if_neg (by decide), if_pos rfl, mark_tabK _ ht]; rfl
  · rw [h, if_neg (by decide), if_neg (by decide), if_neg (by decide), if_neg (by decide), if_pos rfl, mark_tabS _ ht]; rfl
  · rw [h]; rfl
  · rw [h]; rfl
  · rw [h]; rfl
theorem opens_tok {w : RW} (hw : Ok1 w) : opens w = opened (tok w) := by
  unfold opens signB tok
  rcases hw with ⟨h, ht⟩ | ⟨h, ht⟩ | h | h | h
  · rw [h, if_pos rfl, open_tabK _ ht]; rfl
  · rw [h, if_neg (show ¬ kSign = kKey by decide), if_pos rfl, ← open_tabS _ ht]; rfl
  · rw [h]; rfl
  · rw [h]; rfl
  · rw [h]; rfl
theorem txs9 (W : World) : Txs (W.alloc (.cells #[.string ⟨#[61]⟩, .string ⟨#[60, 62]⟩, .string ⟨#[60]⟩, .string ⟨#[60, 61]⟩, .string ⟨#[62]⟩, .string ⟨#[62, 61]⟩, .string ⟨#[105, 115]⟩, .string ⟨#[105, 110]⟩, .string ⟨#[101, 120, 105, 115, 116, 115]⟩] 9)) W.heap.size markW := fun k hk => by
  have h3 := heap_alloc_new W (.cells #[.string ⟨#[61]⟩, .string ⟨#[60, 62]⟩, .string ⟨#[60]⟩, .string ⟨#[60, 61]⟩, .string ⟨#[62]⟩, .string ⟨#[62, 61]⟩, .string ⟨#[105, 115]⟩, .string ⟨#[105, 110]⟩, .string ⟨#[101, 120, 105, 115, 116, 115]⟩] 9)
  have h9 : k < 9 := hk
  simp only [World.cell?, h3]
  rcases k with _ | _ | _ | _ | _ | _ | _ | _ | _ | k
  all_goals first | rfl | omega
set_option maxRecDepth 10000 in
set_option maxHeartbeats 2000000 in
theorem p_opensCond (Pb : Nat) (ws : List RW) (k : Nat) (W : World) (hP : PS Pb ws k W) :
    Calls Tryz.prog 265 #[.pointer (some ⟨Pb, 0, none⟩)] W fun e w' => e = .returned (.bool (opensC 0 ((ws.drop k).map tok))) ∧ Below W.heap.size W w' := by
  have hlen := hP.len
  have hle := hP.le
  have hok := hP.ok
  obtain ⟨wa, cap, h1, h2⟩ := hP.obj
  have hcap := hP.capo wa cap h1
  have c0 : W.cell? ⟨Pb, 0, none⟩ = some (.slice wa ws.length cap) := by simp [World.cell?, h1]
  have c1 : W.cell? ⟨Pb, 1, none⟩ = some (.int .i64 k) := by simp [World.cell?, h1]
  have HW : Hid (PWords Pb W wa ws) := h2
  clear h1 h2
  generalize hR : opensC 0 ((ws.drop k).map tok) = R
  have HR : Hid (R = opensC 0 ((ws.drop k).map tok)) := hR.symm
  clear hR
  by_cases hk : k < ws.length
  · obtain ⟨g, rfl, hg, q1, q2, q3⟩ := HW.out k hk
    have hgl : g < W.heap.size := World.block_lt_of_cell? _ _ q1
    clear q1 q2 q3
    go_enter Tryz.func265, Tryz.ntmps265
    go_wp2_with fail
    go_quiet (fail)
    go_wp2_with fail
    have hB0 : Below W.heap.size W (W.drewN nq) := below_dr (Below.refl _ _) nq
    generalize hm : ws.length - k = m
    go_loopg [3, 16] (m + 1) (fun gk nv iv wr => ∃ (j : Nat) (n : Int), j ≤ m ∧ gk = m - j + 1 ∧ iv = .int .i64 j ∧ nv = .int .i64 n ∧ 0 ≤ n ∧ n ≤ j ∧ Below W.heap.size W wr ∧ Hid (R = opensC n ((ws.drop (k + j)).map tok)))
    case atStart => exact ⟨0, 0, by omega, by omega, rfl, rfl, by omega, by omega, hB0, HR⟩
    case round =>
      obtain ⟨j, n, hj, rfl, rfl, rfl, hn1, hn2, hB, hq⟩ := hrel
      by_cases hlt : j < m
      · have hkj : k + j < ws.length := by omega
        obtain ⟨g', eg, hg', q1, q2, q3⟩ := HW.out (k + j) hkj
        cases eg
        have p1 := (hB.cell (p := ⟨g, (k + j) * 3, none⟩) hgl).trans q1
        have p2 := (hB.cell (p := ⟨g, (k + j) * 3 + 1, none⟩) hgl).trans q2
        have p3 := (hB.cell (p := ⟨g, (k + j) * 3 + 2, none⟩) hgl).trans q3
        rw [show (k + j) * 3 = k * 3 + j * 3 from by omega] at p1 p2 p3
        have hw := hok _ (List.getElem_mem hkj)
        have HO : pOpen (pKind ws[k + j]) (pSpelt ws[k + j]) = opened (tok ws[k + j]) := (pOpen_opens hw).trans (opens_tok hw)
        have HM := fix_mark hw
        have ho1 : -1 ≤ pOpen (pKind ws[k + j]) (pSpelt ws[k + j]) ∧ pOpen (pKind ws[k + j]) (pSpelt ws[k + j]) ≤ 1 := by
          unfold pOpen
          split
          · omega
          · split <;> omega
        have HD : Hid (R = if n + pOpen (pKind ws[k + j]) (pSpelt ws[k + j]) ≤ 0 then false else if fixB (pKind ws[k + j]) (pSpelt ws[k + j]) markW then true else opensC (n + pOpen (pKind ws[k + j]) (pSpelt ws[k + j])) ((ws.drop (k + (j + 1))).map tok)) := by
          have e := hq.out
          rw [List.drop_eq_getElem_cons hkj, List.map_cons, opensC, ← HO, ← HM] at e
          exact e
        have hx := pVal_is ws[k + j]
        have hcall := fun w => p_opened (pKind ws[k + j]) (pSpelt ws[k + j]) (pVal ws[k + j]) hx w
        have hfix := fun S w (hT : Txs w S markW) => p_isFixed (pKind ws[k + j]) (pSpelt ws[k + j]) (pVal ws[k + j]) hx S 9 markW w hT (by decide)
        clear HO HM q1 q2 q3 hq hw
        generalize pOpen (pKind ws[k + j]) (pSpelt ws[k + j]) = o at *
        generalize fixB (pKind ws[k + j]) (pSpelt ws[k + j]) markW = fx at *
        generalize pVal ws[k + j] = x at *
        generalize pKind ws[k + j] = kd at *
        generalize pSpelt ws[k + j] = sp at *
        obtain ⟨ho2, ho3⟩ := ho1
        rcases hx with rfl | ⟨t, y, rfl⟩
        · by_cases hle0 : n + o ≤ 0
          · have HX : Hid (R = false) := by show _ = _; rw [HD.out, if_pos hle0]
            go_wp2_with fail
            refine (hcall _).mono ?_
            rintro e w1 ⟨rfl, hB1⟩
            have hBa := hB.trans (((wsum _).trans (hB1.mono (by simp))).mono hB.size)
            go_wp2_with fail
            go_ret
            exact ⟨by rw [HX.out]; rfl, hBa⟩
          · have HLE : Hid (¬ n + o ≤ 0) := hle0
            go_wp2_with fail
            refine (hcall _).mono ?_
            rintro e w1 ⟨rfl, hB1⟩
            have hBr : Below wr.heap.size wr w1 := (wsum _).trans (hB1.mono (by simp))
            have hBa := hB.trans (hBr.mono hB.size)
            obtain ⟨r0, r1, r2, rf⟩ := cells3 ((hB1.block wr.heap.size (by simp)).trans (heap_alloc_new wr _))
            go_wp2_with fail
            refine (hfix w1.heap.size _ (txs9 w1)).mono ?_
            rintro e w2 ⟨rfl, hB2⟩
            have hBb := hBa.trans (((wsum _).trans (hB2.mono (by simp))).mono hBa.size)
            cases fx with
            | true =>
              have HX : Hid (R = true) := by show _ = _; rw [HD.out, if_neg (by have := HLE.out; omega)]; rfl
              go_wp2_with fail
              go_ret
              exact ⟨by rw [HX.out]; rfl, hBb⟩
            | false =>
              have HX : Hid (R = opensC (n + o) ((ws.drop (k + (j + 1))).map tok)) := by show _ = _; rw [HD.out, if_neg (by have := HLE.out; omega)]; rfl
              go_wp2_with fail
              go_roundg (m - (j + 1) + 1)
              case measure => omega
              case rel => exact ⟨j + 1, n + o, by omega, rfl, by exact vint (by omega), rfl, by omega, by omega, hBb, HX⟩
        · by_cases hle0 : n + o ≤ 0
          · have HX : Hid (R = false) := by show _ = _; rw [HD.out, if_pos hle0]
            go_wp2_with fail
            refine (hcall _).mono ?_
            rintro e w1 ⟨rfl, hB1⟩
            have hBa := hB.trans (((wsum _).trans (hB1.mono (by simp))).mono hB.size)
            go_wp2_with fail
            go_ret
            exact ⟨by rw [HX.out]; rfl, hBa⟩
          · have HLE : Hid (¬ n + o ≤ 0) := hle0
            go_wp2_with fail
            refine (hcall _).mono ?_
            rintro e w1 ⟨rfl, hB1⟩
            have hBr : Below wr.heap.size wr w1 := (wsum _).trans (hB1.mono (by simp))
            have hBa := hB.trans (hBr.mono hB.size)
            obtain ⟨r0, r1, r2, rf⟩ := cells3 ((hB1.block wr.heap.size (by simp)).trans (heap_alloc_new wr _))
            go_wp2_with fail
            refine (hfix w1.heap.size _ (txs9 w1)).mono ?_
            rintro e w2 ⟨rfl, hB2⟩
            have hBb := hBa.trans (((wsum _).trans (hB2.mono (by simp))).mono hBa.size)
            cases fx with
            | true =>
              have HX : Hid (R = true) := by show _ = _; rw [HD.out, if_neg (by have := HLE.out; omega)]; rfl
              go_wp2_with fail
              go_ret
              exact ⟨by rw [HX.out]; rfl, hBb⟩
            | false =>
              have HX : Hid (R = opensC (n + o) ((ws.drop (k + (j + 1))).map tok)) := by show _ = _; rw [HD.out, if_neg (by have := HLE.out; omega)]; rfl
              go_wp2_with fail
              go_roundg (m - (j + 1) + 1)
              case measure => omega
              case rel => exact ⟨j + 1, n + o, by omega, rfl, by exact vint (by omega), rfl, by omega, by omega, hBb, HX⟩
      · have HX : Hid (R = false) := by show _ = _; rw [hq.out, List.drop_eq_nil_of_le (by omega)]; rfl
        go_wp2_with fail
        go_ret
        exact ⟨by rw [HX.out]; rfl, hB⟩
  · have HX : Hid (R = false) := by show _ = _; rw [HR.out, List.drop_eq_nil_of_le (by omega)]; rfl
    have hk' : ¬ ((k : Int) < (ws.length : Int)) := by omega
    have hm0 : ws.length - k = 0 := by omega
    go_enter Tryz.func265, Tryz.ntmps265
    go_wp2_with fail
    go_quiet (fail)
    go_wp2_with fail
    all_goals
      go_loopg [16] 1 (fun gk iv wr => gk = 1 ∧ iv = .int .i64 0 ∧ W.drewN nq = wr)
      case atStart => exact ⟨rfl, rfl, rfl⟩
      case round =>
        obtain ⟨rfl, rfl, rfl⟩ := hrel
        go_wp2_with fail
        go_ret
        exact ⟨by rw [HX.out]; rfl, below_dr (Below.refl _ _) nq⟩
end Gr
end Go.Proofs.YtamfmffdgidmgaaGreatDoor
end
section
namespace Go.Proofs.YtamfmffdgidmgaaGreatDoor
open Go.RowKit
namespace Gr
set_option linter.unusedSimpArgs false
set_option linter.unusedVariables false
/-- the closure that signs hands back: its two boxes lie at b1, b2, apart from the parser -/
structure SignsAt (Pb b1 b2 S cap : Nat) (ss : List Bg.Str) (W : World) : Prop where
  n1 : b1 ≠ Pb
  n2 : b2 ≠ Pb
  n3 : S ≠ Pb
  c1 : W.cell? ⟨b1, 0, none⟩ = some (.pointer (some ⟨Pb, 0, none⟩))
  c2 : W.cell? ⟨b2, 0, none⟩ = some (.slice (some ⟨S, 0, none⟩) ss.length cap)
  tx : Txs W S ss
theorem SignsAt.keep {Pb b1 b2 S cap : Nat} {ss : List Bg.Str} {W W' : World} (h : SignsAt Pb b1 b2 S cap ss W) (hK : Keep Pb W W') : SignsAt Pb b1 b2 S cap ss W' :=
  ⟨h.n1, h.n2, h.n3, hK.cell h.n1 h.c1, hK.cell h.n2 h.c2, fun k hk => hK.cell h.n3 (h.tx k hk)⟩
set_option maxRecDepth 10000 in
set_option maxHeartbeats 1000000 in
theorem p_signs1 (Pb : Nat) (ws : List RW) (k b1 b2 S cap : Nat) (ss : List Bg.Str) (W : World) (hP : PS Pb ws k W) (h : SignsAt Pb b1 b2 S cap ss W) (hl : ss.length ≤ 400) :
    Calls Tryz.prog 245 #[.pointer (some ⟨b1, 0, none⟩), .pointer (some ⟨b2, 0, none⟩)] W (Took1 Pb ws k W (fixAt ws k ss) (.string ⟨(nSpelt ws k).toArray⟩) (.string ⟨#[]⟩)) := by
  have c1 := h.c1
  have c2 := h.c2
  go_enter Tryz.func245, Tryz.ntmps245
  go_wp2_with fail
  refine (p_takeOne Pb ws k S cap ss _ hP h.tx hl).mono ?_
  rintro e w1 ⟨hK1, ⟨hf, hk, rfl, hP1⟩ | ⟨hf, rfl, hP1⟩⟩
  · go_wp2_with fail
    go_ret
    exact ⟨hK1, .inl ⟨hf, hk, rfl, hP1⟩⟩
  · go_wp2_with fail
    go_ret
    exact ⟨hK1, .inr ⟨hf, rfl, hP1⟩⟩
set_option maxRecDepth 10000 in
set_option maxHeartbeats 1000000 in
theorem p_signs (Pb S cap : Nat) (ss : List Bg.Str) (W : World) (hS : Txs W S ss) (hPb : Pb < W.heap.size) (hSP : S ≠ Pb) :
    Calls Tryz.prog 225 #[.pointer (some ⟨Pb, 0, none⟩), .slice (some ⟨S, 0, none⟩) ss.length cap] W fun e w' => ∃ b1 b2, e = .returned (.func (.func 245) #[] #[.pointer (some ⟨b1, 0, none⟩), .pointer (some ⟨b2, 0, none⟩)]) ∧ SignsAt Pb b1 b2 S cap ss w' ∧ Below W.heap.size W w' := by
  have hmf : ∀ (fn : Fn) (first cap : Array Value) (w : World), (Instr.makeFunc fn first cap).run Tryz.prog w = .ok (.func fn first cap) w := fun _ _ _ _ => rfl
  go_enter Tryz.func225, Tryz.ntmps225
  go_wp2_with fail
  go_ret
  have hB : Below W.heap.size W ((W.alloc (.cells #[.pointer (some ⟨Pb, 0, none⟩)] 152)).alloc (.cells #[.slice (some ⟨S, 0, none⟩) ss.length cap] 44)) := (wsum _).trans ((wsum _).mono (by simp))
  have e1 : (W.alloc (.cells #[.pointer (some ⟨Pb, 0, none⟩)] 152)).heap.size = W.heap.size + 1 := by simp
  have h1 := (Keep.alloc (W.heap.size + 5) (W.alloc (.cells #[.pointer (some ⟨Pb, 0, none⟩)] 152)) (.cells #[.slice (some ⟨S, 0, none⟩) ss.length cap] 44)).obj (by omega) (heap_alloc_new W (.cells #[.pointer (some ⟨Pb, 0, none⟩)] 152))
  have h2 := heap_alloc_new (W.alloc (.cells #[.pointer (some ⟨Pb, 0, none⟩)] 152)) (.cells #[.slice (some ⟨S, 0, none⟩) ss.length cap] 44)
  rw [e1] at h2
  refine ⟨W.heap.size, W.heap.size + 1, rfl, ⟨by omega, by omega, hSP, ?_, ?_, hS.below hB⟩, hB⟩
  · simp only [World.cell?, h1]; rfl
  · simp only [World.cell?, h2]; rfl
end Gr
end Go.Proofs.YtamfmffdgidmgaaGreatDoor
end
section
namespace Go.Proofs.YtamfmffdgidmgaaGreatDoor
namespace Gr
set_option linter.unusedSimpArgs false
set_option linter.unusedVariables false
/-- a number's digits -/
def decN (n : Nat) : Bg.Str := if n < 10 then [UInt8.ofNat (48 + n)] else decN (n / 10) ++ [UInt8.ofNat (48 + n % 10)]
termination_by n
decreasing_by omega
def dec (n : Int) : Bg.Str := if n < 0 then 45 :: decN n.natAbs else decN n.natAbs
def quoteB : Bg.Str → Bg.Str
  | [] => []
  | c :: r => if c = 39 then 39 :: 39 :: quoteB r else c :: quoteB r
def quote (s : Bg.Str) : Bg.Str := 39 :: (quoteB s ++ [39])
def commas : List Bg.Str → Bg.Str
  | [] => []
  | [a] => a
  | a :: r => a ++ [44, 32] ++ commas r
def asP (s name : Bg.Str) : Bg.Str := if name = [] then s else s ++ [32, 97, 115, 32] ++ name
def notP (b : Bool) : Bg.Str := if b then [110, 111, 116, 32] else []
def selP (f : Fl) (is fs gs : List Bg.Str) (w h : Option Bg.Str) : Bg.Str :=
  [115, 101, 108, 101, 99, 116, 32] ++ (if f.dist then [100, 105, 115, 116, 105, 110, 99, 116, 32] else []) ++ (if f.star then [42] else []) ++ commas is ++ [32, 102, 114, 111, 109, 32] ++ commas fs ++ (match w with | some x => [32, 119, 104, 101, 114, 101, 32] ++ x | none => []) ++ (if gs = [] then [] else [32, 103, 114, 111, 117, 112, 32, 98, 121, 32] ++ commas gs) ++ (match h with | some x => [32, 104, 97, 118, 105, 110, 103, 32] ++ x | none => [])
def fns4 : List Bg.Str := [[99, 111, 117, 110, 116], [115, 117, 109], [109, 105, 110], [109, 97, 120]]
def sets3 : List Bg.Str := [[117, 110, 105, 111, 110], [105, 110, 116, 101, 114, 115, 101, 99, 116], [101, 120, 99, 101, 112, 116]]
/-- a part's text, of its parts' texts -/
def prN (f : Fl) (ks is fs gs : List Bg.Str) (w h : Option Bg.Str) : Bg.Str :=
  if f.kind = [110, 117, 109] then dec f.num
  else if f.kind = [116, 101, 120, 116] then quote f.text
  else if f.kind = [110, 117, 108, 108] then [110, 117, 108, 108]
  else if f.kind = [99, 111, 108, 117, 109, 110] then (if f.of_ = [] then f.text else f.of_ ++ [46] ++ f.text)
  else if f.kind = [110, 101, 103] then [40, 45] ++ ks.getD 0 [] ++ [41]
  else if f.kind ∈ fns4 then (if f.star then [99, 111, 117, 110, 116, 40, 42, 41] else f.kind ++ [40] ++ ks.getD 0 [] ++ [41])
  else if f.kind = [110, 111, 116] then [40, 110, 111, 116, 32] ++ ks.getD 0 [] ++ [41]
  else if f.kind = [101, 120, 105, 115, 116, 115] then [101, 120, 105, 115, 116, 115, 32, 40] ++ ks.getD 0 [] ++ [41]
  else if f.kind = [105, 115, 110, 117, 108, 108] then ks.getD 0 [] ++ [32, 105, 115, 32] ++ notP f.not_ ++ [110, 117, 108, 108]
  else if f.kind = [105, 110] then ks.getD 0 [] ++ [32] ++ notP f.not_ ++ [105, 110, 32, 40] ++ ks.getD 1 [] ++ [41]
  else if f.kind = [97, 110, 121] ∨ f.kind = [97, 108, 108] then ks.getD 0 [] ++ [32] ++ f.sign ++ [32] ++ f.kind ++ [32, 40] ++ ks.getD 1 [] ++ [41]
  else if f.kind = [99, 111, 109, 112, 97, 114, 101] then ks.getD 0 [] ++ [32] ++ f.sign ++ [32] ++ ks.getD 1 []
  else if f.kind = [105, 116, 101, 109] then asP (ks.getD 0 []) f.as_
  else if f.kind = [115, 111, 117, 114, 99, 101] then asP f.text f.as_
  else if f.kind = [115, 101, 108, 101, 99, 116] then selP f is fs gs w h
  else if f.kind ∈ sets3 ∧ f.all = true then [40] ++ ks.getD 0 [] ++ [32] ++ f.kind ++ [32, 97, 108, 108, 32] ++ ks.getD 1 [] ++ [41]
  else [40] ++ ks.getD 0 [] ++ [32] ++ f.kind ++ [32] ++ ks.getD 1 [] ++ [41]
def Tr.isNode : Tr → Bool | .node _ _ _ _ _ _ _ => true | _ => false
mutual
/-- a part's text -/
def pr : Tr → Bg.Str
  | .node f k i fr g w h => prN f (prs k) (prs i) (prs fr) (prs g) (if w.isNode then some (pr w) else none) (if h.isNode then some (pr h) else none)
  | .nil => []
  | .cons _ _ => []
def prs : Tr → List Bg.Str
  | .cons h t => pr h :: prs t
  | .nil => []
  | .node _ _ _ _ _ _ _ => []
end
/-- how many parts a part's print asks for -/
def arity (f : Fl) : Nat :=
  if f.kind = [110, 117, 109] ∨ f.kind = [116, 101, 120, 116] ∨ f.kind = [110, 117, 108, 108] ∨ f.kind = [99, 111, 108, 117, 109, 110] ∨ f.kind = [115, 111, 117, 114, 99, 101] ∨ f.kind = [115, 101, 108, 101, 99, 116] then 0
  else if f.kind = [110, 101, 103] ∨ f.kind = [110, 111, 116] ∨ f.kind = [101, 120, 105, 115, 116, 115] ∨ f.kind = [105, 115, 110, 117, 108, 108] ∨ f.kind = [105, 116, 101, 109] then 1
  else if f.kind ∈ fns4 then (if f.star then 0 else 1)
  else 2
/-- what is plain in a part is small -/
structure FlOk (f : Fl) : Prop where
  kind : f.kind.length ≤ 400
  sign : f.sign.length ≤ 400
  text : f.text.length ≤ 400
  of_ : f.of_.length ≤ 400
  as_ : f.as_.length ≤ 400
  lo : -9223372036854775808 ≤ f.num
  hi : f.num ≤ 9223372036854775807
/-- a part's own facts -/
structure NodeOk (f : Fl) (k i fr g w h : Tr) : Prop where
  ar : arity f ≤ k.len
  fl : FlOk f
  pr : (pr (.node f k i fr g w h)).length ≤ 400000
  ci : (commas (prs i)).length ≤ 400000
  cf : (commas (prs fr)).length ≤ 400000
  cg : (commas (prs g)).length ≤ 400000
  lk : k.len ≤ 400
  li : i.len ≤ 400
  lf : fr.len ≤ 400
  lg : g.len ≤ 400
mutual
/-- a part that can be printed -/
def Good : Tr → Prop
  | .node f k i fr g w h => NodeOk f k i fr g w h ∧ GoodL k ∧ GoodL i ∧ GoodL fr ∧ GoodL g ∧ (w.isNode = true → Good w) ∧ (h.isNode = true → Good h) ∧ (w = .nil ∨ w.isNode = true) ∧ (h = .nil ∨ h.isNode = true)
  | .nil => False
  | .cons _ _ => False
def GoodL : Tr → Prop
  | .cons h t => Good h ∧ GoodL t
  | .nil => True
  | .node _ _ _ _ _ _ _ => False
end
/-- a list's parts -/
def elems : Tr → List Tr
  | .cons h t => h :: elems t
  | _ => []
theorem elems_len : ∀ t : Tr, (elems t).length = t.len
  | .cons h t => by simp [elems, Tr.len, elems_len t]
  | .nil => rfl
  | .node _ _ _ _ _ _ _ => rfl
theorem prs_elems : ∀ t : Tr, prs t = (elems t).map pr
  | .cons h t => by simp [elems, prs, prs_elems t]
  | .nil => by simp [elems, prs]
  | .node _ _ _ _ _ _ _ => by simp [elems, prs]
theorem good_elems : ∀ t : Tr, GoodL t → ∀ x ∈ elems t, Good x
  | .cons h t, hg, x, hx => by
    rw [GoodL] at hg
    rcases List.mem_cons.1 hx with rfl | hx
    · exact hg.1
    · exact good_elems t hg.2 x hx
  | .nil, _, x, hx => by simp [elems] at hx
  | .node _ _ _ _ _ _ _, _, x, hx => by simp [elems] at hx
theorem prs_len : ∀ t : Tr, GoodL t → (prs t).length = t.len
  | .nil, _ => by simp [prs, Tr.len]
  | .cons h t, hg => by
    rw [GoodL] at hg
    simp [prs, Tr.len, prs_len t hg.2]
  | .node _ _ _ _ _ _ _, hg => by rw [GoodL] at hg; exact hg.elim
end Gr
end Go.Proofs.YtamfmffdgidmgaaGreatDoor
end
