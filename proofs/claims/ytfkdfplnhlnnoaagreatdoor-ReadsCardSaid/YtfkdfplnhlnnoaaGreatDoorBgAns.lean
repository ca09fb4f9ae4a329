import Derived.Test.YtfkdfplnhlnnoaaGreatDoorBgGram
namespace Go.Proofs.YtfkdfplnhlnnoaaGreatDoor
namespace Gr
set_option linter.unusedSimpArgs false
set_option linter.unusedVariables false
open T NT PK
/-- the parser's answer -/
def ans (pk : PK) (l : List T) : Option (List T) := parse (mz pk l + 1) pk l
theorem rank_le (pk : PK) : rank pk ≤ 13 := by cases pk <;> simp [rank]; (rename_i k; cases k <;> simp [rank])
theorem big {N : Nat} {pk : PK} {l : List T} (h : 20 * l.length + 20 ≤ N) : parse N pk l = ans pk l := by
  have hr := rank_le pk
  have hm : mz pk l = 20 * l.length + rank pk := rfl
  exact stable_all (mz pk l + 1) N (by omega) (by omega)
theorem ans_step {pk : PK} {l : List T} {X : Option (List T)} (h : ∀ N, 20 * l.length + 100 ≤ N → parse (N + 1) pk l = X) : ans pk l = X := by
  rw [← h _ (Nat.le_refl _)]
  exact (big (by omega)).symm
theorem ans_two {k : NT} {pk : PK} {l : List T} {N : Nat} (h : 20 * l.length + 20 ≤ N) : (parse N (P k) l).bind (parse N pk) = (ans (P k) l).bind (ans pk) := by
  rw [bind_congr (fun x hx => big (N := N) (pk := pk) (by have := shorter hx; omega)), big h]
theorem ans_shorter {k : NT} {l x : List T} (h : ans (P k) l = some x) : x.length < l.length := shorter h
theorem ans_query (l : List T) : ans (P query) l = (ans (P core) l).bind (ans (R query)) := ans_step fun N hN => by
  rw [parse, ans_two (by omega)]
theorem ans_Rquery_cons (u : T) (r : List T) : ans (R query) (u :: r) = if isSet u then (ans (P core) (skip all_ r)).bind (ans (R query)) else some (u :: r) := ans_step fun N hN => by
  simp only [List.length_cons] at hN
  rw [parse, ans_two (by have := skip_le all_ r; omega)]
theorem ans_R_nil (k : NT) (h : k = query ∨ k = items ∨ k = sources ∨ k = columns ∨ k = cnd ∨ k = conj ∨ k = expr ∨ k = term) : ans (R k) [] = some [] := by
  rcases h with h | h | h | h | h | h | h | h <;> subst h <;> rfl
theorem ans_round (k : NT) (l : List T) : ans (round k) l = (eat lp l).bind fun r => (ans (P k) r).bind (eat rp) := ans_step fun N hN => by
  rw [parse]
  refine bind_congr (fun x hx => ?_)
  rw [big (by have := eat_shorter hx; omega)]
theorem ans_core_lp (r : List T) : ans (P core) (lp :: r) = ans (round query) (lp :: r) := ans_step fun N hN => by
  rw [parse, big (by omega)]
def selA (l : List T) : Option (List T) := match l with
  | star :: r' => some r'
  | r' => ans (P items) r'
theorem ans_core_sel (r : List T) : ans (P core) (sel :: r) = (selA (skip dist r)).bind fun r1 => (eat fr_ r1).bind (ans (P tail)) := ans_step fun N hN => by
  simp only [List.length_cons] at hN
  rw [parse_sel]
  have hs := skip_le dist r
  have e : selG N (skip dist r) = selA (skip dist r) := by
    have hs2 : 20 * (skip dist r).length + 20 ≤ N := by omega
    generalize skip dist r = y at hs2
    cases y with
    | nil => exact big hs2
    | cons u y => cases u <;> first | exact big hs2 | rfl
  rw [← e]
  refine bind_congr (fun x hx => bind_congr (fun y hy => big ?_))
  have h1 := selG_le hx
  have h2 := eat_shorter hy
  omega
theorem ans_core_none {u : T} {r : List T} (h1 : u ≠ lp) (h2 : u ≠ sel) : ans (P core) (u :: r) = none := ans_step fun N hN => by
  cases u <;> first | rfl | exact absurd rfl h1 | exact absurd rfl h2
theorem ans_core_nil : ans (P core) [] = none := ans_step fun N hN => rfl
def tailA (l : List T) : Option (List T) := match l with
  | where_ :: r' => ans (P after) r'
  | group :: r' => (eat by_ r').bind (ans (P grouped))
  | r => some r
def afterA (l : List T) : Option (List T) := match l with
  | group :: r' => (eat by_ r').bind (ans (P grouped))
  | r => some r
def groupedA (l : List T) : Option (List T) := match l with
  | having :: r' => ans (P cnd) r'
  | r => some r
theorem ans_tail (l : List T) : ans (P tail) l = (ans (P sources) l).bind tailA := ans_step fun N hN => by
  rw [parse_tail, big (by omega)]
  refine bind_congr (fun x hx => ?_)
  have hl := ans_shorter hx
  cases x with
  | nil => rfl
  | cons u x =>
    simp only [List.length_cons] at hl
    cases u <;> first | exact big (by omega) | exact bind_congr (fun y hy => big (by have := eat_shorter hy; omega)) | rfl
theorem ans_after (l : List T) : ans (P after) l = (ans (P cnd) l).bind afterA := ans_step fun N hN => by
  rw [parse_after, big (by omega)]
  refine bind_congr (fun x hx => ?_)
  have hl := ans_shorter hx
  cases x with
  | nil => rfl
  | cons u x =>
    simp only [List.length_cons] at hl
    cases u <;> first | exact bind_congr (fun y hy => big (by have := eat_shorter hy; omega)) | rfl
theorem ans_grouped (l : List T) : ans (P grouped) l = (ans (P columns) l).bind groupedA := ans_step fun N hN => by
  rw [parse_grouped, big (by omega)]
  refine bind_congr (fun x hx => ?_)
  have hl := ans_shorter hx
  cases x with
  | nil => rfl
  | cons u x =>
    simp only [List.length_cons] at hl
    cases u <;> first | exact big (by omega) | rfl
theorem ans_items (l : List T) : ans (P items) l = (ans (P NT.item) l).bind (ans (R items)) := ans_step fun N hN => by rw [parse, ans_two (by omega)]
theorem ans_sources (l : List T) : ans (P sources) l = (ans (P source) l).bind (ans (R sources)) := ans_step fun N hN => by rw [parse, ans_two (by omega)]
def colA (l : List T) : Option (List T) := match l with
  | dot :: r' => eat name r'
  | r => some r
theorem ans_columns (l : List T) : ans (P columns) l = (ans (P column) l).bind (ans (R columns)) := ans_step fun N hN => by rw [parse, ans_two (by omega)]
theorem ans_cnd (l : List T) : ans (P cnd) l = (ans (P conj) l).bind (ans (R cnd)) := ans_step fun N hN => by rw [parse, ans_two (by omega)]
theorem ans_conj (l : List T) : ans (P conj) l = (ans (P neg) l).bind (ans (R conj)) := ans_step fun N hN => by rw [parse, ans_two (by omega)]
theorem ans_expr (l : List T) : ans (P expr) l = (ans (P term) l).bind (ans (R expr)) := ans_step fun N hN => by rw [parse, ans_two (by omega)]
theorem ans_term (l : List T) : ans (P term) l = (ans (P factor) l).bind (ans (R term)) := ans_step fun N hN => by rw [parse, ans_two (by omega)]
theorem ans_item (l : List T) : ans (P NT.item) l = (ans (P expr) l).bind (ans PK.alias) := ans_step fun N hN => by rw [parse, ans_two (by omega)]
theorem ans_source (l : List T) : ans (P source) l = (eat name l).bind (ans PK.alias) := ans_step fun N hN => by
  rw [parse]
  exact bind_congr (fun x hx => big (by have := eat_shorter hx; omega))
theorem ans_Ritems_cons (u : T) (r : List T) : ans (R items) (u :: r) = if u = comma then (ans (P NT.item) r).bind (ans (R items)) else some (u :: r) := ans_step fun N hN => by
  cases u <;> first | (simp only [parse]; rw [ans_two (by simp only [List.length_cons] at hN; omega)]; rfl) | (simp only [parse]; rfl)
theorem ans_Rsources_cons (u : T) (r : List T) : ans (R sources) (u :: r) = if u = comma then (ans (P source) r).bind (ans (R sources)) else some (u :: r) := ans_step fun N hN => by
  cases u <;> first | (simp only [parse]; rw [ans_two (by simp only [List.length_cons] at hN; omega)]; rfl) | (simp only [parse]; rfl)
theorem ans_Rcolumns_cons (u : T) (r : List T) : ans (R columns) (u :: r) = if u = comma then (ans (P column) r).bind (ans (R columns)) else some (u :: r) := ans_step fun N hN => by
  cases u <;> first | (simp only [parse]; rw [ans_two (by simp only [List.length_cons] at hN; omega)]; rfl) | (simp only [parse]; rfl)
theorem ans_Rcnd_cons (u : T) (r : List T) : ans (R cnd) (u :: r) = if u = or_ then (ans (P conj) r).bind (ans (R cnd)) else some (u :: r) := ans_step fun N hN => by
  cases u <;> first | (simp only [parse]; rw [ans_two (by simp only [List.length_cons] at hN; omega)]; rfl) | (simp only [parse]; rfl)
theorem ans_Rconj_cons (u : T) (r : List T) : ans (R conj) (u :: r) = if u = and_ then (ans (P neg) r).bind (ans (R conj)) else some (u :: r) := ans_step fun N hN => by
  cases u <;> first | (simp only [parse]; rw [ans_two (by simp only [List.length_cons] at hN; omega)]; rfl) | (simp only [parse]; rfl)
theorem ans_Rexpr_cons (u : T) (r : List T) : ans (R expr) (u :: r) = if isAdd u then (ans (P term) r).bind (ans (R expr)) else some (u :: r) := ans_step fun N hN => by
  simp only [List.length_cons] at hN
  rw [parse, ans_two (by omega)]
theorem ans_Rterm_cons (u : T) (r : List T) : ans (R term) (u :: r) = if isMul u then (ans (P factor) r).bind (ans (R term)) else some (u :: r) := ans_step fun N hN => by
  simp only [List.length_cons] at hN
  rw [parse, ans_two (by omega)]
theorem ans_alias (l : List T) : ans PK.alias l = match l with | as_ :: r => eat name r | r => some r := ans_step fun N hN => by
  cases l with
  | nil => simp only [parse]
  | cons u r => cases u <;> simp only [parse]
theorem ans_column (l : List T) : ans (P column) l = (eat name l).bind colA := ans_step fun N hN => by
  simp only [parse]
  refine bind_congr (fun x _ => ?_)
  cases x with
  | nil => rfl
  | cons u x => cases u <;> rfl
theorem ans_neg_not (r : List T) : ans (P neg) (not_ :: r) = ans (P neg) r := ans_step fun N hN => by simp only [List.length_cons] at hN; rw [parse, big (by omega)]
theorem ans_neg (l : List T) (h : ∀ r, l ≠ not_ :: r) : ans (P neg) l = ans (P basic) l := ans_step fun N hN => by
  cases l with
  | nil => simp only [parse]; exact big (by omega)
  | cons u r => cases u <;> first | exact absurd rfl (h r) | (simp only [parse]; exact big (by omega))
theorem ans_basic_ex (r : List T) : ans (P basic) (exists_ :: r) = ans (round query) r := ans_step fun N hN => by simp only [List.length_cons] at hN; rw [parse, big (by omega)]
theorem ans_basic (l : List T) (h : ∀ r, l ≠ exists_ :: r) : ans (P basic) l = if opensC 0 l then ans (round cnd) l else (ans (P expr) l).bind (ans ask) := ans_step fun N hN => by
  cases l with
  | nil => simp only [parse]; rw [big (by omega), ans_two (by omega)]
  | cons u r => cases u <;> first | exact absurd rfl (h r) | (simp only [parse]; rw [big (by omega), ans_two (by omega)])
theorem ans_ask_isnot (r : List T) : ans ask (is_ :: not_ :: r) = eat null r := ans_step fun N hN => by rw [parse]
theorem ans_ask_is (r : List T) (h : ∀ r', r ≠ not_ :: r') : ans ask (is_ :: r) = eat null r := ans_step fun N hN => by
  cases r with
  | nil => rfl
  | cons u r => cases u <;> first | exact absurd rfl (h r) | rfl
theorem ans_ask_any (r : List T) : ans ask (cmp :: any_ :: r) = ans (round query) r := ans_step fun N hN => by simp only [List.length_cons] at hN; rw [parse, big (by omega)]
theorem ans_ask_all (r : List T) : ans ask (cmp :: all_ :: r) = ans (round query) r := ans_step fun N hN => by simp only [List.length_cons] at hN; rw [parse, big (by omega)]
theorem ans_ask_cmp (r : List T) (h : ∀ u r', r = u :: r' → isHow u = false) : ans ask (cmp :: r) = ans (P expr) r := ans_step fun N hN => by
  cases r with
  | nil => simp only [parse]; exact big (by simp only [List.length_cons, List.length_nil] at hN ⊢; omega)
  | cons u r => cases u <;> first | exact absurd (h _ _ rfl) (by decide) | (simp only [parse]; exact big (by simp only [List.length_cons, List.length_nil] at hN ⊢; omega))
theorem ans_ask_not (r : List T) : ans ask (not_ :: r) = (eat in_ r).bind (ans (round query)) := ans_step fun N hN => by
  rw [parse]
  exact bind_congr (fun x hx => big (by have := eat_shorter hx; simp only [List.length_cons] at hN; omega))
theorem ans_ask_else (l : List T) (h : ∀ u r, l = u :: r → u ≠ is_ ∧ u ≠ cmp ∧ u ≠ not_) : ans ask l = (eat in_ l).bind (ans (round query)) := ans_step fun N hN => by
  have e : (eat in_ l).bind (parse N (round query)) = (eat in_ l).bind (ans (round query)) := bind_congr (fun x hx => big (by have := eat_shorter hx; omega))
  cases l with
  | nil => rfl
  | cons u r => cases u <;> first | exact absurd rfl (h _ _ rfl).1 | exact absurd rfl (h _ _ rfl).2.1 | exact absurd rfl (h _ _ rfl).2.2 | (simp only [parse]; exact e)
theorem ans_fac_minus (r : List T) : ans (P factor) (minus :: r) = ans (P factor) r := ans_step fun N hN => by simp only [List.length_cons] at hN; rw [parse, big (by omega)]
theorem ans_fac_null (r : List T) : ans (P factor) (null :: r) = some r := ans_step fun N hN => by rw [parse]
theorem ans_fac_lit (r : List T) : ans (P factor) (lit :: r) = some r := ans_step fun N hN => by rw [parse]
theorem ans_fac_lp (r : List T) : ans (P factor) (lp :: r) = ans (round expr) (lp :: r) := ans_step fun N hN => by rw [parse, big (by omega)]
def countA (l : List T) : Option (List T) := match l with
  | star :: r2 => some r2
  | r2 => ans (P expr) r2
theorem ans_fac_count (r : List T) : ans (P factor) (count :: r) = (eat lp r).bind fun r' => (countA r').bind (eat rp) := ans_step fun N hN => by
  simp only [List.length_cons] at hN
  rw [parse_count]
  refine bind_congr (fun x hx => ?_)
  have hxl := eat_shorter hx
  have e : countG N x = countA x := by
    cases x with
    | nil => exact big (by simp only [List.length_nil]; omega)
    | cons u x => cases u <;> first | exact big (by simp only [List.length_cons] at hxl ⊢; omega) | rfl
  rw [e]
theorem ans_fac_agg (r : List T) : ans (P factor) (agg :: r) = ans (round expr) r := ans_step fun N hN => by simp only [List.length_cons] at hN; rw [parse, big (by omega)]
theorem ans_fac_else (l : List T) (h : ∀ u r, l = u :: r → u ≠ minus ∧ u ≠ null ∧ u ≠ lit ∧ u ≠ lp ∧ u ≠ count ∧ u ≠ agg) : ans (P factor) l = ans (P column) l := ans_step fun N hN => by
  cases l with
  | nil => simp only [parse]; exact big (by omega)
  | cons u r =>
    obtain ⟨h1, h2, h3, h4, h5, h6⟩ := h u r rfl
    cases u <;> first | exact absurd rfl h1 | exact absurd rfl h2 | exact absurd rfl h3 | exact absurd rfl h4 | exact absurd rfl h5 | exact absurd rfl h6 | (simp only [parse]; exact big (by omega))
/-- a text is a query just where the answer is that all was read -/
theorem ans_iff (l : List T) : ans (P query) l = some [] ↔ G query l := by
  rw [← answer_iff]; rfl
end Gr
end Go.Proofs.YtfkdfplnhlnnoaaGreatDoor
