import PyProof.Rows.All
import Wide.All
import OpenK.AllK
import Wide.FinOn
import Open.SpecLaws
import KE.OsGo
import HandS.ForSpec
import HandS.ForMost
import HandS.Style
import PySem.Challenge.RW_spreadpicks_s04_check_prices
set_option Elab.async false
set_option linter.all false
set_option maxRecDepth 100000
set_option maxHeartbeats 4000000
/-! The reading of points: plain lists alone. -/
namespace My
open Ks591

def evens {α : Type} : List α → List α
  | [] => []
  | [a] => [a]
  | a :: _ :: r => a :: evens r
def odds {α : Type} : List α → List α
  | [] => []
  | [_] => []
  | _ :: b :: r => b :: odds r

theorem evens_map {α β : Type} (f : α → β) : ∀ l : List α, evens (l.map f) = (evens l).map f
  | [] => rfl
  | [_] => rfl
  | a :: b :: r => by
    show f a :: evens (r.map f) = f a :: (evens r).map f
    rw [evens_map f r]
theorem odds_map {α β : Type} (f : α → β) : ∀ l : List α, odds (l.map f) = (odds l).map f
  | [] => rfl
  | [_] => rfl
  | a :: b :: r => by
    show f b :: odds (r.map f) = f b :: (odds r).map f
    rw [odds_map f r]
theorem evens_length {α : Type} : ∀ l : List α, (evens l).length = (l.length + 1) / 2
  | [] => by simp [evens]
  | [_] => by simp [evens]
  | a :: b :: r => by
    show (evens r).length + 1 = (r.length + 1 + 1 + 1) / 2
    rw [evens_length r]
    omega
theorem odds_length {α : Type} : ∀ l : List α, (odds l).length = l.length / 2
  | [] => by simp [odds]
  | [_] => by simp [odds]
  | a :: b :: r => by
    show (odds r).length + 1 = (r.length + 1 + 1) / 2
    rw [odds_length r]
    omega
theorem evens_mem {α : Type} {x : α} : ∀ {l : List α}, x ∈ evens l → x ∈ l
  | [], h => h
  | [_], h => h
  | a :: b :: r, h => by
    cases h with
    | head => exact .head _
    | tail _ h => exact .tail _ (.tail _ (evens_mem h))
theorem odds_mem {α : Type} {x : α} : ∀ {l : List α}, x ∈ odds l → x ∈ l
  | [], h => h
  | [_], h => nomatch h
  | a :: b :: r, h => by
    cases h with
    | head => exact .tail _ (.head _)
    | tail _ h => exact .tail _ (.tail _ (odds_mem h))

/-- the program's two tests of a list of numbers -/
def btw (lo hi : Int) (l : List Int) : Bool := l.all fun x => decide (lo ≤ x) && decide (x ≤ hi)
def incr (l : List Int) : Bool := (List.range (l.length - 1)).all fun k => decide (l.getD k 0 < l.getD (k + 1) 0)
def incrR : List Int → Bool
  | a :: b :: r => decide (a < b) && incrR (b :: r)
  | _ => true
theorem incr_is : ∀ l : List Int, incr l = incrR l
  | [] => rfl
  | [_] => rfl
  | a :: b :: r => by
    have ih := incr_is (b :: r)
    unfold incr at ih ⊢
    have e : (a :: b :: r).length - 1 = (b :: r).length - 1 + 1 := by simp
    rw [e, List.range_succ_eq_map, List.all_cons, List.all_map]
    show (decide (a < b) && _) = (decide (a < b) && incrR (b :: r))
    rw [← ih]
    rfl
def okPts (ns : List Int) : Bool := decide (ns.length % 2 = 0) && decide (ns.length ≤ 24) && btw 0 999 (evens ns) && incr (evens ns) && btw 0 99 (odds ns)

/-- the points that a flat list tells -/
def mk : List Nat → Points
  | p :: w :: r => ⟨p, w⟩ :: mk r
  | _ => []
def good : List Nat → Bool
  | [] => true
  | [_] => false
  | p :: w :: r => decide (p ≤ 999) && decide (w ≤ 99) && (match r with | [] => true | q :: _ => decide (p < q)) && good r
theorem parse_is : ∀ l : List Nat, parsePoints l = if good l = true then some (mk l) else none
  | [] => rfl
  | [_] => rfl
  | p :: w :: r => by
    show (if 999 < p ∨ 99 < w then none else match parsePoints r with
      | none => none
      | some points => match points with
        | [] => some [⟨p, w⟩]
        | next :: _ => if p < next.position then some (⟨p, w⟩ :: points) else none) = if (decide (p ≤ 999) && decide (w ≤ 99) && (match r with | [] => true | q :: _ => decide (p < q)) && good r) = true then some (⟨p, w⟩ :: mk r) else none
    rw [parse_is r]
    by_cases h1 : 999 < p ∨ 99 < w
    · rw [if_pos h1, if_neg]
      intro h
      simp only [Bool.and_eq_true, decide_eq_true_eq] at h
      omega
    · rw [if_neg h1]
      have h2 : (decide (p ≤ 999) && decide (w ≤ 99)) = true := by
        simp only [Bool.and_eq_true, decide_eq_true_eq]
        omega
      rw [h2, Bool.true_and]
      cases hg : good r with
      | false =>
        rw [Bool.and_false]
        rfl
      | true =>
        rw [Bool.and_true]
        match r, hg with
        | [], _ => rfl
        | q :: v :: r', _ =>
          show (if p < q then some (⟨p, w⟩ :: ⟨q, v⟩ :: mk r') else none) = if decide (p < q) = true then some (⟨p, w⟩ :: ⟨q, v⟩ :: mk r') else none
          by_cases h : p < q
          · rw [if_pos h, if_pos (decide_eq_true h)]
          · rw [if_neg h, if_neg (by rw [decide_eq_false h]; decide)]
theorem good_is : ∀ l : List Nat, good l = (decide (l.length % 2 = 0) && btw 0 999 ((evens l).map Int.ofNat) && incrR ((evens l).map Int.ofNat) && btw 0 99 ((odds l).map Int.ofNat))
  | [] => rfl
  | [_] => rfl
  | [p, w] => by
    simp only [good, evens, odds, btw, incrR, List.map_cons, List.map_nil, List.all_cons, List.all_nil, List.length_cons, List.length_nil]
    rw [Bool.eq_iff_iff]
    simp
    omega
  | p :: w :: q :: r => by
    have ih := good_is (q :: r)
    have ee : ∃ t, evens (q :: r) = q :: t := by
      cases r with
      | nil => exact ⟨_, rfl⟩
      | cons b r => exact ⟨_, rfl⟩
    obtain ⟨t, et⟩ := ee
    show (decide (p ≤ 999) && decide (w ≤ 99) && decide (p < q) && good (q :: r)) = _
    rw [ih]
    show _ = (decide (((q :: r).length + 1 + 1) % 2 = 0) && btw 0 999 ((p :: evens (q :: r)).map Int.ofNat) && incrR ((p :: evens (q :: r)).map Int.ofNat) && btw 0 99 ((w :: odds (q :: r)).map Int.ofNat))
    rw [et]
    simp only [List.map_cons, incrR]
    unfold btw
    simp only [List.all_cons]
    have e2 : decide (((q :: r).length + 1 + 1) % 2 = 0) = decide ((q :: r).length % 2 = 0) := by
      rw [show ((q :: r).length + 1 + 1) % 2 = (q :: r).length % 2 by omega]
    rw [e2]
    rw [Bool.eq_iff_iff]
    simp only [Bool.and_eq_true, decide_eq_true_eq, Int.ofNat_eq_natCast]
    constructor
    · intro ⟨⟨⟨h1, h2⟩, h3⟩, ⟨⟨h4, h5⟩, h6⟩, h7⟩
      exact ⟨⟨⟨h4, ⟨by omega, by omega⟩, h5⟩, by omega, h6⟩, ⟨by omega, by omega⟩, h7⟩
    · intro ⟨⟨⟨h4, ⟨_, h1⟩, h5⟩, h3, h6⟩, ⟨_, h2⟩, h7⟩
      exact ⟨⟨⟨by omega, by omega⟩, by omega⟩, ⟨⟨h4, h5⟩, h6⟩, h7⟩
theorem mk_length : ∀ l : List Nat, (mk l).length = l.length / 2
  | [] => rfl
  | [_] => by simp [mk]
  | p :: w :: r => by
    show (mk r).length + 1 = (r.length + 1 + 1) / 2
    rw [mk_length r]
    omega
/-- a refused list -/
theorem with_bad {flat : List Nat} {sp : Nat} {f : Points → Result} (h : okPts (flat.map Int.ofNat) = false ∨ sp < 1 ∨ 999 < sp) : withPoints sp flat f = number (-22) := by
  unfold withPoints
  rw [parse_is]
  by_cases hg : good flat = true
  · rw [if_pos hg]
    show (if maxPoints < (mk flat).length ∨ sp < 1 ∨ 999 < sp then number (-22) else f (mk flat)) = _
    refine if_pos ?_
    rcases h with h | h
    · left
      rw [good_is] at hg
      unfold okPts at h
      rw [List.length_map, evens_map, odds_map, incr_is] at h
      rw [mk_length]
      show 12 < _
      simp only [Bool.and_eq_true, decide_eq_true_eq] at hg
      rw [hg.1.1.2, hg.1.2, hg.2, decide_eq_true hg.1.1.1] at h
      simp at h
      omega
    · exact .inr h
  · rw [if_neg hg]
theorem with_good {flat : List Nat} {sp : Nat} {f : Points → Result} (h : okPts (flat.map Int.ofNat) = true) (h1 : 1 ≤ sp) (h2 : sp ≤ 999) : withPoints sp flat f = f (mk flat) := by
  have hl : flat.length ≤ 24 := by
    unfold okPts at h
    rw [List.length_map] at h
    simp only [Bool.and_eq_true, decide_eq_true_eq] at h
    exact h.1.1.1.2
  have hg : good flat = true := by
    unfold okPts at h
    rw [List.length_map, evens_map, odds_map, incr_is] at h
    rw [good_is]
    simp only [Bool.and_eq_true, decide_eq_true_eq] at h ⊢
    exact ⟨⟨⟨h.1.1.1.1, h.1.1.2⟩, h.1.2⟩, h.2⟩
  unfold withPoints
  rw [parse_is, if_pos hg]
  show (if maxPoints < (mk flat).length ∨ sp < 1 ∨ 999 < sp then number (-22) else f (mk flat)) = _
  refine if_neg ?_
  rw [mk_length]
  show ¬ (12 < _ ∨ _)
  omega
theorem mk_pos : ∀ (l : List Nat) (i : Nat), i < (mk l).length → (pointAt (mk l) i).position = (evens l).getD i 0 ∧ (pointAt (mk l) i).weight = (odds l).getD i 0
  | [], i, h => absurd h (Nat.not_lt_zero _)
  | [_], i, h => absurd h (Nat.not_lt_zero _)
  | p :: w :: r, 0, _ => ⟨rfl, rfl⟩
  | p :: w :: r, i + 1, h => mk_pos r i (Nat.lt_of_succ_lt_succ h)
/-- what the good points are -/
structure Pts (pts : Points) (n : Nat) (ps ws : List Nat) : Prop where
  len : pts.length = n
  most : n ≤ 12
  lp : ps.length = n
  lw : ws.length = n
  pos : ∀ i, i < n → (pointAt pts i).position = ps.getD i 0
  wt : ∀ i, i < n → (pointAt pts i).weight = ws.getD i 0
  up : ∀ i j, i < j → j < n → ps.getD i 0 < ps.getD j 0
  pm : ∀ i, i < n → ps.getD i 0 ≤ 999
  wm : ∀ i, i < n → ws.getD i 0 ≤ 99
theorem incrR_up : ∀ (l : List Nat), incrR (l.map Int.ofNat) = true → ∀ i j, i < j → j < l.length → l.getD i 0 < l.getD j 0
  | [], _, i, j, _, h => absurd h (Nat.not_lt_zero _)
  | [_], _, i, j, h0, h => by simp at h; omega
  | a :: b :: r, h, i, j, h0, hj => by
    have h' : decide ((a : Int) < (b : Int)) = true ∧ incrR ((b :: r).map Int.ofNat) = true := by
      simpa [incrR] using h
    have ih := incrR_up (b :: r) h'.2
    have ab : a < b := by have := h'.1; simp at this; exact this
    match i, j, h0, hj with
    | 0, 1, _, _ => exact ab
    | 0, j + 2, _, hj =>
      have := ih 0 (j + 1) (by omega) (by simp at hj ⊢; omega)
      exact Nat.lt_trans ab this
    | i + 1, j + 1, h0, hj =>
      exact ih i j (by omega) (by simp at hj ⊢; omega)
theorem btw_le {hi : Nat} : ∀ (l : List Nat), btw 0 (hi : Int) (l.map Int.ofNat) = true → ∀ i, i < l.length → l.getD i 0 ≤ hi := by
  intro l h i hi'
  unfold btw at h
  rw [List.all_map, List.all_eq_true] at h
  have := h l[i] (List.getElem_mem hi')
  simp at this
  rw [List.getD_eq_getElem?_getD, List.getElem?_eq_getElem hi']
  exact this
theorem pts_of {flat : List Nat} (h : okPts (flat.map Int.ofNat) = true) : Pts (mk flat) (flat.length / 2) (evens flat) (odds flat) := by
  unfold okPts at h
  rw [List.length_map, evens_map, odds_map, incr_is] at h
  simp only [Bool.and_eq_true, decide_eq_true_eq] at h
  obtain ⟨⟨⟨⟨h1, h2⟩, h3⟩, h4⟩, h5⟩ := h
  have le : (evens flat).length = flat.length / 2 := by rw [evens_length]; omega
  have lo : (odds flat).length = flat.length / 2 := odds_length flat
  refine ⟨mk_length flat, by omega, le, lo, fun i hi => (mk_pos flat i (by rw [mk_length]; exact hi)).1, fun i hi => (mk_pos flat i (by rw [mk_length]; exact hi)).2, ?_, ?_, ?_⟩
  · intro i j hij hj
    exact incrR_up _ h4 i j hij (by omega)
  · intro i hi
    exact btw_le (hi := 999) _ h3 i (by omega)
  · intro i hi
    exact btw_le (hi := 99) _ h5 i (by omega)
end My
/-! Validity and weight of a set: plain lists alone. -/
namespace My
open Ks591

def iabs (i : Int) : Int := if i < 0 then -i else i
def adj (f : Int → Int → Bool) (l : List Int) : Bool := (List.range (l.length - 1)).all fun k => f (l.getD k 0) (l.getD (k + 1) 0)
def adjR (f : Int → Int → Bool) : List Int → Bool
  | a :: b :: r => f a b && adjR f (b :: r)
  | _ => true
theorem adj_is (f : Int → Int → Bool) : ∀ l : List Int, adj f l = adjR f l
  | [] => rfl
  | [_] => rfl
  | a :: b :: r => by
    have ih := adj_is f (b :: r)
    unfold adj at ih ⊢
    have e : (a :: b :: r).length - 1 = (b :: r).length - 1 + 1 := by simp
    rw [e, List.range_succ_eq_map, List.all_cons, List.all_map]
    show (f a b && _) = (f a b && adjR f (b :: r))
    rw [← ih]
    rfl
/-- the program's test of two positions -/
def conf (sp a b : Int) : Bool := decide (iabs (a - b) < sp)
theorem conf_up {sp a b : Nat} (h : a < b) : conf (sp : Int) (a : Int) (b : Int) = false ↔ a + sp ≤ b := by
  unfold conf iabs
  rw [decide_eq_false_iff_not]
  have : ((a : Int) - (b : Int) < 0) := by omega
  rw [if_pos this]
  omega
theorem conf_comm (sp a b : Int) : conf sp a b = conf sp b a := by
  unfold conf iabs
  congr 1
  split <;> split <;> simp <;> omega
/-- is_valid of a list of positions -/
def sep (sp : Int) (l : List Int) : Bool := adj (fun a b => !conf sp a b) l
theorem sep_pair {sp : Nat} : ∀ {l : List Nat}, l.Pairwise (· < ·) → (sep (sp : Int) (l.map Int.ofNat) = true ↔ l.Pairwise fun a b => a + sp ≤ b)
  | [], _ => by simp [sep, adj]
  | [_], _ => by simp [sep, adj]
  | a :: b :: r, h => by
    have ih := sep_pair (sp := sp) (List.pairwise_cons.mp h).2
    unfold sep at ih ⊢
    rw [adj_is] at ih ⊢
    show ((!conf (sp : Int) (a : Int) (b : Int)) && adjR _ ((b :: r).map Int.ofNat)) = true ↔ _
    rw [Bool.and_eq_true, ih, List.pairwise_cons (l := b :: r), Bool.not_eq_true', conf_up ((List.pairwise_cons.mp h).1 b (.head _))]
    constructor
    · intro ⟨h1, h2⟩
      refine ⟨fun x hx => ?_, h2⟩
      cases hx with
      | head => exact h1
      | tail _ hx =>
        have := (List.pairwise_cons.mp (List.pairwise_cons.mp h).2).1 x hx
        omega
    · intro ⟨h1, h2⟩
      exact ⟨h1 b (.head _), h2⟩
theorem range_pair {n : Nat} {R : Nat → Nat → Prop} : (List.range n).Pairwise R ↔ ∀ i j, i < j → j < n → R i j := by
  rw [List.pairwise_iff_getElem]
  constructor
  · intro h i j hij hj
    have := h i j (by simp; omega) (by simp; omega) hij
    simpa using this
  · intro h i j hi hj hij
    simp at hi hj ⊢
    exact h i j hij hj
/-- the indexes of a set's points -/
def mem (m n : Nat) : List Nat := (List.range n).filter fun i => m.testBit i
/-- a set is valid -/
def Val (ps : List Nat) (n sp m : Nat) : Prop := ∀ i j, i < j → j < n → m.testBit i = true → m.testBit j = true → ps.getD i 0 + sp ≤ ps.getD j 0
theorem sep_mem {ps : List Nat} {n sp m : Nat} (up : ∀ i j, i < j → j < n → ps.getD i 0 < ps.getD j 0) : sep (sp : Int) ((mem m n).map fun i => ((ps.getD i 0 : Nat) : Int)) = true ↔ Val ps n sp m := by
  have e : (mem m n).map (fun i => ((ps.getD i 0 : Nat) : Int)) = ((mem m n).map fun i => ps.getD i 0).map Int.ofNat := by
    rw [List.map_map]; rfl
  have hp : ((mem m n).map fun i => ps.getD i 0).Pairwise (· < ·) := by
    rw [List.pairwise_map]
    unfold mem
    rw [List.pairwise_filter, range_pair]
    intro i j hij hj _ _
    exact up i j hij hj
  rw [e, sep_pair hp, List.pairwise_map]
  unfold mem
  rw [List.pairwise_filter, range_pair]
  rfl
theorem conflict_is {pts : Points} {n : Nat} {ps ws : List Nat} (P : Pts pts n ps ws) {sp i j : Nat} (hi : i < n) (hj : j < n) : conflict pts sp i j = (i != j && decide ((ps.getD i 0 - ps.getD j 0) + (ps.getD j 0 - ps.getD i 0) < sp)) := by
  unfold conflict
  rw [P.pos i hi, P.pos j hj]
theorem conflict_up {pts : Points} {n : Nat} {ps ws : List Nat} (P : Pts pts n ps ws) {sp i j : Nat} (hij : i < j) (hj : j < n) : (conflict pts sp i j = false ↔ ps.getD i 0 + sp ≤ ps.getD j 0) ∧ (conflict pts sp j i = false ↔ ps.getD i 0 + sp ≤ ps.getD j 0) := by
  have := P.up i j hij hj
  rw [conflict_is P (by omega) hj, conflict_is P hj (by omega)]
  have e1 : (i != j) = true := by simp; omega
  have e2 : (j != i) = true := by simp; omega
  rw [e1, e2, Bool.true_and, Bool.true_and, decide_eq_false_iff_not, decide_eq_false_iff_not]
  omega
theorem conflict_self {pts : Points} {sp i : Nat} : conflict pts sp i i = false := by
  unfold conflict
  simp
theorem valid_iff {pts : Points} {n : Nat} {ps ws : List Nat} (P : Pts pts n ps ws) {sp m : Nat} : isValidSelection pts sp m = true ↔ Val ps n sp m := by
  unfold isValidSelection
  rw [P.len, List.all_eq_true]
  constructor
  · intro h i j hij hj bi bj
    have h1 := h i (List.mem_range.mpr (by omega))
    rw [List.all_eq_true] at h1
    have h2 := h1 j (List.mem_range.mpr hj)
    rw [bi, bj] at h2
    simp only [Bool.true_and, Bool.not_eq_true'] at h2
    exact (conflict_up P hij hj).1.mp h2
  · intro h i hi
    rw [List.all_eq_true]
    intro j hj
    have hi := List.mem_range.mp hi
    have hj := List.mem_range.mp hj
    cases bi : m.testBit i with
    | false => simp
    | true =>
      cases bj : m.testBit j with
      | false => simp
      | true =>
        simp only [Bool.true_and, Bool.not_eq_true']
        rcases Nat.lt_trichotomy i j with c | c | c
        · exact (conflict_up P c hj).1.mpr (h i j c hj bi bj)
        · subst c
          exact conflict_self
        · exact (conflict_up P c hi).2.mpr (h j i c hi bj bi)
theorem valid_is {pts : Points} {n : Nat} {ps ws : List Nat} (P : Pts pts n ps ws) {sp m : Nat} : sep (sp : Int) ((mem m n).map fun i => ((ps.getD i 0 : Nat) : Int)) = isValidSelection pts sp m := by
  rw [Bool.eq_iff_iff, sep_mem P.up, valid_iff P]
/-- the weight of a set -/
def wt (ws : List Nat) (n m : Nat) : Nat := ((List.range n).map fun i => if m.testBit i = true then ws.getD i 0 else 0).sum
theorem weight_is {pts : Points} {n : Nat} {ps ws : List Nat} (P : Pts pts n ps ws) {m : Nat} : weightOf pts m = wt ws n m := by
  unfold weightOf wt
  rw [P.len]
  congr 1
  refine List.map_congr_left fun i hi => ?_
  rw [P.wt i (List.mem_range.mp hi)]
theorem sum_filter {p : Nat → Bool} {g : Nat → Nat} : ∀ l : List Nat, ((l.filter p).map g).sum = (l.map fun i => if p i = true then g i else 0).sum
  | [] => rfl
  | a :: r => by
    rw [List.filter_cons, List.map_cons, List.sum_cons, ← sum_filter r]
    by_cases h : p a = true
    · rw [if_pos h, if_pos h, List.map_cons, List.sum_cons]
    · rw [if_neg h, if_neg h, Nat.zero_add]
theorem wt_mem {ws : List Nat} {n m : Nat} : ((mem m n).map fun i => ws.getD i 0).sum = wt ws n m := sum_filter _
theorem isum_nat (l : List Nat) : (l.map Int.ofNat).sum = ((l.sum : Nat) : Int) := by
  induction l with
  | nil => rfl
  | cons a r ih =>
    rw [List.map_cons, List.sum_cons, List.sum_cons, ih]
    simp
theorem wt_int {ws : List Nat} {n m : Nat} : ((mem m n).map fun i => ((ws.getD i 0 : Nat) : Int)).sum = ((wt ws n m : Nat) : Int) := by
  rw [← wt_mem, ← isum_nat, List.map_map]
  rfl
/-- the program's test of a bit -/
theorem bit_is (m i : Nat) : decide ((((m / 2 ^ i) &&& 1 : Nat) : Int) = 1) = m.testBit i := by
  rw [Nat.testBit_eq_decide_div_mod_eq, Nat.and_one_is_mod]
  rw [Bool.eq_iff_iff]
  simp only [decide_eq_true_eq]
  omega
theorem shift_is (m n : Nat) : decide (((m : Int) / 2 ^ n) = 0) = decide (m < 2 ^ n) := by
  have e : ((m : Int) / 2 ^ n) = ((m / 2 ^ n : Nat) : Int) := by
    rw [Int.natCast_ediv, Int.natCast_pow]
    rfl
  rw [e, Bool.eq_iff_iff]
  simp only [decide_eq_true_eq]
  rw [show (((m / 2 ^ n : Nat) : Int) = 0 ↔ m / 2 ^ n = 0) by omega, Nat.div_eq_zero_iff]
  have := Nat.two_pow_pos n
  omega
end My
/-! The best selection, point by point: plain numbers alone. -/
namespace My
open Ks591

structure Best (ps ws : List Nat) (n sp k m : Nat) : Prop where
  lt : m < 2 ^ k
  val : Val ps n sp m
  top : ∀ m', m' < 2 ^ k → Val ps n sp m' → wt ws n m' < wt ws n m ∨ (wt ws n m' = wt ws n m ∧ m ≤ m')
theorem Best.one {ps ws : List Nat} {n sp k m m' : Nat} (h : Best ps ws n sp k m) (h' : Best ps ws n sp k m') : m = m' := by
  have a := h.top m' h'.lt h'.val
  have b := h'.top m h.lt h.val
  omega
theorem val_zero {ps : List Nat} {n sp : Nat} : Val ps n sp 0 := by
  intro i j _ _ h
  simp at h
theorem fold_best {pts : Points} {n : Nat} {ps ws : List Nat} (P : Pts pts n ps ws) {sp : Nat} : ∀ N : Nat,
    let r := (List.range N).foldl (fun best mask => if isValidSelection pts sp mask && decide (weightOf pts best < weightOf pts mask) then mask else best) 0
    (r = 0 ∨ r < N) ∧ Val ps n sp r ∧ ∀ m', m' < N → Val ps n sp m' → wt ws n m' < wt ws n r ∨ (wt ws n m' = wt ws n r ∧ r ≤ m')
  | 0 => ⟨.inl rfl, val_zero, fun m' h => absurd h (Nat.not_lt_zero _)⟩
  | N + 1 => by
    have ih := fold_best P (sp := sp) N
    simp only [List.range_succ, List.foldl_append, List.foldl_cons, List.foldl_nil] at ih ⊢
    generalize (List.range N).foldl _ 0 = r at ih ⊢
    obtain ⟨h1, h2, h3⟩ := ih
    rw [weight_is P, weight_is P]
    by_cases c : (isValidSelection pts sp N && decide (wt ws n r < wt ws n N)) = true
    · rw [if_pos c]
      rw [Bool.and_eq_true, decide_eq_true_eq, valid_iff P] at c
      refine ⟨by omega, c.1, fun m' hm hv => ?_⟩
      by_cases e : m' = N
      · subst e
        exact .inr ⟨rfl, Nat.le_refl _⟩
      · have := h3 m' (by omega) hv
        have := c.2
        omega
    · rw [if_neg c]
      rw [Bool.and_eq_true, decide_eq_true_eq, valid_iff P] at c
      refine ⟨by omega, h2, fun m' hm hv => ?_⟩
      by_cases e : m' = N
      · subst e
        have : ¬ wt ws n r < wt ws n m' := fun z => c ⟨hv, z⟩
        omega
      · exact h3 m' (by omega) hv
theorem best_spec {pts : Points} {n : Nat} {ps ws : List Nat} (P : Pts pts n ps ws) {sp : Nat} : Best ps ws n sp n (bestSelection pts sp) := by
  have h := fold_best P (sp := sp) (2 ^ n)
  unfold bestSelection
  rw [P.len]
  obtain ⟨h1, h2, h3⟩ := h
  have := Nat.two_pow_pos n
  exact ⟨by omega, h2, h3⟩
/-! one point more -/
theorem bit_more {m i j : Nat} (h : m < 2 ^ i) : (m + 2 ^ i).testBit j = if j = i then true else m.testBit j := by
  rw [Nat.add_comm]
  by_cases e : j = i
  · subst e
    rw [if_pos rfl, Nat.testBit_two_pow_add_eq, Nat.testBit_lt_two_pow h] <;> rfl
  · rw [if_neg e]
    rcases Nat.lt_or_gt_of_ne e with c | c
    · exact Nat.testBit_two_pow_add_gt c m
    · have hp : 2 ^ i + m < 2 ^ (i + 1) := by rw [Nat.pow_succ]; omega
      have hq : 2 ^ (i + 1) ≤ 2 ^ j := Nat.pow_le_pow_right (by decide) c
      have hr : 2 ^ i ≤ 2 ^ j := Nat.pow_le_pow_right (by decide) (by omega)
      rw [Nat.testBit_lt_two_pow (by omega), Nat.testBit_lt_two_pow (by omega)]
theorem bit_high {m i j : Nat} (h : m < 2 ^ i) (hj : i ≤ j) : m.testBit j = false := by
  have hr : 2 ^ i ≤ 2 ^ j := Nat.pow_le_pow_right (by decide) hj
  exact Nat.testBit_lt_two_pow (by omega)
theorem sum_more {f : Nat → Nat} {i c : Nat} : ∀ n : Nat, ((List.range n).map fun j => if j = i then c + f j else f j).sum = ((List.range n).map f).sum + if i < n then c else 0
  | 0 => by simp
  | n + 1 => by
    rw [List.range_succ, List.map_append, List.map_append, List.sum_append, List.sum_append, sum_more n]
    simp only [List.map_cons, List.map_nil, List.sum_cons, List.sum_nil]
    by_cases e : n = i
    · subst e
      rw [if_pos rfl, if_neg (by omega), if_pos (by omega)]
      omega
    · rw [if_neg e]
      by_cases e2 : i < n
      · rw [if_pos e2, if_pos (by omega)]
        omega
      · rw [if_neg e2, if_neg (by omega)]
        omega
theorem wt_more {ws : List Nat} {n m i : Nat} (h : m < 2 ^ i) (hi : i < n) : wt ws n (m + 2 ^ i) = ws.getD i 0 + wt ws n m := by
  unfold wt
  have e : (List.range n).map (fun j => if (m + 2 ^ i).testBit j = true then ws.getD j 0 else 0) = (List.range n).map fun j => if j = i then ws.getD i 0 + (if m.testBit j = true then ws.getD j 0 else 0) else (if m.testBit j = true then ws.getD j 0 else 0) := by
    refine List.map_congr_left fun j hj => ?_
    rw [bit_more h]
    by_cases e : j = i
    · subst e
      rw [if_pos rfl, if_pos rfl, if_pos rfl, bit_high h (Nat.le_refl _)]
      simp
    · rw [if_neg e, if_neg e]
  rw [e, sum_more, if_pos hi]
  omega
/-- how many of the points ahead don't conflict: the program's walk down -/
def freeR (ps : List Nat) (sp i : Nat) : Nat → Nat
  | 0 => 0
  | c + 1 => if conf (sp : Int) ((ps.getD c 0 : Nat) : Int) ((ps.getD i 0 : Nat) : Int) = true then freeR ps sp i c else c + 1
theorem freeR_le {ps : List Nat} {sp i : Nat} : ∀ c : Nat, freeR ps sp i c ≤ c
  | 0 => Nat.le_refl _
  | c + 1 => by
    unfold freeR
    have := freeR_le (ps := ps) (sp := sp) (i := i) c
    split <;> omega
theorem freeR_is {ps : List Nat} {n sp i : Nat} (up : ∀ i j, i < j → j < n → ps.getD i 0 < ps.getD j 0) (hi : i < n) : ∀ c : Nat, c ≤ i →
    (∀ j, freeR ps sp i c ≤ j → j < c → ¬ ps.getD j 0 + sp ≤ ps.getD i 0) ∧ (∀ j, j < freeR ps sp i c → ps.getD j 0 + sp ≤ ps.getD i 0)
  | 0, _ => ⟨fun j _ h => absurd h (Nat.not_lt_zero _), fun j h => absurd h (Nat.not_lt_zero _)⟩
  | c + 1, hc => by
    have ih := freeR_is (sp := sp) up hi c (by omega)
    have u := up c i (by omega) hi
    unfold freeR
    by_cases e : conf (sp : Int) ((ps.getD c 0 : Nat) : Int) ((ps.getD i 0 : Nat) : Int) = true
    · rw [if_pos e]
      refine ⟨fun j h1 h2 => ?_, ih.2⟩
      by_cases ej : j = c
      · subst ej
        intro z
        rw [(conf_up u).mpr z] at e
        exact absurd e (by decide)
      · exact ih.1 j h1 (by omega)
    · rw [if_neg e]
      refine ⟨fun j h1 h2 => absurd h2 (by omega), fun j h => ?_⟩
      have z := (conf_up u).mp (by simpa using e)
      by_cases ej : j = c
      · subst ej
        exact z
      · have := up j c (by omega) (by omega)
        omega
theorem val_more {ps : List Nat} {n sp m i : Nat} (up : ∀ i j, i < j → j < n → ps.getD i 0 < ps.getD j 0) (hi : i < n) (h : m < 2 ^ i) : Val ps n sp (m + 2 ^ i) ↔ Val ps n sp m ∧ m < 2 ^ freeR ps sp i i := by
  obtain ⟨f1, f2⟩ := freeR_is (sp := sp) up hi i (Nat.le_refl _)
  constructor
  · intro v
    refine ⟨fun a b hab hb ba bb => ?_, Nat.lt_pow_two_of_testBit _ fun j hj => ?_⟩
    · refine v a b hab hb ?_ ?_
      · rw [bit_more h]
        split
        · rfl
        · exact ba
      · rw [bit_more h]
        split
        · rfl
        · exact bb
    · by_cases c : j < i
      · cases e : m.testBit j with
        | false => rfl
        | true =>
          refine absurd (v j i c hi ?_ ?_) (f1 j hj c)
          · rw [bit_more h, if_neg (by omega)]
            exact e
          · rw [bit_more h, if_pos rfl]
      · exact bit_high h (by omega)
  · intro ⟨v, hf⟩ a b hab hb ba bb
    rw [bit_more h] at ba bb
    by_cases eb : b = i
    · subst eb
      rw [if_neg (by omega)] at ba
      refine f2 a ?_
      rcases Nat.lt_or_ge a (freeR ps sp b b) with c | c
      · exact c
      · rw [bit_high hf c] at ba
        exact absurd ba (by decide)
    · rw [if_neg eb] at bb
      by_cases ea : a = i
      · subst ea
        rw [bit_high h (by omega)] at bb
        exact absurd bb (by decide)
      · rw [if_neg ea] at ba
        exact v a b hab hb ba bb
theorem best_zero {ps ws : List Nat} {n sp : Nat} : Best ps ws n sp 0 0 :=
  ⟨by decide, val_zero, fun m' h _ => by
    have e : m' = 0 := by simp at h; exact h
    subst e
    exact .inr ⟨rfl, Nat.le_refl _⟩⟩
theorem best_more {ps ws : List Nat} {n sp i a b : Nat} (up : ∀ i j, i < j → j < n → ps.getD i 0 < ps.getD j 0) (hi : i < n) (ha : Best ps ws n sp i a) (hb : Best ps ws n sp (freeR ps sp i i) b) :
    (wt ws n a < wt ws n b + ws.getD i 0 → Best ps ws n sp (i + 1) (b + 2 ^ i) ∧ wt ws n (b + 2 ^ i) = wt ws n b + ws.getD i 0) ∧ (¬ wt ws n a < wt ws n b + ws.getD i 0 → Best ps ws n sp (i + 1) a) := by
  have hf := freeR_le (ps := ps) (sp := sp) (i := i) i
  have pf : 2 ^ freeR ps sp i i ≤ 2 ^ i := Nat.pow_le_pow_right (by decide) hf
  have hbi : b < 2 ^ i := Nat.lt_of_lt_of_le hb.lt pf
  have p1 : 2 ^ (i + 1) = 2 ^ i + 2 ^ i := by rw [Nat.pow_succ]; omega
  have wb := wt_more (ws := ws) hbi hi
  have split : ∀ m', m' < 2 ^ (i + 1) → m' < 2 ^ i ∨ ∃ c, c < 2 ^ i ∧ m' = c + 2 ^ i := by
    intro m' h
    rcases Nat.lt_or_ge m' (2 ^ i) with c | c
    · exact .inl c
    · exact .inr ⟨m' - 2 ^ i, by omega, by omega⟩
  constructor
  · intro lt
    refine ⟨⟨by omega, (val_more up hi hbi).mpr ⟨hb.val, hb.lt⟩, fun m' h v => ?_⟩, by omega⟩
    rcases split m' h with c | ⟨c, hc, rfl⟩
    · have := ha.top m' c v
      left
      omega
    · have v' := (val_more up hi hc).mp v
      have := hb.top c v'.2 v'.1
      have wc := wt_more (ws := ws) hc hi
      omega
  · intro ge
    refine ⟨by have := ha.lt; omega, ha.val, fun m' h v => ?_⟩
    have al := ha.lt
    rcases split m' h with c | ⟨c, hc, rfl⟩
    · exact ha.top m' c v
    · have v' := (val_more up hi hc).mp v
      have := hb.top c v'.2 v'.1
      have wc := wt_more (ws := ws) hc hi
      omega
/-- the two lists that the program fills -/
structure DP (ps ws : List Nat) (n sp i : Nat) (bw bm : List Nat) : Prop where
  lw : bw.length = i + 1
  lm : bm.length = i + 1
  best : ∀ k, k ≤ i → Best ps ws n sp k (bm.getD k 0)
  wts : ∀ k, k ≤ i → bw.getD k 0 = wt ws n (bm.getD k 0)
theorem wt_zero {ws : List Nat} {n : Nat} : wt ws n 0 = 0 := by
  unfold wt
  induction n with
  | zero => rfl
  | succ n ih =>
    rw [List.range_succ, List.map_append, List.sum_append, ih]
    simp
theorem dp_start {ps ws : List Nat} {n sp : Nat} : DP ps ws n sp 0 [0] [0] := by
  refine ⟨rfl, rfl, fun k h => ?_, fun k h => ?_⟩
  · have e : k = 0 := by omega
    subst e
    exact best_zero
  · have e : k = 0 := by omega
    subst e
    exact wt_zero.symm
theorem getD_app {l : List Nat} {x : Nat} {k i : Nat} (h : l.length = i + 1) : (l ++ [x]).getD k 0 = if k ≤ i then l.getD k 0 else if k = i + 1 then x else 0 := by
  rw [List.getD_eq_getElem?_getD, List.getD_eq_getElem?_getD, List.getElem?_append]
  by_cases c : k ≤ i
  · rw [if_pos c, if_pos (by omega)]
  · rw [if_neg c, if_neg (by omega)]
    by_cases e : k = i + 1
    · rw [if_pos e, show k - l.length = 0 by omega]
      rfl
    · rw [if_neg e, List.getElem?_eq_none (by simp; omega)]
      rfl
theorem dp_push {ps ws : List Nat} {n sp i : Nat} {bw bm : List Nat} (D : DP ps ws n sp i bw bm) {w m : Nat} (hb : Best ps ws n sp (i + 1) m) (hw : w = wt ws n m) : DP ps ws n sp (i + 1) (bw ++ [w]) (bm ++ [m]) := by
  refine ⟨by rw [List.length_append, D.lw]; rfl, by rw [List.length_append, D.lm]; rfl, fun k h => ?_, fun k h => ?_⟩
  · rw [getD_app D.lm]
    by_cases c : k ≤ i
    · rw [if_pos c]
      exact D.best k c
    · have e : k = i + 1 := by omega
      rw [if_neg c, if_pos e, e]
      exact hb
  · rw [getD_app D.lm, getD_app D.lw]
    by_cases c : k ≤ i
    · rw [if_pos c, if_pos c]
      exact D.wts k c
    · have e : k = i + 1 := by omega
      rw [if_neg c, if_pos e, if_neg c, if_pos e]
      exact hw
theorem or_is {b i f : Nat} (h : b < 2 ^ f) (hf : f ≤ i) : b ||| 2 ^ i = b + 2 ^ i := by
  have pf : 2 ^ f ≤ 2 ^ i := Nat.pow_le_pow_right (by decide) hf
  have := Nat.two_pow_add_eq_or_of_lt (i := i) (b := b) (by omega) 1
  rw [Nat.mul_one] at this
  rw [Nat.or_comm, ← this]
  omega
theorem dp_take {ps ws : List Nat} {n sp i : Nat} {bw bm : List Nat} (D : DP ps ws n sp i bw bm) (up : ∀ i j, i < j → j < n → ps.getD i 0 < ps.getD j 0) (hi : i < n)
    (h : bw.getD i 0 < bw.getD (freeR ps sp i i) 0 + ws.getD i 0) : DP ps ws n sp (i + 1) (bw ++ [bw.getD (freeR ps sp i i) 0 + ws.getD i 0]) (bm ++ [bm.getD (freeR ps sp i i) 0 ||| 2 ^ i]) := by
  have hf := freeR_le (ps := ps) (sp := sp) (i := i) i
  have b1 := D.best i (Nat.le_refl _)
  have b2 := D.best _ hf
  rw [D.wts i (Nat.le_refl _), D.wts _ hf] at h
  obtain ⟨q1, q2⟩ := (best_more up hi b1 b2).1 h
  rw [or_is b2.lt hf]
  exact dp_push D q1 (by rw [D.wts _ hf, q2])
theorem dp_skip {ps ws : List Nat} {n sp i : Nat} {bw bm : List Nat} (D : DP ps ws n sp i bw bm) (up : ∀ i j, i < j → j < n → ps.getD i 0 < ps.getD j 0) (hi : i < n)
    (h : ¬ bw.getD i 0 < bw.getD (freeR ps sp i i) 0 + ws.getD i 0) : DP ps ws n sp (i + 1) (bw ++ [bw.getD i 0]) (bm ++ [bm.getD i 0]) := by
  have hf := freeR_le (ps := ps) (sp := sp) (i := i) i
  have b1 := D.best i (Nat.le_refl _)
  have b2 := D.best _ hf
  rw [D.wts i (Nat.le_refl _), D.wts _ hf] at h
  exact dp_push D ((best_more up hi b1 b2).2 h) (D.wts i (Nat.le_refl _))
theorem dp_end {pts : Points} {n : Nat} {ps ws : List Nat} (P : Pts pts n ps ws) {sp : Nat} {bw bm : List Nat} (D : DP ps ws n sp n bw bm) :
    bm.getD n 0 = bestSelection pts sp ∧ bw.getD n 0 = weightOf pts (bestSelection pts sp) := by
  have e := (D.best n (Nat.le_refl _)).one (best_spec P)
  exact ⟨e, by rw [weight_is P, ← e]; exact D.wts n (Nat.le_refl _)⟩
end My
/-! Prices, the order by weight, counts, one point less: plain lists alone. -/
namespace My
open Ks591

theorem conflict_dec {pts : Points} {n : Nat} {ps ws : List Nat} (P : Pts pts n ps ws) {sp i j : Nat} (hij : i < j) (hj : j < n) :
    conflict pts sp j i = decide (ps.getD j 0 < ps.getD i 0 + sp) ∧ conflict pts sp i j = decide (ps.getD j 0 < ps.getD i 0 + sp) := by
  obtain ⟨h1, h2⟩ := conflict_up P (sp := sp) hij hj
  constructor
  · by_cases c : ps.getD i 0 + sp ≤ ps.getD j 0
    · rw [h2.mpr c, decide_eq_false (by omega)]
    · rw [decide_eq_true (by omega)]
      cases b : conflict pts sp j i with
      | true => rfl
      | false => exact absurd (h2.mp b) c
  · by_cases c : ps.getD i 0 + sp ≤ ps.getD j 0
    · rw [h1.mpr c, decide_eq_false (by omega)]
    · rw [decide_eq_true (by omega)]
      cases b : conflict pts sp i j with
      | true => rfl
      | false => exact absurd (h1.mp b) c
/-- the prices of the first k points that conflict with point i -/
def csum (ps Q : List Nat) (sp i k : Nat) : Nat := ((List.range k).map fun j => if ps.getD i 0 < ps.getD j 0 + sp then Q.getD j 0 else 0).sum
theorem csum_more {ps Q : List Nat} {sp i k : Nat} : csum ps Q sp i (k + 1) = csum ps Q sp i k + if ps.getD i 0 < ps.getD k 0 + sp then Q.getD k 0 else 0 := by
  unfold csum
  rw [List.range_succ, List.map_append, List.sum_append]
  simp
theorem csum_congr {ps Q Q' : List Nat} {sp i k : Nat} (h : ∀ j, j < k → Q.getD j 0 = Q'.getD j 0) : csum ps Q sp i k = csum ps Q' sp i k := by
  unfold csum
  congr 1
  refine List.map_congr_left fun j hj => ?_
  rw [h j (List.mem_range.mp hj)]
/-- the computed prices of the first k points -/
def prs (ps ws : List Nat) (sp : Nat) : Nat → List Nat
  | 0 => []
  | k + 1 => prs ps ws sp k ++ [ws.getD k 0 - csum ps (prs ps ws sp k) sp k k]
theorem prs_length {ps ws : List Nat} {sp : Nat} : ∀ k : Nat, (prs ps ws sp k).length = k
  | 0 => rfl
  | k + 1 => by
    show (prs ps ws sp k ++ [_]).length = k + 1
    rw [List.length_append, prs_length k]
    rfl
theorem prs_more {ps ws : List Nat} {sp k j : Nat} (h : j < k) : (prs ps ws sp (k + 1)).getD j 0 = (prs ps ws sp k).getD j 0 := by
  show (prs ps ws sp k ++ [_]).getD j 0 = _
  rw [List.getD_eq_getElem?_getD, List.getD_eq_getElem?_getD, List.getElem?_append_left (by rw [prs_length]; exact h)]
  rfl
theorem prs_keep {ps ws : List Nat} {sp k j : Nat} (h : j < k) : ∀ n : Nat, k ≤ n → (prs ps ws sp n).getD j 0 = (prs ps ws sp k).getD j 0
  | 0, hk => absurd hk (by omega)
  | n + 1, hk => by
    by_cases e : k = n + 1
    · rw [e]
    · rw [prs_more (by omega), prs_keep h n (by omega)]
theorem prs_at {ps ws : List Nat} {sp n k : Nat} (h : k < n) : (prs ps ws sp n).getD k 0 = ws.getD k 0 - csum ps (prs ps ws sp n) sp k k := by
  rw [prs_keep (k := k + 1) (by omega) n (by omega), csum_congr (Q' := prs ps ws sp k) fun j hj => prs_keep hj n (by omega)]
  show (prs ps ws sp k ++ [_]).getD k 0 = _
  rw [List.getD_eq_getElem?_getD, List.getElem?_append_right (by rw [prs_length]; exact Nat.le_refl _), prs_length, Nat.sub_self]
  rfl
theorem prices_is {pts : Points} {n : Nat} {ps ws : List Nat} (P : Pts pts n ps ws) {sp : Nat} : pricesOf pts sp = prs ps ws sp n := by
  unfold pricesOf
  rw [P.len]
  have key : ∀ k, k ≤ n → (List.range k).foldl (fun prices i => prices ++ [(pointAt pts i).weight - ((List.range i).map fun j => if conflict pts sp i j then prices.getD j 0 else 0).sum]) [] = prs ps ws sp k := by
    intro k
    induction k with
    | zero => intro _; rfl
    | succ k ih =>
      intro hk
      rw [List.range_succ, List.foldl_append, List.foldl_cons, List.foldl_nil, ih (by omega)]
      show _ = prs ps ws sp k ++ [_]
      rw [P.wt k (by omega)]
      congr 3
      unfold csum
      congr 1
      refine List.map_congr_left fun j hj => ?_
      have hj := List.mem_range.mp hj
      rw [(conflict_dec P hj (by omega)).1]
      by_cases c : ps.getD k 0 < ps.getD j 0 + sp
      · rw [if_pos c, decide_eq_true c, if_pos rfl]
      · rw [if_neg c, decide_eq_false c, if_neg (by decide)]
  exact key n (Nat.le_refl _)
theorem suff_is {pts : Points} {n : Nat} {ps ws : List Nat} (P : Pts pts n ps ws) {sp : Nat} {Q : List Nat} (hq : Q.length = n) :
    arePricesSufficient pts sp Q = (List.range n).all fun i => decide (ws.getD i 0 ≤ Q.getD i 0 + csum ps Q sp i i) := by
  unfold arePricesSufficient
  rw [P.len, hq, beq_self_eq_true, Bool.true_and]
  rw [Bool.eq_iff_iff, List.all_eq_true, List.all_eq_true]
  have key : ∀ i, i < n → ((List.range n).map fun j => if j = i ∨ (j < i ∧ conflict pts sp i j = true) then Q.getD j 0 else 0).sum = Q.getD i 0 + csum ps Q sp i i := by
    intro i hi
    have step : ∀ k, k ≤ n → ((List.range k).map fun j => if j = i ∨ (j < i ∧ conflict pts sp i j = true) then Q.getD j 0 else 0).sum = if k ≤ i then csum ps Q sp i k else Q.getD i 0 + csum ps Q sp i i := by
      intro k
      induction k with
      | zero =>
        intro _
        rw [if_pos (Nat.zero_le _)]
        rfl
      | succ k ih =>
        intro hk
        rw [List.range_succ, List.map_append, List.sum_append, ih (by omega)]
        simp only [List.map_cons, List.map_nil, List.sum_cons, List.sum_nil, Nat.add_zero]
        by_cases c : k + 1 ≤ i
        · rw [if_pos c, if_pos (by omega), csum_more]
          congr 1
          have hd := (conflict_dec P (sp := sp) (show k < i by omega) hi).1
          by_cases d : ps.getD i 0 < ps.getD k 0 + sp
          · rw [if_pos d, if_pos]
            right
            rw [hd, decide_eq_true d]
            exact ⟨by omega, rfl⟩
          · rw [if_neg d, if_neg]
            rw [hd, decide_eq_false d]
            rintro (e | ⟨_, e⟩)
            · omega
            · exact absurd e (by decide)
        · rw [if_neg c]
          by_cases e : k = i
          · subst e
            rw [if_pos (Nat.le_refl _), if_pos (.inl rfl)]
            omega
          · rw [if_neg (by omega), if_neg (by omega)]
            omega
    rw [step n (Nat.le_refl _), if_neg (by omega)]
  constructor
  · intro h i hi
    have h1 := h i hi
    rw [key i (List.mem_range.mp hi), P.wt i (List.mem_range.mp hi)] at h1
    exact h1
  · intro h i hi
    have h1 := h i hi
    rw [key i (List.mem_range.mp hi), P.wt i (List.mem_range.mp hi)]
    exact h1
/-! the order by weight -/
def before (ws : List Nat) (i j : Nat) : Prop := ws.getD j 0 < ws.getD i 0 ∨ (ws.getD j 0 = ws.getD i 0 ∧ i < j)
theorem before_trans {ws : List Nat} {i j k : Nat} (h1 : before ws i j) (h2 : before ws j k) : before ws i k := by
  unfold before at *
  omega
theorem insert_perm {pts : Points} {i : Nat} : ∀ l : List Nat, (insertByWeight pts i l).Perm (i :: l)
  | [] => List.Perm.refl _
  | j :: r => by
    show (if _ then i :: j :: r else j :: insertByWeight pts i r).Perm _
    split
    · exact List.Perm.refl _
    · exact ((insert_perm r).cons j).trans (List.Perm.swap i j r)
theorem insert_up {pts : Points} {n : Nat} {ps ws : List Nat} (P : Pts pts n ps ws) {i : Nat} (hi : i < n) : ∀ l : List Nat, (∀ j ∈ l, j < n ∧ i < j) → l.Pairwise (before ws) → (insertByWeight pts i l).Pairwise (before ws)
  | [], _, _ => by
    show [i].Pairwise _
    exact List.pairwise_singleton _ _
  | j :: r, hm, hp => by
    have hj := hm j (.head _)
    show (if (pointAt pts j).weight < (pointAt pts i).weight ∨ ((pointAt pts j).weight = (pointAt pts i).weight ∧ i < j) then i :: j :: r else j :: insertByWeight pts i r).Pairwise _
    rw [P.wt i hi, P.wt j hj.1]
    have hp' := List.pairwise_cons.mp hp
    by_cases c : ws.getD j 0 < ws.getD i 0 ∨ (ws.getD j 0 = ws.getD i 0 ∧ i < j)
    · rw [if_pos c]
      refine List.pairwise_cons.mpr ⟨fun k hk => ?_, hp⟩
      cases hk with
      | head => exact c
      | tail _ hk => exact before_trans (j := j) c (hp'.1 k hk)
    · rw [if_neg c]
      refine List.pairwise_cons.mpr ⟨fun k hk => ?_, insert_up P hi r (fun k hk => hm k (.tail _ hk)) hp'.2⟩
      have hk2 := (insert_perm r).mem_iff.mp hk
      cases hk2 with
      | head =>
        unfold before
        omega
      | tail _ hk2 => exact hp'.1 k hk2
/-- the greedy order -/
def order (pts : Points) : List Nat := (List.range pts.length).foldr (insertByWeight pts) []
theorem order_is {pts : Points} {n : Nat} {ps ws : List Nat} (P : Pts pts n ps ws) : (order pts).Perm (List.range n) ∧ (order pts).Pairwise (before ws) := by
  unfold order
  rw [P.len]
  have key : ∀ l : List Nat, l.Pairwise (· < ·) → (∀ j ∈ l, j < n) → (l.foldr (insertByWeight pts) []).Perm l ∧ (l.foldr (insertByWeight pts) []).Pairwise (before ws) := by
    intro l
    induction l with
    | nil => intro _ _; exact ⟨List.Perm.refl _, List.Pairwise.nil⟩
    | cons i r ih =>
      intro hp hm
      have hp' := List.pairwise_cons.mp hp
      obtain ⟨h1, h2⟩ := ih hp'.2 fun j hj => hm j (.tail _ hj)
      refine ⟨(insert_perm _).trans (h1.cons i), insert_up P (hm i (.head _)) _ (fun j hj => ?_) h2⟩
      have hj' := h1.mem_iff.mp hj
      exact ⟨hm j (.tail _ hj'), hp'.1 j hj'⟩
  exact key _ (range_pair.mpr fun i j h _ => h) fun j hj => List.mem_range.mp hj
/-- a list in this order is the only one -/
theorem order_one {ws : List Nat} : ∀ {l l' : List Nat}, l.Perm l' → l.Pairwise (before ws) → l'.Pairwise (before ws) → l = l'
  | [], l', h, _, _ => (List.Perm.nil_eq h)
  | a :: r, [], h, _, _ => absurd h.symm.nil_eq (by simp)
  | a :: r, b :: r', h, h1, h2 => by
    have p1 := List.pairwise_cons.mp h1
    have p2 := List.pairwise_cons.mp h2
    have e : a = b := by
      have ha : a ∈ b :: r' := h.mem_iff.mp (.head _)
      have hb : b ∈ a :: r := h.mem_iff.mpr (.head _)
      cases ha with
      | head => rfl
      | tail _ ha =>
        cases hb with
        | head => rfl
        | tail _ hb =>
          have x := p2.1 a ha
          have y := p1.1 b hb
          unfold before at x y
          omega
    subst e
    rw [order_one (List.Perm.cons_inv h) p1.2 p2.2]
/-! the greatest number of points -/
theorem fold_max {f : Nat → Nat} : ∀ (l : List Nat) (b : Nat), (b ≤ l.foldl (fun best m => max best (f m)) b) ∧ (∀ m ∈ l, f m ≤ l.foldl (fun best m => max best (f m)) b) ∧ (l.foldl (fun best m => max best (f m)) b = b ∨ ∃ m ∈ l, l.foldl (fun best m => max best (f m)) b = f m)
  | [], b => ⟨Nat.le_refl _, (fun m h => absurd h List.not_mem_nil), .inl rfl⟩
  | a :: r, b => by
    obtain ⟨h1, h2, h3⟩ := fold_max r (max b (f a))
    rw [List.foldl_cons]
    refine ⟨Nat.le_trans (Nat.le_max_left _ _) h1, fun m hm => ?_, ?_⟩
    · cases hm with
      | head => exact Nat.le_trans (Nat.le_max_right _ _) h1
      | tail _ hm => exact h2 m hm
    · rcases h3 with h3 | ⟨m, hm, h3⟩
      · by_cases c : f a ≤ b
        · left
          omega
        · right
          exact ⟨a, .head _, by omega⟩
      · exact .inr ⟨m, .tail _ hm, h3⟩
/-- the count of the best set is the greatest count -/
theorem count_is {pts : Points} {n : Nat} {ps ws : List Nat} (P : Pts pts n ps ws) {sp m : Nat} (hm : m < 2 ^ n) (hv : Val ps n sp m) (ht : ∀ m', m' < 2 ^ n → Val ps n sp m' → (mem m' n).length ≤ (mem m n).length) : maxCount pts sp = (mem m n).length := by
  unfold maxCount
  rw [P.len]
  show ((List.range (2 ^ n)).filter (isValidSelection pts sp)).foldl (fun best m => max best (mem m n).length) 0 = _
  obtain ⟨h1, h2, h3⟩ := fold_max (f := fun m => (mem m n).length) ((List.range (2 ^ n)).filter (isValidSelection pts sp)) 0
  have a1 := h2 m (List.mem_filter.mpr ⟨List.mem_range.mpr hm, (valid_iff P).mpr hv⟩)
  rcases h3 with h3 | ⟨m', hm', h3⟩
  · omega
  · obtain ⟨hr, hv'⟩ := List.mem_filter.mp hm'
    have := ht m' (List.mem_range.mp hr) ((valid_iff P).mp hv')
    omega
/-- counted by weights of one -/
theorem count_wt {n m : Nat} : ∀ {ws : List Nat}, (∀ i, i < n → ws.getD i 0 = 1) → wt ws n m = (mem m n).length := by
  intro ws h
  rw [← wt_mem]
  have e : (mem m n).map (fun i => ws.getD i 0) = (mem m n).map fun _ => 1 := List.map_congr_left fun i hi => h i (List.mem_range.mp (List.mem_filter.mp hi).1)
  rw [e]
  generalize mem m n = l
  induction l with
  | nil => rfl
  | cons a r ih =>
    rw [List.map_cons, List.sum_cons, ih, List.length_cons]
    omega
/-! one point less -/
theorem erase_at {l : List Nat} {i j : Nat} : (l.eraseIdx i).getD j 0 = l.getD (if j < i then j else j + 1) 0 := by
  rw [List.getD_eq_getElem?_getD, List.getD_eq_getElem?_getD, List.getElem?_eraseIdx]
  split <;> rfl
theorem pts_erase {pts : Points} {n : Nat} {ps ws : List Nat} (P : Pts pts n ps ws) {i : Nat} (hi : i < n) : Pts (pts.eraseIdx i) (n - 1) (ps.eraseIdx i) (ws.eraseIdx i) := by
  have pe : ∀ j, pointAt (pts.eraseIdx i) j = pointAt pts (if j < i then j else j + 1) := by
    intro j
    unfold pointAt
    rw [List.getD_eq_getElem?_getD, List.getD_eq_getElem?_getD, List.getElem?_eraseIdx]
    split <;> rfl
  have hx : ∀ j, j < n - 1 → (if j < i then j else j + 1) < n := by
    intro j hj
    split <;> omega
  refine ⟨by rw [List.length_eraseIdx_of_lt (by rw [P.len]; exact hi), P.len], by have := P.most; omega, by rw [List.length_eraseIdx_of_lt (by rw [P.lp]; exact hi), P.lp], by rw [List.length_eraseIdx_of_lt (by rw [P.lw]; exact hi), P.lw], fun j hj => ?_, fun j hj => ?_, fun a b hab hb => ?_, fun j hj => ?_, fun j hj => ?_⟩
  · rw [pe, erase_at]
    exact P.pos _ (hx j hj)
  · rw [pe, erase_at]
    exact P.wt _ (hx j hj)
  · rw [erase_at, erase_at]
    exact P.up _ _ (by split <;> split <;> omega) (hx b hb)
  · rw [erase_at]
    exact P.pm _ (hx j hj)
  · rw [erase_at]
    exact P.wm _ (hx j hj)
/-- a set of the shorter list, as one of the longer -/
def widen (m i : Nat) : Nat := m % 2 ^ i + 2 ^ (i + 1) * (m / 2 ^ i)
theorem widen_bit {m i j : Nat} : (widen m i).testBit j = if j < i then m.testBit j else if j = i then false else m.testBit (j - 1) := by
  unfold widen
  have hlt : m % 2 ^ i < 2 ^ (i + 1) := by
    have := Nat.mod_lt m (Nat.two_pow_pos i)
    rw [Nat.pow_succ]
    omega
  rw [Nat.add_comm, Nat.testBit_two_pow_mul_add _ hlt]
  by_cases c : j < i
  · rw [if_pos c, if_pos (by omega), Nat.testBit_mod_two_pow, decide_eq_true c, Bool.true_and]
  · rw [if_neg c]
    by_cases e : j = i
    · rw [if_pos e, if_pos (by omega), Nat.testBit_mod_two_pow, decide_eq_false (by omega), Bool.false_and]
    · rw [if_neg e, if_neg (by omega), Nat.testBit_div_two_pow]
      congr 1
      omega
theorem sum_skip {f g : Nat → Nat} {i : Nat} (h1 : ∀ j, j < i → g j = f j) (h2 : g i = 0) (h3 : ∀ j, i ≤ j → g (j + 1) = f j) : ∀ n : Nat, i ≤ n → ((List.range (n + 1)).map g).sum = ((List.range n).map f).sum
  | 0, h => by
    have e : i = 0 := by omega
    subst e
    simp [h2]
  | n + 1, h => by
    rw [List.range_succ, List.map_append, List.sum_append]
    by_cases e : i = n + 1
    · subst e
      have ea : (List.range (n + 1)).map g = (List.range (n + 1)).map f := List.map_congr_left fun j hj => h1 j (List.mem_range.mp hj)
      rw [ea]
      simp [h2]
    · rw [sum_skip h1 h2 h3 n (by omega), List.range_succ, List.map_append, List.sum_append]
      simp [h3 n (by omega)]
theorem erase_le {pts : Points} {n : Nat} {ps ws : List Nat} (P : Pts pts n ps ws) {sp i : Nat} (hi : i < n) : weightOf (pts.eraseIdx i) (bestSelection (pts.eraseIdx i) sp) ≤ weightOf pts (bestSelection pts sp) := by
  have P' := pts_erase P hi
  have B := best_spec P (sp := sp)
  have B' := best_spec P' (sp := sp)
  rw [weight_is P, weight_is P']
  generalize bestSelection pts sp = m at B ⊢
  generalize bestSelection (pts.eraseIdx i) sp = m' at B' ⊢
  have hw : wt ws n (widen m' i) = wt (ws.eraseIdx i) (n - 1) m' := by
    unfold wt
    have := sum_skip (i := i) (g := fun j => if (widen m' i).testBit j = true then ws.getD j 0 else 0) (f := fun j => if m'.testBit j = true then (ws.eraseIdx i).getD j 0 else 0) ?_ ?_ ?_ (n - 1) (by omega)
    · rw [show n - 1 + 1 = n by omega] at this
      exact this
    · intro j hj
      simp only [widen_bit, erase_at, if_pos hj]
    · simp only [widen_bit]
      simp
    · intro j hj
      simp only [widen_bit, erase_at]
      rw [if_neg (show ¬ j + 1 < i by omega), if_neg (show ¬ j + 1 = i by omega), if_neg (show ¬ j < i by omega), Nat.add_sub_cancel]
  have hv : Val ps n sp (widen m' i) := by
    intro a b hab hb ba bb
    rw [widen_bit] at ba bb
    have key : ∀ c, c < n → (if c < i then m'.testBit c else if c = i then false else m'.testBit (c - 1)) = true → ∃ d, d < n - 1 ∧ m'.testBit d = true ∧ (if d < i then d else d + 1) = c := by
      intro c hc h
      by_cases c1 : c < i
      · rw [if_pos c1] at h
        exact ⟨c, by omega, h, by rw [if_pos c1]⟩
      · rw [if_neg c1] at h
        by_cases c2 : c = i
        · rw [if_pos c2] at h
          exact absurd h (by decide)
        · rw [if_neg c2] at h
          exact ⟨c - 1, by omega, h, by rw [if_neg (by omega)]; omega⟩
    obtain ⟨x, hx, bx, ex⟩ := key a (by omega) ba
    obtain ⟨y, hy, bY, ey⟩ := key b hb bb
    have xy : x < y := by
      split at ex <;> split at ey <;> omega
    have := B'.val x y xy hy bx bY
    rw [erase_at, erase_at, ex, ey] at this
    exact this
  have hl : widen m' i < 2 ^ n := by
    refine Nat.lt_pow_two_of_testBit _ fun j hj => ?_
    rw [widen_bit, if_neg (by omega), if_neg (by omega)]
    exact bit_high B'.lt (by omega)
  have := B.top _ hl hv
  omega
end My
/-! Sums of a cut of prices, and points taken one by one: plain lists alone. -/
namespace My
open Ks591

theorem take_next {l : List Nat} {k : Nat} (h : k < l.length) : l.take (k + 1) = l.take k ++ [l.getD k 0] := by
  rw [List.take_add_one, List.getElem?_eq_getElem h, List.getD_eq_getElem?_getD, List.getElem?_eq_getElem h]
  rfl
/-- the prices of the points ahead that conflict stand side by side -/
theorem csum_cut {ps Q : List Nat} {n sp i : Nat} (up : ∀ i j, i < j → j < n → ps.getD i 0 < ps.getD j 0) (hi : i < n) : ∀ k, k ≤ i → k ≤ Q.length → csum ps Q sp i k = ((Q.take k).drop (freeR ps sp i i)).sum
  | 0, _, _ => by
    rw [List.take_zero, List.drop_nil]
    rfl
  | k + 1, hk, hq => by
    obtain ⟨f1, f2⟩ := freeR_is (sp := sp) up hi i (Nat.le_refl _)
    rw [csum_more, csum_cut up hi k (by omega) (by omega), take_next hq]
    rcases Nat.lt_or_ge k (freeR ps sp i i) with c | c
    · have := f2 k c
      rw [if_neg (by omega), List.drop_eq_nil_of_le (by simp; omega), List.drop_eq_nil_of_le (by simp; omega)]
      rfl
    · have := f1 k c hk
      rw [if_pos (by omega), List.drop_append_of_le_length (by simp; omega), List.sum_append]
      simp
theorem sum_int (l : List Nat) : (l.map fun n : Nat => (n : Int)).sum = ((l.sum : Nat) : Int) := by
  induction l with
  | nil => rfl
  | cons a r ih =>
    rw [List.map_cons, List.sum_cons, List.sum_cons, ih, Int.natCast_add]
theorem max_sub (w c : Nat) : (if (w : Int) - (c : Int) > 0 then (w : Int) - (c : Int) else 0) = ((w - c : Nat) : Int) := by
  split <;> omega
/-! one bit more -/
theorem bit_set {m i j : Nat} (h : m.testBit i = false) : (m + 2 ^ i).testBit j = if j = i then true else m.testBit j := by
  have hlo : m % 2 ^ (i + 1) < 2 ^ i := by
    refine Nat.lt_pow_two_of_testBit _ fun j hj => ?_
    rw [Nat.testBit_mod_two_pow]
    by_cases e : j = i
    · subst e
      rw [h, Bool.and_false]
    · rw [decide_eq_false (by omega), Bool.false_and]
  have hp : 2 ^ (i + 1) = 2 ^ i + 2 ^ i := by rw [Nat.pow_succ]; omega
  have e1 : m = 2 ^ (i + 1) * (m / 2 ^ (i + 1)) + m % 2 ^ (i + 1) := (Nat.div_add_mod m (2 ^ (i + 1))).symm
  generalize m / 2 ^ (i + 1) = q at e1
  generalize m % 2 ^ (i + 1) = r at e1 hlo
  subst e1
  rw [Nat.add_assoc, Nat.testBit_two_pow_mul_add _ (by omega), Nat.testBit_two_pow_mul_add _ (by omega), bit_more hlo]
  by_cases e : j = i
  · subst e
    rw [if_pos rfl, if_pos (by omega), if_pos rfl]
  · rw [if_neg e, if_neg e]
theorem or_add {m i : Nat} (h : m.testBit i = false) : m ||| 2 ^ i = m + 2 ^ i := by
  refine Nat.eq_of_testBit_eq fun j => ?_
  rw [bit_set h, Nat.testBit_or, Nat.testBit_two_pow]
  by_cases e : j = i
  · subst e
    simp
  · rw [if_neg e, decide_eq_false (by omega), Bool.or_false]
/-! points taken one by one -/
theorem conflict_conf {pts : Points} {n : Nat} {ps ws : List Nat} (P : Pts pts n ps ws) {sp i j : Nat} (e : i ≠ j) (hi : i < n) (hj : j < n) :
    conflict pts sp i j = conf (sp : Int) ((ps.getD i 0 : Nat) : Int) ((ps.getD j 0 : Nat) : Int) := by
  rw [conflict_is P hi hj, show (i != j) = true by simp; exact e, Bool.true_and]
  unfold conf iabs
  rw [Bool.eq_iff_iff, decide_eq_true_eq, decide_eq_true_eq]
  split <;> omega
/-- the specification's step: point i is taken if it conflicts with no point of the set -/
def spick (pts : Points) (sp m i : Nat) : Nat := if (List.range pts.length).all (fun j => !(m.testBit j && conflict pts sp i j)) then m + 2 ^ i else m
/-- the program's test -/
def anyc (ps : List Nat) (sp i : Nat) (T : List Nat) : Bool := T.any fun j => conf (sp : Int) ((ps.getD i 0 : Nat) : Int) ((ps.getD j 0 : Nat) : Int)
structure Tkn (pts : Points) (sp n : Nat) (L : List Nat) (k m : Nat) (T : List Nat) : Prop where
  is : m = (L.take k).foldl (spick pts sp) 0
  bit : ∀ j, m.testBit j = true ↔ j ∈ T
  sub : ∀ j ∈ T, j ∈ L.take k
  len : T.length ≤ k
theorem tkn_start {pts : Points} {sp n : Nat} {L : List Nat} : Tkn pts sp n L 0 0 [] :=
  ⟨rfl, fun j => by simp, fun j h => absurd h List.not_mem_nil, Nat.le_refl _⟩
theorem take_fold {L : List Nat} {k i : Nat} {f : Nat → Nat → Nat} {a : Nat} (h : L[k]? = some i) : (L.take (k + 1)).foldl f a = f ((L.take k).foldl f a) i := by
  rw [List.take_add_one, h, List.foldl_append]
  rfl
theorem fresh_at {L : List Nat} {k i : Nat} (nd : L.Nodup) (h : L[k]? = some i) : i ∉ L.take k := by
  intro z
  obtain ⟨j, hj, e⟩ := List.mem_take_iff_getElem.mp z
  obtain ⟨hk, e2⟩ := List.getElem?_eq_some_iff.mp h
  have := (List.getElem_inj (h₀ := by omega) (h₁ := hk) nd).mp (e.trans e2.symm)
  omega
theorem tkn_step {pts : Points} {n : Nat} {ps ws : List Nat} (P : Pts pts n ps ws) {sp k m i : Nat} {L T : List Nat} (nd : L.Nodup) (hL : ∀ j ∈ L, j < n) (h : L[k]? = some i) (K : Tkn pts sp n L k m T) :
    (anyc ps sp i T = true → Tkn pts sp n L (k + 1) m T) ∧ (anyc ps sp i T = false → Tkn pts sp n L (k + 1) (m ||| 2 ^ i) (T ++ [i])) := by
  have hi : i < n := hL i (List.mem_of_getElem? h)
  have fr : i ∉ T := fun z => fresh_at nd h (K.sub i z)
  have tk : ∀ j ∈ L.take k, j ∈ L.take (k + 1) := fun j hj => by
    rw [List.take_add_one, List.mem_append]
    exact .inl hj
  have bi : m.testBit i = false := by
    cases b : m.testBit i with
    | false => rfl
    | true => exact absurd ((K.bit i).mp b) fr
  have cf : ∀ j ∈ T, conflict pts sp i j = conf (sp : Int) ((ps.getD i 0 : Nat) : Int) ((ps.getD j 0 : Nat) : Int) := fun j hj =>
    conflict_conf P (fun e => fr (e ▸ hj)) hi (hL j (List.mem_of_mem_take (K.sub j hj)))
  constructor
  · intro a
    refine ⟨?_, K.bit, fun j hj => tk j (K.sub j hj), by have := K.len; omega⟩
    rw [take_fold h, ← K.is]
    obtain ⟨j, hj, c⟩ := List.any_eq_true.mp a
    unfold spick
    rw [if_neg]
    intro z
    have := List.all_eq_true.mp z j (List.mem_range.mpr (by rw [P.len]; exact hL j (List.mem_of_mem_take (K.sub j hj))))
    rw [cf j hj, c, (K.bit j).mpr hj] at this
    exact absurd this (by decide)
  · intro a
    rw [or_add bi]
    refine ⟨?_, fun j => ?_, fun j hj => ?_, ?_⟩
    · rw [take_fold h, ← K.is]
      unfold spick
      rw [if_pos]
      refine List.all_eq_true.mpr fun j hj => ?_
      cases b : m.testBit j with
      | false => rfl
      | true =>
        have hj2 := (K.bit j).mp b
        have := List.any_eq_false.mp a j hj2
        rw [cf j hj2]
        simpa using this
    · rw [bit_set bi, List.mem_append, List.mem_singleton]
      by_cases e : j = i
      · simp [e]
      · rw [if_neg e, K.bit j]
        simp [e]
    · rw [List.mem_append, List.mem_singleton] at hj
      rcases hj with hj | hj
      · exact tk j (K.sub j hj)
      · subst hj
        rw [List.take_add_one, h]
        simp
    · rw [List.length_append]
      have := K.len
      simp
      exact this
theorem tkn_end {pts : Points} {sp n m : Nat} {L T : List Nat} (K : Tkn pts sp n L L.length m T) : m = L.foldl (spick pts sp) 0 := by
  have := K.is
  rw [List.take_length] at this
  exact this
/-! the price selection -/
/-- the points with a positive price, from the last one on -/
def porder (Q : List Nat) (n : Nat) : List Nat := (List.range n).reverse.filter fun i => decide (0 < Q.getD i 0)
theorem range_nodup (n : Nat) : (List.range n).Nodup := List.nodup_range
theorem porder_ok {Q : List Nat} {n : Nat} : (porder Q n).Nodup ∧ (∀ j ∈ porder Q n, j < n) ∧ (porder Q n).length ≤ n := by
  unfold porder
  refine ⟨List.Pairwise.filter _ (List.pairwise_reverse.mpr (List.Pairwise.imp Ne.symm List.nodup_range)), fun j hj => ?_, ?_⟩
  · have := (List.mem_filter.mp hj).1
    rw [List.mem_reverse] at this
    exact List.mem_range.mp this
  · have := List.length_filter_le (fun i => decide (0 < Q.getD i 0)) (List.range n).reverse
    rw [List.length_reverse, List.length_range] at this
    exact this
theorem price_sel {pts : Points} {n : Nat} {ps ws : List Nat} (P : Pts pts n ps ws) {sp : Nat} : priceSelection pts sp = (porder (prs ps ws sp n) n).foldl (spick pts sp) 0 := by
  unfold priceSelection porder
  rw [List.foldl_filter, prices_is P, P.len]
  congr 1
  funext m i
  unfold spick
  rw [P.len]
  generalize prs ps ws sp n = Q
  by_cases c : 0 < Q.getD i 0
  · have : (Q.getD i 0 != 0) = true := bne_iff_ne.mpr (by omega)
    rw [this, Bool.true_and, decide_eq_true c]
    rfl
  · have e : Q.getD i 0 = 0 := by omega
    rw [e, decide_eq_false (by omega)]
    rfl
theorem rev_take {n k : Nat} (h : k < n) : (List.range n).reverse[k]? = some (n - 1 - k) := by
  rw [List.getElem?_reverse (by rw [List.length_range]; exact h), List.length_range, List.getElem?_range (by omega)]
/-- the first k of the list, with the test -/
def pord (Q : List Nat) (n k : Nat) : List Nat := ((List.range n).reverse.take k).filter fun i => decide (0 < Q.getD i 0)
theorem pord_more {Q : List Nat} {n k : Nat} (h : k < n) : pord Q n (k + 1) = if 0 < Q.getD (n - 1 - k) 0 then pord Q n k ++ [n - 1 - k] else pord Q n k := by
  unfold pord
  rw [List.take_add_one, rev_take h, List.filter_append]
  show _ ++ List.filter _ [n - 1 - k] = _
  rw [List.filter_cons, List.filter_nil]
  by_cases c : 0 < Q.getD (n - 1 - k) 0
  · rw [if_pos c, if_pos (decide_eq_true c)]
  · rw [if_neg c, if_neg (by rw [decide_eq_false c]; decide), List.append_nil]
theorem pord_length {Q : List Nat} {n k : Nat} : (pord Q n k).length ≤ k := by
  unfold pord
  have := List.length_filter_le (fun i => decide (0 < Q.getD i 0)) ((List.range n).reverse.take k)
  rw [List.length_take] at this
  omega
theorem pord_end {Q : List Nat} {n : Nat} : pord Q n n = porder Q n := by
  unfold pord porder
  rw [List.take_of_length_le (by simp)]
/-- the sufficiency, point by point -/
def suff (ps ws Q : List Nat) (sp : Nat) (k : Nat) : Bool := (List.range k).all fun i => decide (ws.getD i 0 ≤ Q.getD i 0 + csum ps Q sp i i)
theorem suff_more {ps ws Q : List Nat} {sp k : Nat} : suff ps ws Q sp (k + 1) = (suff ps ws Q sp k && decide (ws.getD k 0 ≤ Q.getD k 0 + csum ps Q sp k k)) := by
  unfold suff
  rw [List.range_succ, List.all_append]
  simp
theorem suff_no {ps ws Q : List Nat} {sp k n : Nat} (hk : k < n) (h : Q.getD k 0 + csum ps Q sp k k < ws.getD k 0) : suff ps ws Q sp n = false := by
  cases b : suff ps ws Q sp n with
  | false => rfl
  | true =>
    unfold suff at b
    have := List.all_eq_true.mp b k (List.mem_range.mpr hk)
    rw [decide_eq_true_eq] at this
    omega
end My
/-! xs[c::2]: a rule of its own. -/
namespace My
open PySem PySem.Spec PyProof.Rows L2

theorem ev_pick {α : Type} : ∀ (l : List α) (m : Nat), m = (l.length + 1) / 2 → (List.range m).filterMap (fun k => l[2 * k]?) = evens l
  | [], m, h => by
    have : m = 0 := by simpa using h
    subst this
    rfl
  | [a], m, h => by
    have : m = 1 := by simpa using h
    subst this
    rfl
  | a :: b :: r, m, h => by
    have e : m = (r.length + 1) / 2 + 1 := by
      simp at h
      omega
    subst e
    rw [List.range_succ_eq_map, List.filterMap_cons, List.filterMap_map]
    show a :: List.filterMap (fun k => (a :: b :: r)[2 * (k + 1)]?) _ = a :: evens r
    have f : (fun k : Nat => (a :: b :: r)[2 * (k + 1)]?) = fun k => r[2 * k]? := by
      funext k
      rw [show 2 * (k + 1) = 2 * k + 1 + 1 by omega, List.getElem?_cons_succ, List.getElem?_cons_succ]
    rw [f, ev_pick r _ rfl]
theorem step_bounds (c n : Nat) : sliceBounds (some (c : Int)) none (some 2) n = (((min c n : Nat) : Int), (n : Int), 2) := by
  have h : ¬ ((c : Int) < 0) := by omega
  simp only [sliceBounds, Option.getD_some, h, if_false, show (2 : Int) > 0 by decide, if_true]
  congr 1
  omega
theorem step_range (c n : Nat) (h : c ≤ n) : sliceRange (c : Int) (n : Int) 2 = (List.range ((n - c + 1) / 2)).map fun k => c + 2 * k := by
  unfold sliceRange
  simp only [show (2 : Int) > 0 by decide, if_true]
  by_cases hc : (c : Int) < (n : Int)
  · rw [if_pos hc]
    have e : (((n : Int) - (c : Int) + 2 - 1) / 2).toNat = (n - c + 1) / 2 := by omega
    rw [e]
    apply List.map_congr_left
    intro k _
    omega
  · rw [if_neg hc]
    have e : (n - c + 1) / 2 = 0 := by omega
    rw [e]
    rfl
theorem step_pick (its : List Value) (c : Nat) : slicePick its.toArray (some (c : Int)) none (some 2) = (evens (its.drop c)).toArray := by
  unfold slicePick
  rw [List.size_toArray, step_bounds]
  show ((sliceRange ((min c its.length : Nat) : Int) (its.length : Int) 2).filterMap (its.toArray[·]?)).toArray = _
  rw [step_range _ _ (Nat.min_le_right _ _), List.filterMap_map]
  congr 1
  by_cases h : c ≤ its.length
  · rw [Nat.min_eq_left h, ← ev_pick (its.drop c) ((its.length - c + 1) / 2) (by rw [List.length_drop])]
    congr 1
    funext k
    simp [List.getElem?_drop]
  · have e : its.drop c = [] := List.drop_eq_nil_of_le (by omega)
    rw [e, Nat.min_eq_right (by omega), show (its.length - its.length + 1) / 2 = 0 by omega]
    rfl
theorem vals_evens : ∀ {xs : List V} {its : List Value}, Vals xs its → Vals (evens xs) (evens its)
  | _, _, .nil => .nil
  | _, _, .cons r .nil => .cons r .nil
  | _, _, .cons r (.cons _ rest) => .cons r (vals_evens rest)
def tStep2 (K : PySem.W.Frag) (c : Nat) (te : TE) : TE := fun σ H Q => te σ H fun x H1 => ∃ a xs, x = .ref a ∧ SqL K H1 a xs ∧ ∀ p, H1 p = none → Q (.ref p) (upd H1 p (.lst (evens (xs.drop c))))
theorem pe_step2 {X : Cx} {e : Expr} {te : TE} (c : Nat) {k1 k2 : Nat} {p1 p2 p3 pos : Pos} (he : PE X e te) : PE X (.Subscript e (.Slice (some (.Constant (.int (c : Int)) k1 p1)) none (some (.Constant (.int 2) k2 p2)) p3) pos) (tStep2 X.K c te) := by
  constructor
  intro pins s0 σ H0 Q I0 ask
  apply Subscript_
  apply thn (he.run pins s0 σ H0 _ I0 ask)
  rintro u s ⟨_, H, I, ru, a, xs, rfl, seq, q⟩
  cases ru
  -- the parts: a constant, nothing, a constant
  have first : PO X (some (.Constant (.int (c : Int)) k1 p1)) (tPart (tC (.int c))) := po_some pe_int
  have third : PO X (some (.Constant (.int 2) k2 p2)) (tPart (tC (.int 2))) := po_some pe_int
  apply wpAny_Slice
  apply thn (first.run pins s σ H (fun o H' => o = some (c : Int) ∧ H' = H) I ⟨(c : Int), rfl, rfl, rfl⟩)
  rintro v1 t1 ⟨_, _, J1, is1, rfl, rfl⟩
  apply thn (po_none.run pins t1 σ _ (fun o H' => o = none ∧ H' = _) J1 ⟨rfl, rfl⟩)
  rintro v2 t2 ⟨_, _, J2, is2, rfl, rfl⟩
  apply thn (third.run pins t2 σ _ (fun o H' => o = some 2 ∧ H' = _) J2 ⟨(2 : Int), rfl, rfl, rfl⟩)
  rintro v3 t3 ⟨_, Hs, J3, is3, rfl, rfl⟩
  -- the slice object stands; the list's items are picked
  generalize hobj : ({ cls := .type "slice", data := .fields #[v1, v2, v3] } : Obj) = o
  have J : Inv X pins σ Hs { t3 with heap := t3.heap.push o } := J3.kept (t' := t3.toks) (fun b x z => Heap.get?_push_of_some _ z)
  obtain ⟨its, vals, plain, short⟩ := J.list seq
  have same := vals.length
  have isS : (t3.heap.push o).IsSliceOf t3.heap.objs.size v1 v2 v3 := hobj ▸ Heap.IsSliceOf.new t3.heap v1 v2 v3
  subst hobj
  change wpAny (model X.prog X.w) X.A (subscriptTail e (.Slice (some (.Constant (.int (c : Int)) k1 p1)) none (some (.Constant (.int 2) k2 p2)) p3) (Value.ref a) (Value.ref t3.heap.objs.size)) (EP X pins σ Q) X.xe { t3 with heap := t3.heap.push { cls := .type "slice", data := .fields #[v1, v2, v3] } }
  refine tail_any (ops := [Value.ref a, Value.ref t3.heap.objs.size]) plain.isList.typeIs PySem.slot_list_getitem.lookup ?_ (by with_unfolding_all rfl)
  refine wpAny_getItem_list_slice plain.isList isS is1 is2 is3 (by decide) ?_ (by rw [List.size_toArray, ← same]; exact short)
  rw [step_pick]
  refine ⟨V.ref _, upd Hs _ (HO.lst (evens (xs.drop c))), J.laid (t' := t3.toks) (fun b x z => Heap.get?_push_of_some _ z) (Nat.le_refl _) ⟨?_, _, 0, vals_evens (vals.drop c), Heap.get?_push_size _ rfl⟩, rfl, q _ (J.hok.fresh (Nat.le_refl _))⟩
  rw [evens_length, List.length_drop]
  omega
theorem odds_drop {α : Type} : ∀ l : List α, evens (l.drop 1) = odds l
  | [] => rfl
  | [_] => rfl
  | [_, _] => rfl
  | _ :: b :: c :: r => by
    show b :: evens ((c :: r).drop 1) = b :: odds (c :: r)
    rw [odds_drop (c :: r)]
end My
namespace My
open PySem PySem.Spec PyProof.Rows L2
/-! ### the text -/
def topS (i : Nat) : Stmt := PySem.Challenge.pw_spreadpicks_s04_check_prices.main.body.getD i (.Pass ⟨0, 0, 0, 0⟩)
abbrev sOut : Stmt := topS 7
abbrev sPos : Stmt := topS 8
abbrev sWts : Stmt := topS 9
abbrev sBtw : Stmt := topS 10
abbrev sInc : Stmt := topS 11
abbrev sArp : Stmt := topS 12
abbrev sWil : Stmt := topS 13
abbrev sCnf : Stmt := topS 15
abbrev sApr : Stmt := topS 14
abbrev sCfb : Stmt := topS 16
abbrev sAhd : Stmt := topS 17
abbrev sSuf : Stmt := topS 18
abbrev sChk : Stmt := topS 19
theorem scOut : FnScope [] [] (defScope sOut) := ⟨rfl, rfl, rfl, by decide +kernel, rfl, by decide +kernel, by decide +kernel⟩
theorem scPos : FnScope ["points"] ["points"] (defScope sPos) := ⟨rfl, rfl, rfl, by decide +kernel, rfl, by decide +kernel, by decide +kernel⟩
theorem scWts : FnScope ["points"] ["points"] (defScope sWts) := ⟨rfl, rfl, rfl, by decide +kernel, rfl, by decide +kernel, by decide +kernel⟩
theorem scBtw : FnScope ["numbers", "least", "most", "number"] ["numbers", "least", "most"] (defScope sBtw) := ⟨rfl, rfl, rfl, by decide +kernel, rfl, by decide +kernel, by decide +kernel⟩
theorem scInc : FnScope ["numbers", "i"] ["numbers"] (defScope sInc) := ⟨rfl, rfl, rfl, by decide +kernel, rfl, by decide +kernel, by decide +kernel⟩
theorem scArp : FnScope ["points", "positions"] ["points"] (defScope sArp) := ⟨rfl, rfl, rfl, by decide +kernel, rfl, by decide +kernel, by decide +kernel⟩
theorem scWil : FnScope ["spacing", "points"] ["spacing", "points"] (defScope sWil) := ⟨rfl, rfl, rfl, by decide +kernel, rfl, by decide +kernel, by decide +kernel⟩
theorem scCnf : FnScope ["spacing", "position", "other"] ["spacing", "position", "other"] (defScope sCnf) := ⟨rfl, rfl, rfl, by decide +kernel, rfl, by decide +kernel, by decide +kernel⟩
theorem scApr : FnScope ["numbers", "count"] ["numbers", "count"] (defScope sApr) := ⟨rfl, rfl, rfl, by decide +kernel, rfl, by decide +kernel, by decide +kernel⟩
theorem scCfb : FnScope ["spacing", "positions", "index", "count"] ["spacing", "positions", "index"] (defScope sCfb) := ⟨rfl, rfl, rfl, by decide +kernel, rfl, by decide +kernel, by decide +kernel⟩
theorem scAhd : FnScope ["spacing", "positions", "point_prices", "index", "free"] ["spacing", "positions", "point_prices", "index"] (defScope sAhd) := ⟨rfl, rfl, rfl, by decide +kernel, rfl, by decide +kernel, by decide +kernel⟩
theorem scSuf : FnScope ["spacing", "positions", "weights", "point_prices", "i", "ahead"] ["spacing", "positions", "weights", "point_prices"] (defScope sSuf) := ⟨rfl, rfl, rfl, by decide +kernel, rfl, by decide +kernel, by decide +kernel⟩
theorem scChk : FnScope ["spacing", "points", "prices", "positions", "sufficient"] ["spacing", "points", "prices"] (defScope sChk) := ⟨rfl, rfl, rfl, by decide +kernel, rfl, by decide +kernel, by decide +kernel⟩
end My
namespace My
open PySem PySem.Spec PyProof.Rows L2
/-! ### heaps -/
theorem same_upd {H : Hp} {p : Addr} {o : HO} (h : H p = none) : Same H (upd H p o) := fun b x e => by
  rw [upd_ne (ne_of_none e h)]
  exact e
/-- a change of what is new leaves what stood -/
theorem same_upd2 {H0 H : Hp} {p : Addr} {o : HO} (s : Same H0 H) (h : H0 p = none) : Same H0 (upd H p o) := fun b x e => by
  rw [upd_ne (ne_of_none e h)]
  exact s b x e
theorem not_t {b : Bool} (h : (!b) = true) : b = false := by
  cases b with
  | false => rfl
  | true => exact absurd h (by decide)
theorem small {n : Nat} (h : n ≤ 1000) : n < sizeLine := small1000 h
section
variable {P : Program} {w : World} {K : PySem.W.Frag} {mg : Str → Option Value} {base : Heap}
/-- a def of the text: where it stands -/
structure Df (K : PySem.W.Frag) (mg : Str → Option Value) (x : Str) (st : Stmt) (ps : List Str) (f : Addr) (fd : FuncData) : Prop where
  F : Fun K x x st f fd
  b : Binds K fd ps []
  g : mg x = some (.ref f)

/-! ### out_of_limits -/
def spOut : Sp := fun vs H Q _ => vs = [] ∧ ∀ H' p, Same H H' → H p = none → H' p = some (.lst [.int (-22)]) → Q (.ref p) H'
theorem ok_out {f : Addr} {fd : FuncData} {k : Nat} (F : Df K mg "out_of_limits" sOut [] f fd) : FnOk P w K mg base CX0 (k + 1) f fd [] spOut := by
  refine F.F.ok scOut (fun vs H Q E h => ?_) (fun cdv A outer s H vs Q E hr h => ?_)
  · rw [h.1]
    rfl
  · obtain ⟨rfl, q⟩ := h
    refine ⟨_, pss_one (ps_ret (pe_lst (pa_cons (pe_un un_neg pe_int) pa_nil))), ?_⟩
    exact ⟨22, rfl, (by show 1 ≤ sizeLine; decide), fun p np => q _ p (same_upd np) np upd_same⟩

/-! ### positions_of, weights_of -/
def spCut (K : PySem.W.Frag) (c : Nat) : Sp := fun vs H Q _ => ∃ (a : Addr) (xs : List V), vs = [.ref a] ∧ SqL K H a xs ∧ ∀ H' p, Same H H' → H p = none → H' p = some (.lst (evens (xs.drop c))) → Q (.ref p) H'
theorem ok_pos {f : Addr} {fd : FuncData} {k : Nat} (F : Df K mg "positions_of" sPos ["points"] f fd) : FnOk P w K mg base CX0 (k + 1) f fd ["points"] (spCut K 0) := by
  refine F.F.ok scPos (fun vs H Q E h => ?_) (fun cdv A outer s H vs Q E hr h => ?_)
  · obtain ⟨a, xs, rfl, _⟩ := h
    rfl
  · obtain ⟨a, xs, rfl, hS, q⟩ := h
    refine ⟨_, pss_one (ps_ret (pe_step2 0 (pv 0))), ?_⟩
    exact ⟨.ref a, rfl, a, xs, rfl, hS, fun p np => q _ p (same_upd np) np upd_same⟩
theorem ok_wts {f : Addr} {fd : FuncData} {k : Nat} (F : Df K mg "weights_of" sWts ["points"] f fd) : FnOk P w K mg base CX0 (k + 1) f fd ["points"] (spCut K 1) := by
  refine F.F.ok scWts (fun vs H Q E h => ?_) (fun cdv A outer s H vs Q E hr h => ?_)
  · obtain ⟨a, xs, rfl, _⟩ := h
    rfl
  · obtain ⟨a, xs, rfl, hS, q⟩ := h
    refine ⟨_, pss_one (ps_ret (pe_step2 1 (pv 0))), ?_⟩
    exact ⟨.ref a, rfl, a, xs, rfl, hS, fun p np => q _ p (same_upd np) np upd_same⟩

/-! ### are_between -/
theorem take_more {α β : Type} {l : List α} {g : α → β} {i : Nat} {x : α} (h : l[i]? = some x) : (l.take i).map g ++ [g x] = (l.take (i + 1)).map g := by
  rw [List.take_add_one, h, List.map_append]
  rfl
theorem map_at {ns : List Int} {i : Nat} {y : V} (h : (ns.map V.int)[i]? = some y) : ∃ z, ns[i]? = some z ∧ y = .int z := by
  rw [List.getElem?_map] at h
  cases e : ns[i]? with
  | none => rw [e] at h; cases h
  | some z => rw [e] at h; exact ⟨z, rfl, (Option.some.inj h).symm⟩
def spBtw (K : PySem.W.Frag) : Sp := fun vs H Q _ => ∃ (a : Addr) (ns : List Int) (lo hi : Int), vs = [.ref a, .int lo, .int hi] ∧ SqL K H a (ns.map V.int) ∧ ns.length ≤ 1000 ∧ ∀ H', Same H H' → Q (.bl (btw lo hi ns)) H'
theorem ok_btw {f : Addr} {fd : FuncData} {k : Nat} (F : Df K mg "are_between" sBtw ["numbers", "least", "most"] f fd) (mAll : mg "all" = none) : FnOk P w K mg base CX0 (k + 1) f fd ["numbers", "least", "most"] (spBtw K) := by
  refine F.F.ok scBtw (fun vs H Q E h => ?_) (fun cdv A outer s H vs Q E hr h => ?_)
  · obtain ⟨a, ns, lo, hi, rfl, _⟩ := h
    rfl
  · obtain ⟨a, ns, lo, hi, rfl, hS, hlen, q⟩ := h
    refine ⟨_, pss_one (ps_ret (pe_callB (cr_all rfl) (by rfl) mAll boot_all (pa_cons
      (pe_lc (own := [("number", 3)]) (g := gName 3) (tt := tYes) rfl scBtw.nd (pi_list (pv 0)) (blkOk_by (N := ["numbers", "least", "most", "number"]) (sc := defScope sBtw) (by decide +kernel))
        (fun _ _ _ _ _ => pg_name (i := 3) scBtw.nd rfl (Or.inl rfl)) (fun _ _ _ _ _ => pts_nil) (fun _ _ _ _ _ => pe_chain op_le op_le (pv 1) (pv 3) (pv 2))) pa_nil))), ?_⟩
    refine ⟨.ref a, rfl, a, rfl, ⟨_, hS⟩, fun D nD => ?_⟩
    refine lc_list (K := K) (a := a) (xs := ns.map V.int) (fun i H' => Same H H' ∧ H' D = some (.lst (((ns.take i).map fun x => decide (lo ≤ x) && decide (x ≤ hi)).map V.bl))) ⟨same_upd nD, upd_same⟩ (fun i H' _ h => h.1.seq hS) ?_ ?_
    · rintro i y H' hi' ⟨sm, hD⟩
      obtain ⟨z, hz, rfl⟩ := map_at hi'
      have hlz : i < ns.length := (List.getElem?_eq_some_iff.mp hz).1
      refine ⟨rfl, .int lo, rfl, .int z, rfl, lo, z, rfl, rfl, _, rfl, ?_⟩
      have fin : ∀ b : Bool, b = (decide (lo ≤ z) && decide (z ≤ hi)) → ∃ acc, H' D = some (.lst acc) ∧ acc.length < sizeLine ∧ (Same H (upd H' D (.lst (acc ++ [.bl b]))) ∧ (upd H' D (.lst (acc ++ [.bl b]))) D = some (.lst (((ns.take (i + 1)).map fun x => decide (lo ≤ x) && decide (x ≤ hi)).map V.bl))) := by
        intro b hb
        refine ⟨_, hD, ?_, same_upd2 sm nD, ?_⟩
        · rw [List.length_map, List.length_map, List.length_take]
          exact small (by omega)
        · rw [upd_same, hb, ← take_more (g := fun x => decide (lo ≤ x) && decide (x ≤ hi)) hz, List.map_append]
          rfl
      refine ite2 (fun c => ?_) (fun c => ?_)
      · refine ⟨.int hi, rfl, z, hi, rfl, rfl, ?_⟩
        exact fin _ (by rw [c, Bool.true_and])
      · exact fin _ (by rw [show decide (lo ≤ z) = false by simpa using c, Bool.false_and])
    · rintro H' ⟨sm, hD⟩
      refine ⟨D, _, rfl, .inl (.inl hD), ?_⟩
      rw [List.length_map, List.take_length]
      have e : (ns.map fun x => decide (lo ≤ x) && decide (x ≤ hi)).all id = btw lo hi ns := by
        unfold btw
        rw [List.all_map]
        rfl
      rw [e]
      exact q _ sm

/-! ### are_increasing -/
theorem int_at {ns : List Int} {j : Nat} (h : j < ns.length) : (ns.map V.int)[j]? = some (.int (ns.getD j 0)) := by
  rw [List.getElem?_map, List.getD_eq_getElem?_getD, List.getElem?_eq_getElem h]
  rfl
theorem len62 {n : Nat} (h : n ≤ 1000) : -(2 ^ 62) ≤ (1 : Int) ∧ (1 : Int) < 2 ^ 62 ∧ -(2 ^ 62) ≤ (n : Int) ∧ (n : Int) < 2 ^ 62 := by omega
def spInc (K : PySem.W.Frag) : Sp := fun vs H Q _ => ∃ (a : Addr) (ns : List Int), vs = [.ref a] ∧ SqL K H a (ns.map V.int) ∧ ns.length ≤ 1000 ∧ ∀ H', Same H H' → Q (.bl (incr ns)) H'
theorem ok_inc {f : Addr} {fd : FuncData} {k : Nat} (F : Df K mg "are_increasing" sInc ["numbers"] f fd) (mAll : mg "all" = none) (mRange : mg "range" = none) (mLen : mg "len" = none) : FnOk P w K mg base CX0 (k + 1) f fd ["numbers"] (spInc K) := by
  refine F.F.ok scInc (fun vs H Q E h => ?_) (fun cdv A outer s H vs Q E hr h => ?_)
  · obtain ⟨a, ns, rfl, _⟩ := h
    rfl
  · obtain ⟨a, ns, rfl, hS, hlen, q⟩ := h
    refine ⟨_, pss_one (ps_ret (pe_callB (cr_all rfl) (by rfl) mAll boot_all (pa_cons
      (pe_lc (own := [("i", 1)]) (g := gName 1) (tt := tYes) rfl scInc.nd (pi_range2 (by rfl) mRange (pa_cons pe_int (pa_cons (pe_callB call_len_seq (by rfl) mLen PySem.boot_len (pa_cons (pv 0) pa_nil)) pa_nil))) (blkOk_by (N := ["numbers", "i"]) (sc := defScope sInc) (by decide +kernel))
        (fun _ _ _ _ _ => pg_name (i := 1) scInc.nd rfl (Or.inl rfl)) (fun _ _ _ _ _ => pts_nil)
        (fun _ _ _ _ _ => pe_cmpR op_lt (pe_ix (r := rIxL K) ix_list (pv 0) (pe_op op_sub (pv 1) pe_int) (fun _ _ => rfl)) (pe_ix (r := rIxL K) ix_list (pv 0) (pv 1) (fun _ _ => rfl)) (nomark _))) pa_nil))), ?_⟩
    refine ⟨.ref a, rfl, a, _, rfl, .inl hS, 1, _, rfl, ?_, fun D nD => ?_⟩
    · rw [List.length_map]
      exact len62 hlen
    · have en : (((ns.map V.int).length : Int) - 1).toNat = ns.length - 1 := by
        rw [List.length_map]
        omega
      rw [en]
      refine lc_range (lo := 1) (n := ns.length - 1) (fun i H' => Same H H' ∧ H' D = some (.lst (((List.range i).map fun k => decide (ns.getD k 0 < ns.getD (k + 1) 0)).map V.bl))) ⟨same_upd nD, upd_same⟩ ?_ ?_
      · rintro i H' hi ⟨sm, hD⟩
        have hA : SqL K H' a (ns.map V.int) := sm.seq hS
        refine ⟨rfl, .ref a, rfl, .int (1 + (i : Int)), rfl, 1 + (i : Int), 1, rfl, rfl, a, _, _, _, rfl, rfl, hA, at_of (j := i) (by omega) (int_at (by omega)), .ref a, rfl, .int (1 + (i : Int)), rfl, a, _, _, _, rfl, rfl, hA, at_of (j := i + 1) (by omega) (int_at (by omega)), _, _, rfl, rfl, ?_⟩
        refine ⟨_, hD, ?_, same_upd2 sm nD, ?_⟩
        · rw [List.length_map, List.length_map, List.length_range]
          exact small (by omega)
        · rw [upd_same, List.range_succ, List.map_append, List.map_append]
          rfl
      · rintro H' ⟨sm, hD⟩
        refine ⟨D, _, rfl, .inl (.inl hD), ?_⟩
        have e : ((List.range (ns.length - 1)).map fun k => decide (ns.getD k 0 < ns.getD (k + 1) 0)).all id = incr ns := by
          unfold incr
          rw [List.all_map]
          rfl
        rw [e]
        exact q _ sm

/-! ### are_points -/
def spArp (K : PySem.W.Frag) : Sp := fun vs H Q _ => ∃ (a : Addr) (ns : List Int), vs = [.ref a] ∧ SqL K H a (ns.map V.int) ∧ ns.length ≤ 27 ∧ ∀ H', Same H H' → Q (.bl (okPts ns)) H'
theorem ok_arp {f fP fW fB fI : Addr} {fd fdP fdW fdB fdI : FuncData} (F : Df K mg "are_points" sArp ["points"] f fd) (FP : Df K mg "positions_of" sPos ["points"] fP fdP) (FW : Df K mg "weights_of" sWts ["points"] fW fdW)
    (FB : Df K mg "are_between" sBtw ["numbers", "least", "most"] fB fdB) (FI : Df K mg "are_increasing" sInc ["numbers"] fI fdI) (mAll : mg "all" = none) (mRange : mg "range" = none) (mLen : mg "len" = none)
    {t1 t2 t3 : Tok} (cP : mg "MOST_POINTS" = some (.int 12 t1)) (cQ : mg "MOST_POSITION" = some (.int 999 t2)) (cW : mg "MOST_WEIGHT" = some (.int 99 t3)) : FnOk P w K mg base CX0 2 f fd ["points"] (spArp K) := by
  have GP : FnOk P w K mg base CX0 1 fP fdP ["points"] (spCut K 0) := ok_pos FP
  have GW : FnOk P w K mg base CX0 1 fW fdW ["points"] (spCut K 1) := ok_wts FW
  have GB : FnOk P w K mg base CX0 1 fB fdB ["numbers", "least", "most"] (spBtw K) := ok_btw FB mAll
  have GI : FnOk P w K mg base CX0 1 fI fdI ["numbers"] (spInc K) := ok_inc FI mAll mRange mLen
  refine F.F.ok scArp (fun vs H Q E h => ?_) (fun cdv A outer s H vs Q E hr h => ?_)
  · obtain ⟨a, ns, rfl, _⟩ := h
    rfl
  · obtain ⟨a, ns, rfl, hS, hlen, q⟩ := h
    refine ⟨_, pss_cons (ps_if (PW.pt (pw_or (pt_cmpR op_ne (pe_op op_mod (pe_callB call_len_seq (by rfl) mLen PySem.boot_len (pa_cons (pv 0) pa_nil)) pe_int) pe_int (nomark _))
          (pw_or1 (pt_cmpR op_gt (pe_callB call_len_seq (by rfl) mLen PySem.boot_len (pa_cons (pv 0) pa_nil)) (pe_op op_mul pe_int (pe_glob (v := .int 12) rfl cP ⟨_, rfl⟩)) (nomark _)))))
        (pss_one (ps_ret pe_bl)) pss_nil)
      (pss_cons (ps_set (i := 1) scArp.nd rfl (Or.inl rfl) (pe_call GP hr (by rfl) FP.g FP.F.kp FP.b .nil pass0 (pa_cons (pv 0) pa_nil)))
      (pss_one (ps_ret (pe_and (pe_call GB hr (by rfl) FB.g FB.F.kp FB.b .nil pass0 (pa_cons (pv 1) (pa_cons pe_int (pa_cons (pe_glob (v := .int 999) rfl cQ ⟨_, rfl⟩) pa_nil))))
        (pe_and (pe_call GI hr (by rfl) FI.g FI.F.kp FI.b .nil pass0 (pa_cons (pv 1) pa_nil))
        (pe_one (pe_call GB hr (by rfl) FB.g FB.F.kp FB.b .nil pass0 (pa_cons (pe_call GW hr (by rfl) FW.g FW.F.kp FW.b .nil pass0 (pa_cons (pv 0) pa_nil)) (pa_cons pe_int (pa_cons (pe_glob (v := .int 99) rfl cW ⟨_, rfl⟩) pa_nil)))))))))), ?_⟩
    have el : (ns.map V.int).length = ns.length := List.length_map ..
    refine ⟨.ref a, rfl, a, _, rfl, .inl hS, _, _, rfl, rfl, (by show (0 : Int) < 2; decide), rfl, _, rfl, ?_⟩
    rw [el]
    refine ite2 (fun c => ?_) (fun c => ?_)
    · -- an odd number of integers
      have e : okPts ns = false := by
        unfold okPts
        have h2 : decide (ns.length % 2 = 0) = false := by
          rw [decide_eq_false_iff_not]
          intro z
          have : ((ns.length : Int) % 2) = 0 := by omega
          have c2 : decide (V.int ((ns.length : Int) % 2) = V.int 0) = false := not_t c
          rw [decide_eq_true (congrArg V.int this)] at c2
          exact absurd c2 (by decide)
        rw [h2]
        simp
      have q' := q H (Same.refl H)
      rw [e] at q'
      exact q'
    · have h2 : ns.length % 2 = 0 := by
        have c' : decide (V.int ((ns.length : Int) % 2) = V.int 0) = true := by simpa using c
        have := V.int.inj (of_decide_eq_true c')
        omega
      refine ⟨.ref a, rfl, a, _, rfl, .inl hS, 2, 12, rfl, rfl, (by unfold CMul; decide), _, _, rfl, rfl, _, rfl, ?_⟩
      rw [el]
      refine ite2 (fun c => ?_) (fun c => ?_)
      · have e : okPts ns = false := by
          unfold okPts
          have h3 : decide (ns.length ≤ 24) = false := by
            rw [decide_eq_false_iff_not]
            have := of_decide_eq_true c
            omega
          rw [h3]
          simp
        have q' := q H (Same.refl H)
        rw [e] at q'
        exact q'
      · have h3 : ns.length ≤ 24 := by
          have : ¬ ((2 : Int) * 12 < (ns.length : Int)) := fun z => c (decide_eq_true z)
          omega
        have eo : okPts ns = (btw 0 999 (evens ns) && (incr (evens ns) && btw 0 99 (odds ns))) := by
          unfold okPts
          rw [decide_eq_true h2, decide_eq_true h3, Bool.true_and, Bool.true_and, Bool.and_assoc]
        have ee : evens ((ns.map V.int).drop 0) = (evens ns).map V.int := by
          rw [List.drop_zero, evens_map]
        have eD : evens ((ns.map V.int).drop 1) = (odds ns).map V.int := by
          rw [odds_drop, odds_map]
        have le : (evens ns).length ≤ 1000 := by
          rw [evens_length]
          omega
        have lo : (odds ns).length ≤ 1000 := by
          rw [odds_length]
          omega
        rw [eo] at q
        refine ⟨.ref a, rfl, a, _, rfl, hS, fun H1 p s1 np ep => ?_⟩
        rw [ee] at ep
        have hp : SqL K H1 p ((evens ns).map V.int) := .inl (.inl ep)
        refine ⟨.ref p, rfl, p, evens ns, 0, 999, rfl, hp, le, fun H2 s2 => ⟨_, rfl, ?_⟩⟩
        cases b1 : btw 0 999 (evens ns) with
        | false =>
          rw [b1] at q
          exact q _ (s1.trans s2)
        | true =>
          rw [b1] at q
          refine ⟨.ref p, rfl, p, evens ns, rfl, s2.seq hp, le, fun H3 s3 => ⟨_, rfl, ?_⟩⟩
          cases b2 : incr (evens ns) with
          | false =>
            rw [b2] at q
            exact q _ ((s1.trans s2).trans s3)
          | true =>
            rw [b2] at q
            refine ⟨.ref a, rfl, a, _, rfl, ((s1.trans s2).trans s3).seq hS, fun H4 p2 s4 np2 ep2 => ?_⟩
            rw [eD] at ep2
            refine ⟨p2, odds ns, 0, 99, rfl, .inl (.inl ep2), lo, fun H5 s5 => ?_⟩
            exact q _ ((((s1.trans s2).trans s3).trans s4).trans s5)

/-! ### are_within_limits -/
def spWil (K : PySem.W.Frag) : Sp := fun vs H Q _ => ∃ (a : Addr) (sp : Int) (ns : List Int), vs = [.int sp, .ref a] ∧ SqL K H a (ns.map V.int) ∧ ns.length ≤ 27 ∧ ∀ H', Same H H' → Q (.bl (decide (1 ≤ sp) && decide (sp ≤ 999) && okPts ns)) H'
theorem ok_wil {f fA : Addr} {fd fdA : FuncData} (F : Df K mg "are_within_limits" sWil ["spacing", "points"] f fd) (FA : Df K mg "are_points" sArp ["points"] fA fdA) (GA : FnOk P w K mg base CX0 2 fA fdA ["points"] (spArp K))
    {t1 t2 : Tok} (c1 : mg "LEAST_SPACING" = some (.int 1 t1)) (c2 : mg "MOST_SPACING" = some (.int 999 t2)) : FnOk P w K mg base CX0 3 f fd ["spacing", "points"] (spWil K) := by
  refine F.F.ok scWil (fun vs H Q E h => ?_) (fun cdv A outer s H vs Q E hr h => ?_)
  · obtain ⟨a, sp, ns, rfl, _⟩ := h
    rfl
  · obtain ⟨a, sp, ns, rfl, hS, hlen, q⟩ := h
    refine ⟨_, pss_one (ps_ret (pe_and (pe_chain op_le op_le (pe_glob (v := .int 1) rfl c1 ⟨_, rfl⟩) (pv 0) (pe_glob (v := .int 999) rfl c2 ⟨_, rfl⟩)) (pe_one (pe_call GA hr (by rfl) FA.g FA.F.kp FA.b .nil pass0 (pa_cons (pv 1) pa_nil))))), ?_⟩
    refine ⟨.int sp, rfl, 1, sp, rfl, rfl, _, rfl, ?_⟩
    cases b1 : decide (1 ≤ sp) with
    | false =>
      rw [b1] at q
      exact ⟨_, rfl, q H (Same.refl H)⟩
    | true =>
      rw [b1] at q
      refine ⟨sp, 999, rfl, rfl, _, rfl, ?_⟩
      cases b2 : decide (sp ≤ 999) with
      | false =>
        rw [b2] at q
        exact q H (Same.refl H)
      | true =>
        rw [b2] at q
        exact ⟨.ref a, rfl, a, ns, rfl, hS, hlen, fun H1 s1 => q H1 s1⟩

/-! ### in_conflict -/
def spCnf : Sp := fun vs H Q _ => ∃ (sp x y : Int), vs = [.int sp, .int x, .int y] ∧ Q (.bl (conf sp x y)) H
theorem ok_cnf {f : Addr} {fd : FuncData} {k : Nat} (F : Df K mg "in_conflict" sCnf ["spacing", "position", "other"] f fd) (mAbs : mg "abs" = none) : FnOk P w K mg base CX0 (k + 1) f fd ["spacing", "position", "other"] spCnf := by
  refine F.F.ok scCnf (fun vs H Q E h => ?_) (fun cdv A outer s H vs Q E hr h => ?_)
  · obtain ⟨sp, x, y, rfl, _⟩ := h
    rfl
  · obtain ⟨sp, x, y, rfl, q⟩ := h
    refine ⟨_, pss_one (ps_ret (pe_cmpR op_lt (pe_callB call_abs (by rfl) mAbs boot_abs (pa_cons (pe_op op_sub (pv 1) (pv 2)) pa_nil)) (pv 0) (nomark _))), ?_⟩
    exact ⟨.int x, rfl, .int y, rfl, x, y, rfl, rfl, x - y, rfl, .int sp, rfl, _, sp, rfl, rfl, q⟩

/-! ### lists of numbers that are not negative -/
def natsV (l : List Nat) : List V := l.map fun n : Nat => V.int (n : Int)
theorem and_nat (a b : Nat) : Builtin.bitAnd (a : Int) (b : Int) = ((a &&& b : Nat) : Int) := by
  rw [bitAnd_pp (by omega) (by omega), Int.toNat_natCast, Int.toNat_natCast]
theorem shr_nat (m i : Nat) : (m : Int) / 2 ^ i = ((m / 2 ^ i : Nat) : Int) := by
  rw [Int.natCast_ediv, Int.natCast_pow]
  rfl
theorem nats_is (l : List Nat) : natsV l = (l.map Int.ofNat).map V.int := by
  unfold natsV
  rw [List.map_map]
  rfl
theorem nats_length (l : List Nat) : (natsV l).length = l.length := List.length_map ..
theorem nat_at {l : List Nat} {j : Nat} (h : j < l.length) : (natsV l)[j]? = some (.int ((l.getD j 0 : Nat) : Int)) := by
  unfold natsV
  rw [List.getElem?_map, List.getD_eq_getElem?_getD, List.getElem?_eq_getElem h]
  rfl
theorem nats_get {l : List Nat} {i : Nat} {y : V} (h : (natsV l)[i]? = some y) : ∃ z : Nat, l[i]? = some z ∧ y = .int (z : Int) := by
  unfold natsV at h
  rw [List.getElem?_map] at h
  cases e : l[i]? with
  | none => rw [e] at h; cases h
  | some z => rw [e] at h; exact ⟨z, rfl, (Option.some.inj h).symm⟩
theorem nats_more {l : List Nat} {g : Nat → Nat} {i x : Nat} (h : l[i]? = some x) : natsV ((l.take i).map g) ++ [.int ((g x : Nat) : Int)] = natsV ((l.take (i + 1)).map g) := by
  rw [← take_more (g := g) h]
  unfold natsV
  rw [List.map_append]
  rfl
theorem evens_nats (l : List Nat) : evens ((natsV l).drop 0) = natsV (evens l) := by
  rw [List.drop_zero]
  exact evens_map _ l
theorem odds_nats (l : List Nat) : evens ((natsV l).drop 1) = natsV (odds l) := by
  rw [odds_drop]
  exact odds_map _ l
/-- within the limits: as the program asks it -/
def okAll (sp : Nat) (flat : List Nat) : Bool := decide (1 ≤ (sp : Int)) && decide ((sp : Int) ≤ 999) && okPts (flat.map Int.ofNat)
theorem all_bad {sp : Nat} {flat : List Nat} {f : Ks591.Points → Ks591.Result} (h : okAll sp flat = false) : Ks591Neutral.integers (Ks591.withPoints sp flat f) = [-22] := by
  rw [with_bad]
  · rfl
  · unfold okAll at h
    cases b1 : okPts (flat.map Int.ofNat) with
    | false => exact .inl rfl
    | true =>
      right
      rw [b1, Bool.and_true, Bool.and_eq_false_iff, decide_eq_false_iff_not, decide_eq_false_iff_not] at h
      omega
theorem all_good {sp : Nat} {flat : List Nat} {f : Ks591.Points → Ks591.Result} (h : okAll sp flat = true) : Ks591Neutral.integers (Ks591.withPoints sp flat f) = Ks591Neutral.integers (f (mk flat)) ∧ okPts (flat.map Int.ofNat) = true ∧ 1 ≤ sp ∧ sp ≤ 999 := by
  unfold okAll at h
  simp only [Bool.and_eq_true, decide_eq_true_eq] at h
  exact ⟨by rw [with_good h.2 (by omega) (by omega)], h.2, by omega, by omega⟩
theorem nat_of {i : Int} (h : PySem.W.Codec.inInt 0 4294967295 i = true) : ∃ n : Nat, i = (n : Int) := by
  unfold PySem.W.Codec.inInt at h
  rw [Bool.and_eq_true, decide_eq_true_eq] at h
  exact ⟨i.toNat, by omega⟩
theorem nats_of : ∀ {l : List Int}, l.all (PySem.W.Codec.inInt 0 4294967295) = true → ∃ m : List Nat, l = m.map Int.ofNat
  | [], _ => ⟨[], rfl⟩
  | i :: l, h => by
    rw [List.all_cons, Bool.and_eq_true] at h
    obtain ⟨n, rfl⟩ := nat_of h.1
    obtain ⟨m, rfl⟩ := nats_of h.2
    exact ⟨n :: m, rfl⟩
end
end My
namespace My
open PySem PySem.Spec PyProof.Rows L2
section
variable {P : Program} {w : World} {K : PySem.W.Frag} {mg : Str → Option Value} {base : Heap}
theorem or_nat (a i : Nat) : Builtin.bitOr (a : Int) (1 * 2 ^ (i : Int).toNat) = ((a ||| 2 ^ i : Nat) : Int) := by
  have e : (1 : Int) * 2 ^ (i : Int).toNat = ((2 ^ i : Nat) : Int) := by
    rw [Int.one_mul, Int.toNat_natCast, Int.natCast_pow]
    rfl
  rw [e, Bits.bitOr_pp (Int.natCast_nonneg _) (Int.natCast_nonneg _), Int.toNat_natCast, Int.toNat_natCast]
theorem nats_app (l : List Nat) (x : Nat) : natsV l ++ [.int (x : Int)] = natsV (l ++ [x]) := by
  unfold natsV
  rw [List.map_append]
  rfl
theorem last_is {l : List Nat} {n : Nat} (h : l.length = n + 1) : atI (natsV l) (-1) = some (.int ((l.getD n 0 : Nat) : Int)) := by
  have e : l = l.take n ++ [l.getD n 0] := by
    have h1 := List.take_add_one (l := l) (i := n)
    rw [List.take_of_length_le (by omega), List.getElem?_eq_getElem (by omega)] at h1
    rw [List.getD_eq_getElem?_getD, List.getElem?_eq_getElem (by omega)]
    exact h1
  have e2 : natsV l = natsV (l.take n) ++ [.int ((l.getD n 0 : Nat) : Int)] := by
    rw [nats_app]
    exact congrArg natsV e
  rw [e2]
  exact atI_last _ _
end
end My
namespace My
open PySem PySem.Spec PyProof.Rows L2
section
variable {P : Program} {w : World} {K : PySem.W.Frag} {mg : Str → Option Value} {base : Heap}
/-! ### count_of_free_before -/
def spCfb (K : PySem.W.Frag) : Sp := fun vs H Q _ => ∃ (a : Addr) (sp i : Nat) (ps : List Nat), vs = [.int (sp : Int), .ref a, .int (i : Int)] ∧ SqL K H a (natsV ps) ∧ i < ps.length ∧ Q (.int (freeR ps sp i i : Nat)) H
theorem ok_cfb {f fC : Addr} {fd fdC : FuncData} (F : Df K mg "count_of_free_before" sCfb ["spacing", "positions", "index"] f fd) (FC : Df K mg "in_conflict" sCnf ["spacing", "position", "other"] fC fdC) (mAbs : mg "abs" = none) :
    FnOk P w K mg base CX0 2 f fd ["spacing", "positions", "index"] (spCfb K) := by
  have GC : FnOk P w K mg base CX0 1 fC fdC ["spacing", "position", "other"] spCnf := ok_cnf FC mAbs
  refine F.F.ok scCfb (fun vs H Q E h => ?_) (fun cdv A outer s H vs Q E hr h => ?_)
  · obtain ⟨a, sp, i, ps, rfl, _⟩ := h
    rfl
  · obtain ⟨a, sp, i, ps, rfl, hS, hi, q⟩ := h
    refine ⟨_, pss_cons (ps_set (i := 3) scCfb.nd rfl (Or.inl rfl) (pv 2))
      (pss_cons (ps_while PassesOwn.never (PW.pt (pw_and (pt_cmpR op_gt (pv 3) pe_int (nomark _))
          (pw_and1 (pt_val (pe_call GC hr (by rfl) FC.g FC.F.kp FC.b .nil pass0 (pa_cons (pv 0) (pa_cons (pe_ix (r := rIxL K) ix_list (pv 1) (pe_op op_sub (pv 3) pe_int) (fun _ _ => rfl)) (pa_cons (pe_ix (r := rIxL K) ix_list (pv 1) (pv 2) (fun _ _ => rfl)) pa_nil))))))))
        (pss_one (ps_set (i := 3) scCfb.nd rfl (Or.inl rfl) (pe_op op_sub (pv 3) pe_int))))
      (pss_one (ps_ret (pv 3)))), ?_⟩
    refine ⟨.int (i : Int), rfl, fun m σ H' => H' = H ∧ σ = [some (.int (sp : Int)), some (.ref a), some (.int (i : Int)), some (.int (m : Int))] ∧ m ≤ i ∧ freeR ps sp i m = freeR ps sp i i, ⟨i, rfl, rfl, Nat.le_refl _, rfl⟩, ?_⟩
    rintro m σ H' ⟨rfl, rfl, hm, ef⟩
    refine ⟨.int (m : Int), rfl, (m : Int), 0, rfl, rfl, _, rfl, ?_⟩
    cases m with
    | zero =>
      refine ite2 (fun c => absurd c (by decide)) (fun _ => ?_)
      show if false = true then _ else _
      refine iteF ?_
      refine ⟨.int ((0 : Nat) : Int), rfl, ?_⟩
      rw [← ef] at q
      exact q
    | succ c =>
      refine ite2 (fun _ => ?_) (fun z => absurd (decide_eq_true (by omega)) z)
      refine ⟨.int (sp : Int), rfl, .ref a, rfl, .int ((c + 1 : Nat) : Int), rfl, ((c + 1 : Nat) : Int), 1, rfl, rfl, a, _, _, _, rfl, rfl, hS, at_of (j := c) (by omega) (nat_at (by omega)), .ref a, rfl, .int (i : Int), rfl, a, _, _, _, rfl, rfl, hS, at_of (j := i) rfl (nat_at hi), (sp : Int), _, _, rfl, _, rfl, ?_⟩
      refine ite2 (fun z => ?_) (fun z => ?_)
      · refine ⟨fun σ' H'' => H'' = H' ∧ σ' = [some (.int (sp : Int)), some (.ref a), some (.int (i : Int)), some (.int (c : Int))] ∧ c ≤ i ∧ freeR ps sp i c = freeR ps sp i i, fun σ' H'' h => ⟨c, Nat.lt_succ_self c, h⟩, ?_⟩
        refine ⟨.int ((c + 1 : Nat) : Int), rfl, ((c + 1 : Nat) : Int), 1, rfl, rfl, rfl, ?_, by omega, ?_⟩
        · have e : ((c + 1 : Nat) : Int) - 1 = (c : Int) := by omega
          rw [← e]
          rfl
        · rw [← ef]
          show _ = if _ then _ else _
          rw [if_pos z]
      · have e : freeR ps sp i (c + 1) = c + 1 := by
          show (if _ then _ else _) = _
          rw [if_neg z]
        refine ⟨.int ((c + 1 : Nat) : Int), rfl, ?_⟩
        rw [← ef, e] at q
        exact q

end
end My
namespace My
open PySem PySem.Spec PyProof.Rows L2
section
variable {P : Program} {w : World} {K : PySem.W.Frag} {mg : Str → Option Value} {base : Heap}
/-! ### price_ahead -/
theorem cut_nat {l : List Nat} {f i : Nat} (h : f ≤ i) (hi : i ≤ l.length) : cutV (natsV l) (some (f : Int)) (some (i : Int)) = natsV ((l.take i).drop f) := by
  have ef : HT.sIx (natsV l).length 0 (some (f : Int)) = f := by
    rw [nats_length]
    show (if (f : Int) < 0 then ((f : Int) + (l.length : Int)).toNat else min (f : Int).toNat l.length) = f
    rw [if_neg (by omega), Int.toNat_natCast]
    omega
  have ei : HT.sIx (natsV l).length (natsV l).length (some (i : Int)) = i := by
    rw [nats_length]
    show (if (i : Int) < 0 then ((i : Int) + (l.length : Int)).toNat else min (i : Int).toNat l.length) = i
    rw [if_neg (by omega), Int.toNat_natCast]
    omega
  unfold cutV
  rw [ef, ei, List.drop_take]
  unfold natsV
  rw [← List.map_drop, ← List.map_take]
def upTo (ps : List Nat) (n : Nat) : Prop := ∀ i j, i < j → j < n → ps.getD i 0 < ps.getD j 0
def spAhd (K : PySem.W.Frag) : Sp := fun vs H Q _ => ∃ (a b : Addr) (sp i n : Nat) (ps qs : List Nat), vs = [.int (sp : Int), .ref a, .ref b, .int (i : Int)] ∧ SqL K H a (natsV ps) ∧ SqL K H b (natsV qs) ∧ ps.length = n ∧ i < n ∧ i ≤ qs.length ∧ upTo ps n ∧
  ∀ H', Same H H' → Q (.int (csum ps qs sp i i : Nat)) H'
theorem ok_ahd {f fC : Addr} {fd fdC : FuncData} (F : Df K mg "price_ahead" sAhd ["spacing", "positions", "point_prices", "index"] f fd) (FC : Df K mg "count_of_free_before" sCfb ["spacing", "positions", "index"] fC fdC)
    (GC : FnOk P w K mg base CX0 2 fC fdC ["spacing", "positions", "index"] (spCfb K)) (mSum : mg "sum" = none) : FnOk P w K mg base CX0 3 f fd ["spacing", "positions", "point_prices", "index"] (spAhd K) := by
  refine F.F.ok scAhd (fun vs H Q E h => ?_) (fun cdv A outer s H vs Q E hr h => ?_)
  · obtain ⟨a, b, sp, i, n, ps, qs, rfl, _⟩ := h
    rfl
  · obtain ⟨a, b, sp, i, n, ps, qs, rfl, hA, hB, lp, hi, hq, up, q⟩ := h
    refine ⟨_, pss_cons (ps_set (i := 4) scAhd.nd rfl (Or.inl rfl) (pe_call GC hr (by rfl) FC.g FC.F.kp FC.b .nil pass0 (pa_cons (pv 0) (pa_cons (pv 1) (pa_cons (pv 3) pa_nil)))))
      (pss_one (ps_ret (pe_callB (cr_sum rfl) (by rfl) mSum boot_sum (pa_cons (pe_slice sl_list (pv 2) (po_some (pv 4)) (po_some (pv 3))) pa_nil)))), ?_⟩
    refine ⟨.int (sp : Int), rfl, .ref a, rfl, .int (i : Int), rfl, a, sp, i, ps, rfl, hA, by omega, ?_⟩
    have hf := freeR_le (ps := ps) (sp := sp) (i := i) i
    refine ⟨.ref b, rfl, .int ((freeR ps sp i i : Nat) : Int), rfl, _, rfl, .int (i : Int), rfl, _, rfl, b, _, rfl, hB, fun p np => ?_⟩
    rw [cut_nat hf hq]
    refine ⟨p, ((qs.take i).drop (freeR ps sp i i)).map fun n : Nat => (n : Int), rfl, .inl (.inl ?_), ?_⟩
    · rw [upd_same]
      unfold natsV
      rw [List.map_map]
      rfl
    · rw [sum_int, ← csum_cut up hi i (Nat.le_refl _) hq]
      exact q _ (same_upd np)

end
end My
namespace My
open PySem PySem.Spec PyProof.Rows L2
section
variable {P : Program} {w : World} {K : PySem.W.Frag} {mg : Str → Option Value} {base : Heap}
/-! ### are_prices -/
def okPr (n : Nat) (pr : List Nat) : Bool := decide (pr.length = n) && btw 0 999 (pr.map Int.ofNat)
theorem okPr_is {n : Nat} {pr : List Nat} : okPr n pr = true ↔ ¬ (pr.length ≠ n ∨ (pr.any fun x => decide (999 < x)) = true) := by
  unfold okPr btw
  rw [Bool.and_eq_true, decide_eq_true_eq, List.all_map, List.all_eq_true, List.any_eq_true]
  constructor
  · rintro ⟨h1, h2⟩ (h | ⟨x, hx, h⟩)
    · exact h h1
    · have h3 := h2 x hx
      have h4 := of_decide_eq_true h
      simp at h3
      omega
  · intro h
    refine ⟨Classical.byContradiction fun z => h (.inl z), fun x hx => ?_⟩
    have : ¬ 999 < x := fun z => h (.inr ⟨x, hx, decide_eq_true z⟩)
    simp
    omega
def spApr (K : PySem.W.Frag) : Sp := fun vs H Q _ => ∃ (a : Addr) (n : Nat) (pr : List Nat), vs = [.ref a, .int (n : Int)] ∧ SqL K H a (natsV pr) ∧ pr.length ≤ 1000 ∧ ∀ H', Same H H' → Q (.bl (okPr n pr)) H'
theorem ok_apr {f fB : Addr} {fd fdB : FuncData} (F : Df K mg "are_prices" sApr ["numbers", "count"] f fd) (FB : Df K mg "are_between" sBtw ["numbers", "least", "most"] fB fdB) (mAll : mg "all" = none) (mLen : mg "len" = none) {t : Tok} (cR : mg "MOST_PRICE" = some (.int 999 t)) :
    FnOk P w K mg base CX0 2 f fd ["numbers", "count"] (spApr K) := by
  have GB : FnOk P w K mg base CX0 1 fB fdB ["numbers", "least", "most"] (spBtw K) := ok_btw FB mAll
  refine F.F.ok scApr (fun vs H Q E h => ?_) (fun cdv A outer s H vs Q E hr h => ?_)
  · obtain ⟨a, n, pr, rfl, _⟩ := h
    rfl
  · obtain ⟨a, n, pr, rfl, hS, hlen, q⟩ := h
    refine ⟨_, pss_one (ps_ret (pe_and (pe_cmpR op_eq (pe_callB call_len_seq (by rfl) mLen PySem.boot_len (pa_cons (pv 0) pa_nil)) (pv 1) (nomark _))
      (pe_one (pe_call GB hr (by rfl) FB.g FB.F.kp FB.b .nil pass0 (pa_cons (pv 0) (pa_cons pe_int (pa_cons (pe_glob (v := .int 999) rfl cR ⟨_, rfl⟩) pa_nil))))))), ?_⟩
    refine ⟨.ref a, rfl, a, natsV pr, rfl, .inl hS, .int (n : Int), rfl, rfl, _, rfl, ?_⟩
    have e : decide (V.int (((natsV pr).length : Nat) : Int) = V.int (n : Int)) = decide (pr.length = n) := by
      rw [nats_length, Bool.eq_iff_iff, decide_eq_true_eq, decide_eq_true_eq]
      constructor
      · intro h
        have := V.int.inj h
        omega
      · intro h
        rw [h]
    rw [e]
    unfold okPr at q
    cases b : decide (pr.length = n) with
    | false =>
      rw [b] at q
      exact q H (Same.refl H)
    | true =>
      rw [b, Bool.true_and] at q
      exact ⟨.ref a, rfl, a, pr.map Int.ofNat, 0, 999, rfl, (by rw [← nats_is]; exact hS), (by rw [List.length_map]; exact hlen), fun H' s' => q H' s'⟩

/-! ### are_sufficient -/
def spSuf (K : PySem.W.Frag) : Sp := fun vs H Q _ => ∃ (a b c : Addr) (sp n : Nat) (ps ws pr : List Nat), vs = [.int (sp : Int), .ref a, .ref b, .ref c] ∧ SqL K H a (natsV ps) ∧ SqL K H b (natsV ws) ∧ SqL K H c (natsV pr) ∧ ps.length = n ∧ ws.length = n ∧ pr.length = n ∧ n ≤ 12 ∧ upTo ps n ∧
  ∀ H', Same H H' → Q (.bl (suff ps ws pr sp n)) H'
theorem ok_suf {f fA : Addr} {fd fdA : FuncData} (F : Df K mg "are_sufficient" sSuf ["spacing", "positions", "weights", "point_prices"] f fd) (FA : Df K mg "price_ahead" sAhd ["spacing", "positions", "point_prices", "index"] fA fdA)
    (GA : FnOk P w K mg base CX0 3 fA fdA ["spacing", "positions", "point_prices", "index"] (spAhd K)) (mRange : mg "range" = none) (mLen : mg "len" = none) : FnOk P w K mg base CX0 4 f fd ["spacing", "positions", "weights", "point_prices"] (spSuf K) := by
  refine F.F.ok scSuf (fun vs H Q E h => ?_) (fun cdv A outer s H vs Q E hr h => ?_)
  · obtain ⟨a, b, c, sp, n, ps, ws, pr, rfl, _⟩ := h
    rfl
  · obtain ⟨a, b, c, sp, n, ps, ws, pr, rfl, hA, hB, hC, lp, lw, lq, hn, up, q⟩ := h
    refine ⟨_, pss_cons (ps_for PassesOwn.never rfl (pi_range1 (by rfl) mRange (pa_cons (pe_callB call_len_seq (by rfl) mLen PySem.boot_len (pa_cons (pv 1) pa_nil)) pa_nil)) (pg_name (i := 4) scSuf.nd rfl (Or.inl rfl))
        (pss_cons (ps_set (i := 5) scSuf.nd rfl (Or.inl rfl) (pe_call GA hr (by rfl) FA.g FA.F.kp FA.b .nil pass0 (pa_cons (pv 0) (pa_cons (pv 1) (pa_cons (pv 3) (pa_cons (pv 4) pa_nil))))))
        (pss_one (ps_if (pt_cmpR op_gt (pe_ix (r := rIxL K) ix_list (pv 2) (pv 4) (fun _ _ => rfl)) (pe_op op_add (pe_ix (r := rIxL K) ix_list (pv 3) (pv 4) (fun _ _ => rfl)) (pv 5)) (nomark _)) (pss_one (ps_ret pe_bl)) pss_nil))))
      (pss_one (ps_ret pe_bl)), ?_⟩
    have elp : (natsV ps).length = n := by rw [nats_length, lp]
    refine ⟨.ref a, rfl, a, natsV ps, rfl, .inl hA, _, rfl, by omega, by omega, ?_⟩
    rw [elp, Int.toNat_natCast]
    refine for_range (lo := 0) (n := n) (fun i σ H' => ∃ v4 v5, σ = [some (.int (sp : Int)), some (.ref a), some (.ref b), some (.ref c), v4, v5] ∧ Same H H' ∧ suff ps ws pr sp i = true) ⟨none, none, rfl, Same.refl H, rfl⟩ ?_ ?_
    · rintro i σ H' hi ⟨v4, v5, rfl, sm, hs⟩
      have e0 : (0 : Int) + (i : Int) = (i : Int) := Int.zero_add _
      rw [e0]
      refine ⟨.int (sp : Int), rfl, .ref a, rfl, .ref c, rfl, .int (i : Int), rfl, a, c, sp, i, n, ps, pr, rfl, sm.seq hA, sm.seq hC, lp, hi, by omega, up, fun H2 s2 => ?_⟩
      have s02 : Same H H2 := sm.trans s2
      refine ⟨.ref b, rfl, .int (i : Int), rfl, b, _, _, _, rfl, rfl, s02.seq hB, at_of (j := i) rfl (nat_at (by omega)), .ref c, rfl, .int (i : Int), rfl, c, _, _, _, rfl, rfl, s02.seq hC, at_of (j := i) rfl (nat_at (by omega)), _, rfl, _, _, rfl, rfl, _, _, rfl, rfl, _, rfl, ?_⟩
      refine ite2 (fun t => ?_) (fun t => ?_)
      · have t' : pr.getD i 0 + csum ps pr sp i i < ws.getD i 0 := by
          have := of_decide_eq_true t
          omega
        have q' := q H2 s02
        rw [suff_no hi t'] at q'
        exact q'
      · have t' : ¬ pr.getD i 0 + csum ps pr sp i i < ws.getD i 0 := fun z => t (decide_eq_true (by omega))
        refine ⟨_, _, rfl, s02, ?_⟩
        rw [suff_more, hs, Bool.true_and, decide_eq_true_eq]
        omega
    · rintro σ H' ⟨v4, v5, rfl, sm, hs⟩
      have q' := q H' sm
      rw [hs] at q'
      exact q'

/-! ### check_prices -/
theorem chk_is (sp : Nat) (flat pr : List Nat) : PyKs591.check_prices (sp : Int) (flat.map Int.ofNat) (pr.map Int.ofNat) = Ks591Neutral.integers (Ks591.answer (.checkPrices sp flat pr)) := by
  have e : ∀ l : List Nat, (l.map Int.ofNat).map Int.toNat = l := by
    intro l
    rw [List.map_map]
    exact List.map_id' l
  show Ks591Neutral.integers (Ks591.answer (.checkPrices (sp : Int).toNat ((flat.map Int.ofNat).map Int.toNat) ((pr.map Int.ofNat).map Int.toNat))) = _
  rw [e, e, Int.toNat_natCast]
def spChk (K : PySem.W.Frag) : Sp := fun vs H Q _ => ∃ (a b : Addr) (sp : Nat) (flat pr : List Nat), vs = [.int (sp : Int), .ref a, .ref b] ∧ SqL K H a (natsV flat) ∧ SqL K H b (natsV pr) ∧ flat.length ≤ 27 ∧ pr.length ≤ 14 ∧
  ∀ H' p, H' p = some (.lst ((PyKs591.check_prices (sp : Int) (flat.map Int.ofNat) (pr.map Int.ofNat)).map V.int)) → Q (.ref p) H'
theorem ok_chk {f fL fO fP fW fR fS : Addr} {fd fdL fdO fdP fdW fdR fdS : FuncData} (F : Df K mg "check_prices" sChk ["spacing", "points", "prices"] f fd) (FL : Df K mg "are_within_limits" sWil ["spacing", "points"] fL fdL) (FO : Df K mg "out_of_limits" sOut [] fO fdO)
    (FP : Df K mg "positions_of" sPos ["points"] fP fdP) (FW : Df K mg "weights_of" sWts ["points"] fW fdW) (FR : Df K mg "are_prices" sApr ["numbers", "count"] fR fdR) (FS : Df K mg "are_sufficient" sSuf ["spacing", "positions", "weights", "point_prices"] fS fdS)
    (GL : FnOk P w K mg base CX0 3 fL fdL ["spacing", "points"] (spWil K)) (GR : FnOk P w K mg base CX0 2 fR fdR ["numbers", "count"] (spApr K)) (GS : FnOk P w K mg base CX0 4 fS fdS ["spacing", "positions", "weights", "point_prices"] (spSuf K)) (mLen : mg "len" = none) (mSum : mg "sum" = none) :
    FnOk P w K mg base CX0 5 f fd ["spacing", "points", "prices"] (spChk K) := by
  have GO : FnOk P w K mg base CX0 1 fO fdO [] spOut := ok_out FO
  have GP : FnOk P w K mg base CX0 1 fP fdP ["points"] (spCut K 0) := ok_pos FP
  have GW : FnOk P w K mg base CX0 1 fW fdW ["points"] (spCut K 1) := ok_wts FW
  refine F.F.ok scChk (fun vs H Q E h => ?_) (fun cdv A outer s H vs Q E hr h => ?_)
  · obtain ⟨a, b, sp, flat, pr, rfl, _⟩ := h
    rfl
  · obtain ⟨a, b, sp, flat, pr, rfl, hS, hT, hlen, hlen2, q⟩ := h
    have hr1 : Room 1 _ := hr.mono (by decide)
    have hr2 : Room 2 _ := hr.mono (by decide)
    have hr3 : Room 3 _ := hr.mono (by decide)
    refine ⟨_, pss_cons (ps_if (pt_not (pt_val (pe_call GL hr3 (by rfl) FL.g FL.F.kp FL.b .nil pass0 (pa_cons (pv 0) (pa_cons (pv 1) pa_nil))))) (pss_one (ps_ret (pe_call0 GO hr1 (by rfl) FO.g FO.F.kp FO.b .nil pass0))) pss_nil)
      (pss_cons (ps_set (i := 3) scChk.nd rfl (Or.inl rfl) (pe_call GP hr1 (by rfl) FP.g FP.F.kp FP.b .nil pass0 (pa_cons (pv 1) pa_nil)))
      (pss_cons (ps_if (pt_not (pt_val (pe_call GR hr2 (by rfl) FR.g FR.F.kp FR.b .nil pass0 (pa_cons (pv 2) (pa_cons (pe_callB call_len_seq (by rfl) mLen PySem.boot_len (pa_cons (pv 3) pa_nil)) pa_nil))))) (pss_one (ps_ret (pe_call0 GO hr1 (by rfl) FO.g FO.F.kp FO.b .nil pass0))) pss_nil)
      (pss_cons (ps_set (i := 4) scChk.nd rfl (Or.inl rfl) (pe_call GS hr (by rfl) FS.g FS.F.kp FS.b .nil pass0 (pa_cons (pv 0) (pa_cons (pv 3) (pa_cons (pe_call GW hr1 (by rfl) FW.g FW.F.kp FW.b .nil pass0 (pa_cons (pv 1) pa_nil)) (pa_cons (pv 2) pa_nil))))))
      (pss_one (ps_ret (pe_lst (pa_cons (pe_ifExp (pt_val (pv 4)) pe_int pe_int) (pa_cons (pe_callB (cr_sum rfl) (by rfl) mSum boot_sum (pa_cons (pv 2) pa_nil)) pa_nil)))))))), ?_⟩
    rw [chk_is] at q
    refine ⟨.int (sp : Int), rfl, .ref a, rfl, a, (sp : Int), flat.map Int.ofNat, rfl, (by rw [← nats_is]; exact hS), (by rw [List.length_map]; exact hlen), fun H1 s1 => ⟨_, rfl, ?_⟩⟩
    show if (!okAll sp flat) = true then _ else _
    cases bo : okAll sp flat with
    | false =>
      refine ⟨rfl, fun H2 p s2 np ep => ?_⟩
      refine q H2 p ?_
      show H2 p = some (.lst ((Ks591Neutral.integers (Ks591.withPoints sp flat _)).map V.int))
      rw [all_bad bo]
      exact ep
    | true =>
      obtain ⟨ea, ok, h1, h2⟩ := all_good (f := fun points => if pr.length ≠ points.length ∨ (pr.any fun x => decide (999 < x)) = true then Ks591.number (-22)
        else { value := if Ks591.arePricesSufficient points sp pr then 1 else 0, rest := [pr.sum] }) bo
      have PT := pts_of ok
      generalize hn : flat.length / 2 = n at PT
      generalize hps : evens flat = ps at PT
      generalize hws : odds flat = ws at PT
      have q' : ∀ H' p, H' p = some (.lst ((Ks591Neutral.integers (if pr.length ≠ (mk flat).length ∨ (pr.any fun x => decide (999 < x)) = true then Ks591.number (-22) else { value := if Ks591.arePricesSufficient (mk flat) sp pr then 1 else 0, rest := [pr.sum] })).map V.int)) → Q (.ref p) H' := fun H' p e => q H' p (by
        show H' p = some (.lst ((Ks591Neutral.integers (Ks591.withPoints sp flat _)).map V.int))
        rw [ea]
        exact e)
      rw [PT.len] at q'
      refine ⟨.ref a, rfl, a, natsV flat, rfl, s1.seq hS, fun H2 p s2 np ep => ?_⟩
      rw [evens_nats, hps] at ep
      have s02 : Same H H2 := s1.trans s2
      have elp : (natsV ps).length = n := by rw [nats_length, PT.lp]
      refine ⟨.ref b, rfl, .ref p, rfl, p, natsV ps, rfl, .inl (.inl (.inl ep)), b, n, pr, (by rw [elp]; rfl), s02.seq hT, by omega, fun H3 s3 => ⟨_, rfl, ?_⟩⟩
      show if (!okPr n pr) = true then _ else _
      cases bp : okPr n pr with
      | false =>
        have hb : pr.length ≠ n ∨ (pr.any fun x => decide (999 < x)) = true := Classical.byContradiction fun z => by
          rw [okPr_is.mpr z] at bp
          exact absurd bp (by decide)
        rw [if_pos hb] at q'
        exact ⟨rfl, fun H4 p4 s4 np4 ep4 => q' H4 p4 ep4⟩
      | true =>
        have hb := okPr_is.mp bp
        rw [if_neg hb] at q'
        have lq : pr.length = n := Classical.byContradiction fun z => hb (.inl z)
        have s03 : Same H H3 := s02.trans s3
        have ep3 : H3 p = some (.lst (natsV ps)) := s3 p _ ep
        refine ⟨.int (sp : Int), rfl, .ref p, rfl, .ref a, rfl, a, natsV flat, rfl, s03.seq hS, fun H4 u s4 nu eu => ?_⟩
        rw [odds_nats, hws] at eu
        have s04 : Same H H4 := s03.trans s4
        have ep4 : H4 p = some (.lst (natsV ps)) := s4 p _ ep3
        refine ⟨.ref b, rfl, p, u, b, sp, n, ps, ws, pr, rfl, .inl (.inl ep4), .inl (.inl eu), s04.seq hT, PT.lp, PT.lw, lq, PT.most, PT.up, fun H5 s5 => ?_⟩
        have hT5 : SqL K H5 b (natsV pr) := (s04.trans s5).seq hT
        refine ⟨_, rfl, _, rfl, ?_⟩
        have es : Ks591.arePricesSufficient (mk flat) sp pr = suff ps ws pr sp n := suff_is PT lq
        rw [es] at q'
        have fin : ∀ (z : Int), (if suff ps ws pr sp n = true then (1 : Int) else 0) = z → ∃ (x : V), x = .int ((pr.sum : Nat) : Int) ∧ ∀ r, H5 r = none → Q (.ref r) (upd H5 r (.lst [.int z, x])) := by
          intro z hz
          refine ⟨_, rfl, fun r nr => q' _ r ?_⟩
          rw [upd_same, ← hz]
          rfl
        have hb5 : ∃ ns : List Int, natsV pr = ns.map V.int ∧ ns.sum = ((pr.sum : Nat) : Int) := ⟨pr.map fun k : Nat => (k : Int), by unfold natsV; rw [List.map_map]; rfl, sum_int pr⟩
        obtain ⟨ns, e1, e2⟩ := hb5
        rw [e1] at hT5
        cases bv : suff ps ws pr sp n with
        | false =>
          rw [bv] at fin
          obtain ⟨x, rfl, hx⟩ := fin 0 (if_neg (by decide))
          refine ⟨.ref b, rfl, b, ns, rfl, hT5, (by show 2 ≤ sizeLine; decide), fun r nr => ?_⟩
          rw [e2]
          exact hx r nr
        | true =>
          rw [bv] at fin
          obtain ⟨x, rfl, hx⟩ := fin 1 (if_pos rfl)
          refine ⟨.ref b, rfl, b, ns, rfl, hT5, (by show 2 ≤ sizeLine; decide), fun r nr => ?_⟩
          rw [e2]
          exact hx r nr
end
end My
namespace My
open PySem PySem.Spec PyProof.Rows L2
theorem all_mk {P : Program} {w : World} {K : PySem.W.Frag} {h : Heap} {mg : Str → Option Value} {fa : Addr} (X : K.In h) (G : h.Ns mainGlobals mg) (hfa : mg "check_prices" = some (.ref fa))
    {fOut fPos fWts fBtw fInc fArp fWil fCnf fApr fCfb fAhd fSuf fChk : Addr} {odOut anOut odPos anPos odWts anWts odBtw anBtw odInc anInc odArp anArp odWil anWil odCnf anCnf odApr anApr odCfb anCfb odAhd anAhd odSuf anSuf odChk anChk : Option Addr} {slOut slPos slWts slBtw slInc slArp slWil slCnf slApr slCfb slAhd slSuf slChk : Array (Option Value)} {ocOut kVOut dcOut pmOut cdOut ctOut ocPos kVPos dcPos pmPos cdPos ctPos ocWts kVWts dcWts pmWts cdWts ctWts ocBtw kVBtw dcBtw pmBtw cdBtw ctBtw ocInc kVInc dcInc pmInc cdInc ctInc ocArp kVArp dcArp pmArp cdArp ctArp ocWil kVWil dcWil pmWil cdWil ctWil ocCnf kVCnf dcCnf pmCnf cdCnf ctCnf ocApr kVApr dcApr pmApr cdApr ctApr ocCfb kVCfb dcCfb pmCfb cdCfb ctCfb ocAhd kVAhd dcAhd pmAhd cdAhd ctAhd ocSuf kVSuf dcSuf pmSuf cdSuf ctSuf ocChk kVChk dcChk pmChk cdChk ctChk : Value} {tLS tMS tMP tMQ tMW tMR : Tok}
    (aOut : PySem.W.nsIn K mainGlobals "out_of_limits" = some (some (.ref fOut))) (lOut : K.lookup fOut = some ⟨ocOut, odOut, .func (PySem.W.fnOf "out_of_limits" "out_of_limits" (defArgs sOut) (defBody sOut) (defScope sOut) .none kVOut dcOut pmOut anOut cdOut ctOut), slOut⟩) (cOut : PySem.W.codeIn K cdOut "out_of_limits" = true) (kOut : PySem.W.keepIn K (.ref fOut) = true)
    (aPos : PySem.W.nsIn K mainGlobals "positions_of" = some (some (.ref fPos))) (lPos : K.lookup fPos = some ⟨ocPos, odPos, .func (PySem.W.fnOf "positions_of" "positions_of" (defArgs sPos) (defBody sPos) (defScope sPos) .none kVPos dcPos pmPos anPos cdPos ctPos), slPos⟩) (cPos : PySem.W.codeIn K cdPos "positions_of" = true) (kPos : PySem.W.keepIn K (.ref fPos) = true)
    (aWts : PySem.W.nsIn K mainGlobals "weights_of" = some (some (.ref fWts))) (lWts : K.lookup fWts = some ⟨ocWts, odWts, .func (PySem.W.fnOf "weights_of" "weights_of" (defArgs sWts) (defBody sWts) (defScope sWts) .none kVWts dcWts pmWts anWts cdWts ctWts), slWts⟩) (cWts : PySem.W.codeIn K cdWts "weights_of" = true) (kWts : PySem.W.keepIn K (.ref fWts) = true)
    (aBtw : PySem.W.nsIn K mainGlobals "are_between" = some (some (.ref fBtw))) (lBtw : K.lookup fBtw = some ⟨ocBtw, odBtw, .func (PySem.W.fnOf "are_between" "are_between" (defArgs sBtw) (defBody sBtw) (defScope sBtw) .none kVBtw dcBtw pmBtw anBtw cdBtw ctBtw), slBtw⟩) (cBtw : PySem.W.codeIn K cdBtw "are_between" = true) (kBtw : PySem.W.keepIn K (.ref fBtw) = true)
    (aInc : PySem.W.nsIn K mainGlobals "are_increasing" = some (some (.ref fInc))) (lInc : K.lookup fInc = some ⟨ocInc, odInc, .func (PySem.W.fnOf "are_increasing" "are_increasing" (defArgs sInc) (defBody sInc) (defScope sInc) .none kVInc dcInc pmInc anInc cdInc ctInc), slInc⟩) (cInc : PySem.W.codeIn K cdInc "are_increasing" = true) (kInc : PySem.W.keepIn K (.ref fInc) = true)
    (aArp : PySem.W.nsIn K mainGlobals "are_points" = some (some (.ref fArp))) (lArp : K.lookup fArp = some ⟨ocArp, odArp, .func (PySem.W.fnOf "are_points" "are_points" (defArgs sArp) (defBody sArp) (defScope sArp) .none kVArp dcArp pmArp anArp cdArp ctArp), slArp⟩) (cArp : PySem.W.codeIn K cdArp "are_points" = true) (kArp : PySem.W.keepIn K (.ref fArp) = true)
    (aWil : PySem.W.nsIn K mainGlobals "are_within_limits" = some (some (.ref fWil))) (lWil : K.lookup fWil = some ⟨ocWil, odWil, .func (PySem.W.fnOf "are_within_limits" "are_within_limits" (defArgs sWil) (defBody sWil) (defScope sWil) .none kVWil dcWil pmWil anWil cdWil ctWil), slWil⟩) (cWil : PySem.W.codeIn K cdWil "are_within_limits" = true) (kWil : PySem.W.keepIn K (.ref fWil) = true)
    (aCnf : PySem.W.nsIn K mainGlobals "in_conflict" = some (some (.ref fCnf))) (lCnf : K.lookup fCnf = some ⟨ocCnf, odCnf, .func (PySem.W.fnOf "in_conflict" "in_conflict" (defArgs sCnf) (defBody sCnf) (defScope sCnf) .none kVCnf dcCnf pmCnf anCnf cdCnf ctCnf), slCnf⟩) (cCnf : PySem.W.codeIn K cdCnf "in_conflict" = true) (kCnf : PySem.W.keepIn K (.ref fCnf) = true)
    (aApr : PySem.W.nsIn K mainGlobals "are_prices" = some (some (.ref fApr))) (lApr : K.lookup fApr = some ⟨ocApr, odApr, .func (PySem.W.fnOf "are_prices" "are_prices" (defArgs sApr) (defBody sApr) (defScope sApr) .none kVApr dcApr pmApr anApr cdApr ctApr), slApr⟩) (cApr : PySem.W.codeIn K cdApr "are_prices" = true) (kApr : PySem.W.keepIn K (.ref fApr) = true)
    (aCfb : PySem.W.nsIn K mainGlobals "count_of_free_before" = some (some (.ref fCfb))) (lCfb : K.lookup fCfb = some ⟨ocCfb, odCfb, .func (PySem.W.fnOf "count_of_free_before" "count_of_free_before" (defArgs sCfb) (defBody sCfb) (defScope sCfb) .none kVCfb dcCfb pmCfb anCfb cdCfb ctCfb), slCfb⟩) (cCfb : PySem.W.codeIn K cdCfb "count_of_free_before" = true) (kCfb : PySem.W.keepIn K (.ref fCfb) = true)
    (aAhd : PySem.W.nsIn K mainGlobals "price_ahead" = some (some (.ref fAhd))) (lAhd : K.lookup fAhd = some ⟨ocAhd, odAhd, .func (PySem.W.fnOf "price_ahead" "price_ahead" (defArgs sAhd) (defBody sAhd) (defScope sAhd) .none kVAhd dcAhd pmAhd anAhd cdAhd ctAhd), slAhd⟩) (cAhd : PySem.W.codeIn K cdAhd "price_ahead" = true) (kAhd : PySem.W.keepIn K (.ref fAhd) = true)
    (aSuf : PySem.W.nsIn K mainGlobals "are_sufficient" = some (some (.ref fSuf))) (lSuf : K.lookup fSuf = some ⟨ocSuf, odSuf, .func (PySem.W.fnOf "are_sufficient" "are_sufficient" (defArgs sSuf) (defBody sSuf) (defScope sSuf) .none kVSuf dcSuf pmSuf anSuf cdSuf ctSuf), slSuf⟩) (cSuf : PySem.W.codeIn K cdSuf "are_sufficient" = true) (kSuf : PySem.W.keepIn K (.ref fSuf) = true)
    (aChk : PySem.W.nsIn K mainGlobals "check_prices" = some (some (.ref fChk))) (lChk : K.lookup fChk = some ⟨ocChk, odChk, .func (PySem.W.fnOf "check_prices" "check_prices" (defArgs sChk) (defBody sChk) (defScope sChk) .none kVChk dcChk pmChk anChk cdChk ctChk), slChk⟩) (cChk : PySem.W.codeIn K cdChk "check_prices" = true) (kChk : PySem.W.keepIn K (.ref fChk) = true)
    (nLS : PySem.W.nsIn K mainGlobals "LEAST_SPACING" = some (some (.int 1 tLS)))
    (nMS : PySem.W.nsIn K mainGlobals "MOST_SPACING" = some (some (.int 999 tMS)))
    (nMP : PySem.W.nsIn K mainGlobals "MOST_POINTS" = some (some (.int 12 tMP)))
    (nMQ : PySem.W.nsIn K mainGlobals "MOST_POSITION" = some (some (.int 999 tMQ)))
    (nMW : PySem.W.nsIn K mainGlobals "MOST_WEIGHT" = some (some (.int 99 tMW)))
    (nMR : PySem.W.nsIn K mainGlobals "MOST_PRICE" = some (some (.int 999 tMR)))
    (zall : PySem.W.nsIn K mainGlobals "all" = some none)
    (zrange : PySem.W.nsIn K mainGlobals "range" = some none)
    (zlen : PySem.W.nsIn K mainGlobals "len" = some none)
    (zabs : PySem.W.nsIn K mainGlobals "abs" = some none)
    (zsum : PySem.W.nsIn K mainGlobals "sum" = some none)
    : ∃ fd : FuncData, (∀ (s : Shared) (us : List Value), us.length = (["spacing", "points", "prices"] : List Str).length → BindsTo s fd ⟨us, []⟩ ((["spacing", "points", "prices"] : List Str).zip us)) ∧ ∀ base : Heap, K.In base → base.Ns mainGlobals mg → FnOk P w K mg base CX0 5 fa fd ["spacing", "points", "prices"] (spChk K) := by
  have e := hfa.symm.trans (PySem.W.mg_of X G aChk)
  cases e
  have FOut := fun_mk (st := sOut) lOut cOut kOut
  have DOut : Df K mg "out_of_limits" sOut [] _ _ := ⟨FOut, FOut.binds (ps := []) (fun _ _ _ _ _ _ us hl => match us, hl with | [], _ => rfl), PySem.W.mg_of X G aOut⟩
  have FPos := fun_mk (st := sPos) lPos cPos kPos
  have DPos : Df K mg "positions_of" sPos ["points"] _ _ := ⟨FPos, FPos.binds (ps := ["points"]) (fun _ _ _ _ _ _ us hl => match us, hl with | [_], _ => rfl), PySem.W.mg_of X G aPos⟩
  have FWts := fun_mk (st := sWts) lWts cWts kWts
  have DWts : Df K mg "weights_of" sWts ["points"] _ _ := ⟨FWts, FWts.binds (ps := ["points"]) (fun _ _ _ _ _ _ us hl => match us, hl with | [_], _ => rfl), PySem.W.mg_of X G aWts⟩
  have FBtw := fun_mk (st := sBtw) lBtw cBtw kBtw
  have DBtw : Df K mg "are_between" sBtw ["numbers", "least", "most"] _ _ := ⟨FBtw, FBtw.binds (ps := ["numbers", "least", "most"]) (fun _ _ _ _ _ _ us hl => match us, hl with | [_, _, _], _ => rfl), PySem.W.mg_of X G aBtw⟩
  have FInc := fun_mk (st := sInc) lInc cInc kInc
  have DInc : Df K mg "are_increasing" sInc ["numbers"] _ _ := ⟨FInc, FInc.binds (ps := ["numbers"]) (fun _ _ _ _ _ _ us hl => match us, hl with | [_], _ => rfl), PySem.W.mg_of X G aInc⟩
  have FArp := fun_mk (st := sArp) lArp cArp kArp
  have DArp : Df K mg "are_points" sArp ["points"] _ _ := ⟨FArp, FArp.binds (ps := ["points"]) (fun _ _ _ _ _ _ us hl => match us, hl with | [_], _ => rfl), PySem.W.mg_of X G aArp⟩
  have FWil := fun_mk (st := sWil) lWil cWil kWil
  have DWil : Df K mg "are_within_limits" sWil ["spacing", "points"] _ _ := ⟨FWil, FWil.binds (ps := ["spacing", "points"]) (fun _ _ _ _ _ _ us hl => match us, hl with | [_, _], _ => rfl), PySem.W.mg_of X G aWil⟩
  have FCnf := fun_mk (st := sCnf) lCnf cCnf kCnf
  have DCnf : Df K mg "in_conflict" sCnf ["spacing", "position", "other"] _ _ := ⟨FCnf, FCnf.binds (ps := ["spacing", "position", "other"]) (fun _ _ _ _ _ _ us hl => match us, hl with | [_, _, _], _ => rfl), PySem.W.mg_of X G aCnf⟩
  have FApr := fun_mk (st := sApr) lApr cApr kApr
  have DApr : Df K mg "are_prices" sApr ["numbers", "count"] _ _ := ⟨FApr, FApr.binds (ps := ["numbers", "count"]) (fun _ _ _ _ _ _ us hl => match us, hl with | [_, _], _ => rfl), PySem.W.mg_of X G aApr⟩
  have FCfb := fun_mk (st := sCfb) lCfb cCfb kCfb
  have DCfb : Df K mg "count_of_free_before" sCfb ["spacing", "positions", "index"] _ _ := ⟨FCfb, FCfb.binds (ps := ["spacing", "positions", "index"]) (fun _ _ _ _ _ _ us hl => match us, hl with | [_, _, _], _ => rfl), PySem.W.mg_of X G aCfb⟩
  have FAhd := fun_mk (st := sAhd) lAhd cAhd kAhd
  have DAhd : Df K mg "price_ahead" sAhd ["spacing", "positions", "point_prices", "index"] _ _ := ⟨FAhd, FAhd.binds (ps := ["spacing", "positions", "point_prices", "index"]) (fun _ _ _ _ _ _ us hl => match us, hl with | [_, _, _, _], _ => rfl), PySem.W.mg_of X G aAhd⟩
  have FSuf := fun_mk (st := sSuf) lSuf cSuf kSuf
  have DSuf : Df K mg "are_sufficient" sSuf ["spacing", "positions", "weights", "point_prices"] _ _ := ⟨FSuf, FSuf.binds (ps := ["spacing", "positions", "weights", "point_prices"]) (fun _ _ _ _ _ _ us hl => match us, hl with | [_, _, _, _], _ => rfl), PySem.W.mg_of X G aSuf⟩
  have FChk := fun_mk (st := sChk) lChk cChk kChk
  have DChk : Df K mg "check_prices" sChk ["spacing", "points", "prices"] _ _ := ⟨FChk, FChk.binds (ps := ["spacing", "points", "prices"]) (fun _ _ _ _ _ _ us hl => match us, hl with | [_, _, _], _ => rfl), PySem.W.mg_of X G aChk⟩
  have CLS := PySem.W.mg_of X G nLS
  have CMS := PySem.W.mg_of X G nMS
  have CMP := PySem.W.mg_of X G nMP
  have CMQ := PySem.W.mg_of X G nMQ
  have CMW := PySem.W.mg_of X G nMW
  have CMR := PySem.W.mg_of X G nMR
  have mall : mg "all" = none := PySem.W.mg_none_of X G zall
  have mrange : mg "range" = none := PySem.W.mg_none_of X G zrange
  have mlen : mg "len" = none := PySem.W.mg_none_of X G zlen
  have mabs : mg "abs" = none := PySem.W.mg_none_of X G zabs
  have msum : mg "sum" = none := PySem.W.mg_none_of X G zsum
  exact ⟨PySem.W.fnOf "check_prices" "check_prices" (defArgs sChk) (defBody sChk) (defScope sChk) .none kVChk dcChk pmChk anChk cdChk ctChk, fun s us hu => match us, hu with | [_, _, _], _ => .of_eq rfl, fun base _ _ => by
    have GA := ok_arp (P := P) (w := w) (base := base) DArp DPos DWts DBtw DInc mall mrange mlen CMP CMQ CMW
    have GL := ok_wil DWil DArp GA CLS CMS
    have GR := ok_apr (P := P) (w := w) (base := base) DApr DBtw mall mlen CMR
    have GC := ok_cfb (P := P) (w := w) (base := base) DCfb DCnf mabs
    have GD := ok_ahd DAhd DCfb GC msum
    have GS := ok_suf DSuf DAhd GD mrange mlen
    exact ok_chk DChk DWil DOut DPos DWts DApr DSuf GL GR GS mlen msum⟩
end My
open PySem PySem.W PyProof.Rows
set_option maxRecDepth 100000 in
set_option maxHeartbeats 8000000 in
theorem PySem.Challenge.cw_spreadpicks_s04_check_prices_holds : PySem.Challenge.rw_spreadpicks_s04_check_prices.Holds := by
  w_on; k_headS; (case hw => exact ⟨[.int 1, .list [], .list []], by decide +kernel, by decide +kernel⟩)
  k_fillS
  refine L2.walk_specK (r := PySem.Challenge.rw_spreadpicks_s04_check_prices) (k := 5) (CX := L2.CX0) (ps := ["spacing", "points", "prices"]) (sp := My.spChk) (by decide +kernel) rfl rfl ⟨rfl, by decide, by decide⟩ (fun w h Y => PySem.W.kIn_of Y) ?F ?S (fun _ _ _ _ z => z)
  case F =>
    intro w mg fa h Y KX G hmg
    refine' My.all_mk KX G hmg ?aOut ?lOut ?cOut ?kOut ?aPos ?lPos ?cPos ?kPos ?aWts ?lWts ?cWts ?kWts ?aBtw ?lBtw ?cBtw ?kBtw ?aInc ?lInc ?cInc ?kInc ?aArp ?lArp ?cArp ?kArp ?aWil ?lWil ?cWil ?kWil ?aCnf ?lCnf ?cCnf ?kCnf ?aApr ?lApr ?cApr ?kApr ?aCfb ?lCfb ?cCfb ?kCfb ?aAhd ?lAhd ?cAhd ?kAhd ?aSuf ?lSuf ?cSuf ?kSuf ?aChk ?lChk ?cChk ?kChk ?nLS ?nMS ?nMP ?nMQ ?nMW ?nMR ?zall ?zrange ?zlen ?zabs ?zsum
    (case aOut => k_is)
    (case lOut => k_is)
    (case cOut => k_is)
    (case kOut => k_is)
    (case aPos => k_is)
    (case lPos => k_is)
    (case cPos => k_is)
    (case kPos => k_is)
    (case aWts => k_is)
    (case lWts => k_is)
    (case cWts => k_is)
    (case kWts => k_is)
    (case aBtw => k_is)
    (case lBtw => k_is)
    (case cBtw => k_is)
    (case kBtw => k_is)
    (case aInc => k_is)
    (case lInc => k_is)
    (case cInc => k_is)
    (case kInc => k_is)
    (case aArp => k_is)
    (case lArp => k_is)
    (case cArp => k_is)
    (case kArp => k_is)
    (case aWil => k_is)
    (case lWil => k_is)
    (case cWil => k_is)
    (case kWil => k_is)
    (case aCnf => k_is)
    (case lCnf => k_is)
    (case cCnf => k_is)
    (case kCnf => k_is)
    (case aApr => k_is)
    (case lApr => k_is)
    (case cApr => k_is)
    (case kApr => k_is)
    (case aCfb => k_is)
    (case lCfb => k_is)
    (case cCfb => k_is)
    (case kCfb => k_is)
    (case aAhd => k_is)
    (case lAhd => k_is)
    (case cAhd => k_is)
    (case kAhd => k_is)
    (case aSuf => k_is)
    (case lSuf => k_is)
    (case cSuf => k_is)
    (case kSuf => k_is)
    (case aChk => k_is)
    (case lChk => k_is)
    (case cChk => k_is)
    (case kChk => k_is)
    (case nLS => k_is)
    (case nMS => k_is)
    (case nMP => k_is)
    (case nMQ => k_is)
    (case nMW => k_is)
    (case nMR => k_is)
    (case zall => k_is)
    (case zrange => k_is)
    (case zlen => k_is)
    (case zabs => k_is)
    (case zsum => k_is)
  case S =>
    intro K H xs a hO hwi hask hx
    obtain ⟨i0, l0, l1, u⟩ := a
    have q : (Codec.inInt 0 4294967295 i0 && ((Codec.inLen 0 27 l0 && l0.all (Codec.inInt 0 4294967295)) && ((Codec.inLen 0 14 l1 && l1.all (Codec.inInt 0 4294967295)) && true))) = true := hwi
    rw [Bool.and_eq_true, Bool.and_eq_true, Bool.and_eq_true, Bool.and_eq_true, Bool.and_eq_true] at q
    obtain ⟨q0, ⟨ql0, qa0⟩, ⟨ql1, qa1⟩, _⟩ := q
    obtain ⟨i0, rfl⟩ := My.nat_of q0
    obtain ⟨l0, rfl⟩ := My.nats_of qa0
    obtain ⟨l1, rfl⟩ := My.nats_of qa1
    cases hx with
    | cons h0 t0 =>
      cases h0
      cases t0 with
      | cons hl0 t1 =>
        cases hl0 with
        | lst hs0 ha0 =>
          cases t1 with
          | cons hl1 t2 =>
            cases hl1 with
            | lst hs1 ha1 =>
              cases t2
              have e0 := L2.ints_dw _ _ ha0
              subst e0
              have e1 := L2.ints_dw _ _ ha1
              subst e1
              exact ⟨_, _, i0, l0, l1, rfl, (by rw [My.nats_is]; exact hs0), (by rw [My.nats_is]; exact hs1), (by have := (Codec.inNat_iff.mp ql0).2; rw [List.length_map] at this; exact this), (by have := (Codec.inNat_iff.mp ql1).2; rw [List.length_map] at this; exact this), fun H' p hp => .lst (L2.SqL.of hp) (L2.dw_ints _)⟩
#print axioms PySem.Challenge.cw_spreadpicks_s04_check_prices_holds
