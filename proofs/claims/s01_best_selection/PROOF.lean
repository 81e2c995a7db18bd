import PyProof.Rows.All
import Wide.All
import OpenK.AllK
import Wide.FinOn
import Open.SpecLaws
import KE.OsGo
import HandS.ForSpec
import HandS.ForMost
import HandS.Style
import PySem.Challenge.RW_spreadpicks_s01_best_selection
set_option Elab.async false
set_option linter.all false
set_option maxRecDepth 100000
set_option maxHeartbeats 4000000
/-! The reading of points: plain lists alone. -/
namespace My
open Ks591

def evens {α : Type} : List α → List α
  | [] => []
  | [a] => [a]
  | a :: _ :: r => a :: evens r
def odds {α : Type} : List α → List α
  | [] => []
  | [_] => []
  | _ :: b :: r => b :: odds r

theorem evens_map {α β : Type} (f : α → β) : ∀ l : List α, evens (l.map f) = (evens l).map f
  | [] => rfl
  | [_] => rfl
  | a :: b :: r => by
    show f a :: evens (r.map f) = f a :: (evens r).map f
    rw [evens_map f r]
theorem odds_map {α β : Type} (f : α → β) : ∀ l : List α, odds (l.map f) = (odds l).map f
  | [] => rfl
  | [_] => rfl
  | a :: b :: r => by
    show f b :: odds (r.map f) = f b :: (odds r).map f
    rw [odds_map f r]
theorem evens_length {α : Type} : ∀ l : List α, (evens l).length = (l.length + 1) / 2
  | [] => by simp [evens]
  | [_] => by simp [evens]
  | a :: b :: r => by
    show (evens r).length + 1 = (r.length + 1 + 1 + 1) / 2
    rw [evens_length r]
    omega
theorem odds_length {α : Type} : ∀ l : List α, (odds l).length = l.length / 2
  | [] => by simp [odds]
  | [_] => by simp [odds]
  | a :: b :: r => by
    show (odds r).length + 1 = (r.length + 1 + 1) / 2
    rw [odds_length r]
    omega
theorem evens_mem {α : Type} {x : α} : ∀ {l : List α}, x ∈ evens l → x ∈ l
  | [], h => h
  | [_], h => h
  | a :: b :: r, h => by
    cases h with
    | head => exact .head _
    | tail _ h => exact .tail _ (.tail _ (evens_mem h))
theorem odds_mem {α : Type} {x : α} : ∀ {l : List α}, x ∈ odds l → x ∈ l
  | [], h => h
  | [_], h => nomatch h
  | a :: b :: r, h => by
    cases h with
    | head => exact .tail _ (.head _)
    | tail _ h => exact .tail _ (.tail _ (odds_mem h))

/-- the program's two tests of a list of numbers -/
def btw (lo hi : Int) (l : List Int) : Bool := l.all fun x => decide (lo ≤ x) && decide (x ≤ hi)
def incr (l : List Int) : Bool := (List.range (l.length - 1)).all fun k => decide (l.getD k 0 < l.getD (k + 1) 0)
def incrR : List Int → Bool
  | a :: b :: r => decide (a < b) && incrR (b :: r)
  | _ => true
theorem incr_is : ∀ l : List Int, incr l = incrR l
  | [] => rfl
  | [_] => rfl
  | a :: b :: r => by
    have ih := incr_is (b :: r)
    unfold incr at ih ⊢
    have e : (a :: b :: r).length - 1 = (b :: r).length - 1 + 1 := by simp
    rw [e, List.range_succ_eq_map, List.all_cons, List.all_map]
    show (decide (a < b) && _) = (decide (a < b) && incrR (b :: r))
    rw [← ih]
    rfl
def okPts (ns : List Int) : Bool := decide (ns.length % 2 = 0) && decide (ns.length ≤ 24) && btw 0 999 (evens ns) && incr (evens ns) && btw 0 99 (odds ns)

/-- the points that a flat list tells -/
def mk : List Nat → Points
  | p :: w :: r => ⟨p, w⟩ :: mk r
  | _ => []
def good : List Nat → Bool
  | [] => true
  | [_] => false
  | p :: w :: r => decide (p ≤ 999) && decide (w ≤ 99) && (match r with | [] => true | q :: _ => decide (p < q)) && good r
theorem parse_is : ∀ l : List Nat, parsePoints l = if good l = true then some (mk l) else none
  | [] => rfl
  | [_] => rfl
  | p :: w :: r => by
    show (if 999 < p ∨ 99 < w then none else match parsePoints r with
      | none => none
      | some points => match points with
        | [] => some [⟨p, w⟩]
        | next :: _ => if p < next.position then some (⟨p, w⟩ :: points) else none) = if (decide (p ≤ 999) && decide (w ≤ 99) && (match r with | [] => true | q :: _ => decide (p < q)) && good r) = true then some (⟨p, w⟩ :: mk r) else none
    rw [parse_is r]
    by_cases h1 : 999 < p ∨ 99 < w
    · rw [if_pos h1, if_neg]
      intro h
      simp only [Bool.and_eq_true, decide_eq_true_eq] at h
      omega
    · rw [if_neg h1]
      have h2 : (decide (p ≤ 999) && decide (w ≤ 99)) = true := by
        simp only [Bool.and_eq_true, decide_eq_true_eq]
        omega
      rw [h2, Bool.true_and]
      cases hg : good r with
      | false =>
        rw [Bool.and_false]
        rfl
      | true =>
        rw [Bool.and_true]
        match r, hg with
        | [], _ => rfl
        | q :: v :: r', _ =>
          show (if p < q then some (⟨p, w⟩ :: ⟨q, v⟩ :: mk r') else none) = if decide (p < q) = true then some (⟨p, w⟩ :: ⟨q, v⟩ :: mk r') else none
          by_cases h : p < q
          · rw [if_pos h, if_pos (decide_eq_true h)]
          · rw [if_neg h, if_neg (by rw [decide_eq_false h]; decide)]
theorem good_is : ∀ l : List Nat, good l = (decide (l.length % 2 = 0) && btw 0 999 ((evens l).map Int.ofNat) && incrR ((evens l).map Int.ofNat) && btw 0 99 ((odds l).map Int.ofNat))
  | [] => rfl
  | [_] => rfl
  | [p, w] => by
    simp only [good, evens, odds, btw, incrR, List.map_cons, List.map_nil, List.all_cons, List.all_nil, List.length_cons, List.length_nil]
    rw [Bool.eq_iff_iff]
    simp
    omega
  | p :: w :: q :: r => by
    have ih := good_is (q :: r)
    have ee : ∃ t, evens (q :: r) = q :: t := by
      cases r with
      | nil => exact ⟨_, rfl⟩
      | cons b r => exact ⟨_, rfl⟩
    obtain ⟨t, et⟩ := ee
    show (decide (p ≤ 999) && decide (w ≤ 99) && decide (p < q) && good (q :: r)) = _
    rw [ih]
    show _ = (decide (((q :: r).length + 1 + 1) % 2 = 0) && btw 0 999 ((p :: evens (q :: r)).map Int.ofNat) && incrR ((p :: evens (q :: r)).map Int.ofNat) && btw 0 99 ((w :: odds (q :: r)).map Int.ofNat))
    rw [et]
    simp only [List.map_cons, incrR]
    unfold btw
    simp only [List.all_cons]
    have e2 : decide (((q :: r).length + 1 + 1) % 2 = 0) = decide ((q :: r).length % 2 = 0) := by
      rw [show ((q :: r).length + 1 + 1) % 2 = (q :: r).length % 2 by omega]
    rw [e2]
    rw [Bool.eq_iff_iff]
    simp only [Bool.and_eq_true, decide_eq_true_eq, Int.ofNat_eq_natCast]
    constructor
    · intro ⟨⟨⟨h1, h2⟩, h3⟩, ⟨⟨h4, h5⟩, h6⟩, h7⟩
      exact ⟨⟨⟨h4, ⟨by omega, by omega⟩, h5⟩, by omega, h6⟩, ⟨by omega, by omega⟩, h7⟩
    · intro ⟨⟨⟨h4, ⟨_, h1⟩, h5⟩, h3, h6⟩, ⟨_, h2⟩, h7⟩
      exact ⟨⟨⟨by omega, by omega⟩, by omega⟩, ⟨⟨h4, h5⟩, h6⟩, h7⟩
theorem mk_length : ∀ l : List Nat, (mk l).length = l.length / 2
  | [] => rfl
  | [_] => by simp [mk]
  | p :: w :: r => by
    show (mk r).length + 1 = (r.length + 1 + 1) / 2
    rw [mk_length r]
    omega
/-- a refused list -/
theorem with_bad {flat : List Nat} {sp : Nat} {f : Points → Result} (h : okPts (flat.map Int.ofNat) = false ∨ sp < 1 ∨ 999 < sp) : withPoints sp flat f = number (-22) := by
  unfold withPoints
  rw [parse_is]
  by_cases hg : good flat = true
  · rw [if_pos hg]
    show (if maxPoints < (mk flat).length ∨ sp < 1 ∨ 999 < sp then number (-22) else f (mk flat)) = _
    refine if_pos ?_
    rcases h with h | h
    · left
      rw [good_is] at hg
      unfold okPts at h
      rw [List.length_map, evens_map, odds_map, incr_is] at h
      rw [mk_length]
      show 12 < _
      simp only [Bool.and_eq_true, decide_eq_true_eq] at hg
      rw [hg.1.1.2, hg.1.2, hg.2, decide_eq_true hg.1.1.1] at h
      simp at h
      omega
    · exact .inr h
  · rw [if_neg hg]
theorem with_good {flat : List Nat} {sp : Nat} {f : Points → Result} (h : okPts (flat.map Int.ofNat) = true) (h1 : 1 ≤ sp) (h2 : sp ≤ 999) : withPoints sp flat f = f (mk flat) := by
  have hl : flat.length ≤ 24 := by
    unfold okPts at h
    rw [List.length_map] at h
    simp only [Bool.and_eq_true, decide_eq_true_eq] at h
    exact h.1.1.1.2
  have hg : good flat = true := by
    unfold okPts at h
    rw [List.length_map, evens_map, odds_map, incr_is] at h
    rw [good_is]
    simp only [Bool.and_eq_true, decide_eq_true_eq] at h ⊢
    exact ⟨⟨⟨h.1.1.1.1, h.1.1.2⟩, h.1.2⟩, h.2⟩
  unfold withPoints
  rw [parse_is, if_pos hg]
  show (if maxPoints < (mk flat).length ∨ sp < 1 ∨ 999 < sp then number (-22) else f (mk flat)) = _
  refine if_neg ?_
  rw [mk_length]
  show ¬ (12 < _ ∨ _)
  omega
theorem mk_pos : ∀ (l : List Nat) (i : Nat), i < (mk l).length → (pointAt (mk l) i).position = (evens l).getD i 0 ∧ (pointAt (mk l) i).weight = (odds l).getD i 0
  | [], i, h => absurd h (Nat.not_lt_zero _)
  | [_], i, h => absurd h (Nat.not_lt_zero _)
  | p :: w :: r, 0, _ => ⟨rfl, rfl⟩
  | p :: w :: r, i + 1, h => mk_pos r i (Nat.lt_of_succ_lt_succ h)
/-- what the good points are -/
structure Pts (pts : Points) (n : Nat) (ps ws : List Nat) : Prop where
  len : pts.length = n
  most : n ≤ 12
  lp : ps.length = n
  lw : ws.length = n
  pos : ∀ i, i < n → (pointAt pts i).position = ps.getD i 0
  wt : ∀ i, i < n → (pointAt pts i).weight = ws.getD i 0
  up : ∀ i j, i < j → j < n → ps.getD i 0 < ps.getD j 0
  pm : ∀ i, i < n → ps.getD i 0 ≤ 999
  wm : ∀ i, i < n → ws.getD i 0 ≤ 99
theorem incrR_up : ∀ (l : List Nat), incrR (l.map Int.ofNat) = true → ∀ i j, i < j → j < l.length → l.getD i 0 < l.getD j 0
  | [], _, i, j, _, h => absurd h (Nat.not_lt_zero _)
  | [_], _, i, j, h0, h => by simp at h; omega
  | a :: b :: r, h, i, j, h0, hj => by
    have h' : decide ((a : Int) < (b : Int)) = true ∧ incrR ((b :: r).map Int.ofNat) = true := by
      simpa [incrR] using h
    have ih := incrR_up (b :: r) h'.2
    have ab : a < b := by have := h'.1; simp at this; exact this
    match i, j, h0, hj with
    | 0, 1, _, _ => exact ab
    | 0, j + 2, _, hj =>
      have := ih 0 (j + 1) (by omega) (by simp at hj ⊢; omega)
      exact Nat.lt_trans ab this
    | i + 1, j + 1, h0, hj =>
      exact ih i j (by omega) (by simp at hj ⊢; omega)
theorem btw_le {hi : Nat} : ∀ (l : List Nat), btw 0 (hi : Int) (l.map Int.ofNat) = true → ∀ i, i < l.length → l.getD i 0 ≤ hi := by
  intro l h i hi'
  unfold btw at h
  rw [List.all_map, List.all_eq_true] at h
  have := h l[i] (List.getElem_mem hi')
  simp at this
  rw [List.getD_eq_getElem?_getD, List.getElem?_eq_getElem hi']
  exact this
theorem pts_of {flat : List Nat} (h : okPts (flat.map Int.ofNat) = true) : Pts (mk flat) (flat.length / 2) (evens flat) (odds flat) := by
  unfold okPts at h
  rw [List.length_map, evens_map, odds_map, incr_is] at h
  simp only [Bool.and_eq_true, decide_eq_true_eq] at h
  obtain ⟨⟨⟨⟨h1, h2⟩, h3⟩, h4⟩, h5⟩ := h
  have le : (evens flat).length = flat.length / 2 := by rw [evens_length]; omega
  have lo : (odds flat).length = flat.length / 2 := odds_length flat
  refine ⟨mk_length flat, by omega, le, lo, fun i hi => (mk_pos flat i (by rw [mk_length]; exact hi)).1, fun i hi => (mk_pos flat i (by rw [mk_length]; exact hi)).2, ?_, ?_, ?_⟩
  · intro i j hij hj
    exact incrR_up _ h4 i j hij (by omega)
  · intro i hi
    exact btw_le (hi := 999) _ h3 i (by omega)
  · intro i hi
    exact btw_le (hi := 99) _ h5 i (by omega)
end My
/-! Validity and weight of a set: plain lists alone. -/
namespace My
open Ks591

def iabs (i : Int) : Int := if i < 0 then -i else i
def adj (f : Int → Int → Bool) (l : List Int) : Bool := (List.range (l.length - 1)).all fun k => f (l.getD k 0) (l.getD (k + 1) 0)
def adjR (f : Int → Int → Bool) : List Int → Bool
  | a :: b :: r => f a b && adjR f (b :: r)
  | _ => true
theorem adj_is (f : Int → Int → Bool) : ∀ l : List Int, adj f l = adjR f l
  | [] => rfl
  | [_] => rfl
  | a :: b :: r => by
    have ih := adj_is f (b :: r)
    unfold adj at ih ⊢
    have e : (a :: b :: r).length - 1 = (b :: r).length - 1 + 1 := by simp
    rw [e, List.range_succ_eq_map, List.all_cons, List.all_map]
    show (f a b && _) = (f a b && adjR f (b :: r))
    rw [← ih]
    rfl
/-- the program's test of two positions -/
def conf (sp a b : Int) : Bool := decide (iabs (a - b) < sp)
theorem conf_up {sp a b : Nat} (h : a < b) : conf (sp : Int) (a : Int) (b : Int) = false ↔ a + sp ≤ b := by
  unfold conf iabs
  rw [decide_eq_false_iff_not]
  have : ((a : Int) - (b : Int) < 0) := by omega
  rw [if_pos this]
  omega
theorem conf_comm (sp a b : Int) : conf sp a b = conf sp b a := by
  unfold conf iabs
  congr 1
  split <;> split <;> simp <;> omega
/-- is_valid of a list of positions -/
def sep (sp : Int) (l : List Int) : Bool := adj (fun a b => !conf sp a b) l
theorem sep_pair {sp : Nat} : ∀ {l : List Nat}, l.Pairwise (· < ·) → (sep (sp : Int) (l.map Int.ofNat) = true ↔ l.Pairwise fun a b => a + sp ≤ b)
  | [], _ => by simp [sep, adj]
  | [_], _ => by simp [sep, adj]
  | a :: b :: r, h => by
    have ih := sep_pair (sp := sp) (List.pairwise_cons.mp h).2
    unfold sep at ih ⊢
    rw [adj_is] at ih ⊢
    show ((!conf (sp : Int) (a : Int) (b : Int)) && adjR _ ((b :: r).map Int.ofNat)) = true ↔ _
    rw [Bool.and_eq_true, ih, List.pairwise_cons (l := b :: r), Bool.not_eq_true', conf_up ((List.pairwise_cons.mp h).1 b (.head _))]
    constructor
    · intro ⟨h1, h2⟩
      refine ⟨fun x hx => ?_, h2⟩
      cases hx with
      | head => exact h1
      | tail _ hx =>
        have := (List.pairwise_cons.mp (List.pairwise_cons.mp h).2).1 x hx
        omega
    · intro ⟨h1, h2⟩
      exact ⟨h1 b (.head _), h2⟩
theorem range_pair {n : Nat} {R : Nat → Nat → Prop} : (List.range n).Pairwise R ↔ ∀ i j, i < j → j < n → R i j := by
  rw [List.pairwise_iff_getElem]
  constructor
  · intro h i j hij hj
    have := h i j (by simp; omega) (by simp; omega) hij
    simpa using this
  · intro h i j hi hj hij
    simp at hi hj ⊢
    exact h i j hij hj
/-- the indexes of a set's points -/
def mem (m n : Nat) : List Nat := (List.range n).filter fun i => m.testBit i
/-- a set is valid -/
def Val (ps : List Nat) (n sp m : Nat) : Prop := ∀ i j, i < j → j < n → m.testBit i = true → m.testBit j = true → ps.getD i 0 + sp ≤ ps.getD j 0
theorem sep_mem {ps : List Nat} {n sp m : Nat} (up : ∀ i j, i < j → j < n → ps.getD i 0 < ps.getD j 0) : sep (sp : Int) ((mem m n).map fun i => ((ps.getD i 0 : Nat) : Int)) = true ↔ Val ps n sp m := by
  have e : (mem m n).map (fun i => ((ps.getD i 0 : Nat) : Int)) = ((mem m n).map fun i => ps.getD i 0).map Int.ofNat := by
    rw [List.map_map]; rfl
  have hp : ((mem m n).map fun i => ps.getD i 0).Pairwise (· < ·) := by
    rw [List.pairwise_map]
    unfold mem
    rw [List.pairwise_filter, range_pair]
    intro i j hij hj _ _
    exact up i j hij hj
  rw [e, sep_pair hp, List.pairwise_map]
  unfold mem
  rw [List.pairwise_filter, range_pair]
  rfl
theorem conflict_is {pts : Points} {n : Nat} {ps ws : List Nat} (P : Pts pts n ps ws) {sp i j : Nat} (hi : i < n) (hj : j < n) : conflict pts sp i j = (i != j && decide ((ps.getD i 0 - ps.getD j 0) + (ps.getD j 0 - ps.getD i 0) < sp)) := by
  unfold conflict
  rw [P.pos i hi, P.pos j hj]
theorem conflict_up {pts : Points} {n : Nat} {ps ws : List Nat} (P : Pts pts n ps ws) {sp i j : Nat} (hij : i < j) (hj : j < n) : (conflict pts sp i j = false ↔ ps.getD i 0 + sp ≤ ps.getD j 0) ∧ (conflict pts sp j i = false ↔ ps.getD i 0 + sp ≤ ps.getD j 0) := by
  have := P.up i j hij hj
  rw [conflict_is P (by omega) hj, conflict_is P hj (by omega)]
  have e1 : (i != j) = true := by simp; omega
  have e2 : (j != i) = true := by simp; omega
  rw [e1, e2, Bool.true_and, Bool.true_and, decide_eq_false_iff_not, decide_eq_false_iff_not]
  omega
theorem conflict_self {pts : Points} {sp i : Nat} : conflict pts sp i i = false := by
  unfold conflict
  simp
theorem valid_iff {pts : Points} {n : Nat} {ps ws : List Nat} (P : Pts pts n ps ws) {sp m : Nat} : isValidSelection pts sp m = true ↔ Val ps n sp m := by
  unfold isValidSelection
  rw [P.len, List.all_eq_true]
  constructor
  · intro h i j hij hj bi bj
    have h1 := h i (List.mem_range.mpr (by omega))
    rw [List.all_eq_true] at h1
    have h2 := h1 j (List.mem_range.mpr hj)
    rw [bi, bj] at h2
    simp only [Bool.true_and, Bool.not_eq_true'] at h2
    exact (conflict_up P hij hj).1.mp h2
  · intro h i hi
    rw [List.all_eq_true]
    intro j hj
    have hi := List.mem_range.mp hi
    have hj := List.mem_range.mp hj
    cases bi : m.testBit i with
    | false => simp
    | true =>
      cases bj : m.testBit j with
      | false => simp
      | true =>
        simp only [Bool.true_and, Bool.not_eq_true']
        rcases Nat.lt_trichotomy i j with c | c | c
        · exact (conflict_up P c hj).1.mpr (h i j c hj bi bj)
        · subst c
          exact conflict_self
        · exact (conflict_up P c hi).2.mpr (h j i c hi bj bi)
theorem valid_is {pts : Points} {n : Nat} {ps ws : List Nat} (P : Pts pts n ps ws) {sp m : Nat} : sep (sp : Int) ((mem m n).map fun i => ((ps.getD i 0 : Nat) : Int)) = isValidSelection pts sp m := by
  rw [Bool.eq_iff_iff, sep_mem P.up, valid_iff P]
/-- the weight of a set -/
def wt (ws : List Nat) (n m : Nat) : Nat := ((List.range n).map fun i => if m.testBit i = true then ws.getD i 0 else 0).sum
theorem weight_is {pts : Points} {n : Nat} {ps ws : List Nat} (P : Pts pts n ps ws) {m : Nat} : weightOf pts m = wt ws n m := by
  unfold weightOf wt
  rw [P.len]
  congr 1
  refine List.map_congr_left fun i hi => ?_
  rw [P.wt i (List.mem_range.mp hi)]
theorem sum_filter {p : Nat → Bool} {g : Nat → Nat} : ∀ l : List Nat, ((l.filter p).map g).sum = (l.map fun i => if p i = true then g i else 0).sum
  | [] => rfl
  | a :: r => by
    rw [List.filter_cons, List.map_cons, List.sum_cons, ← sum_filter r]
    by_cases h : p a = true
    · rw [if_pos h, if_pos h, List.map_cons, List.sum_cons]
    · rw [if_neg h, if_neg h, Nat.zero_add]
theorem wt_mem {ws : List Nat} {n m : Nat} : ((mem m n).map fun i => ws.getD i 0).sum = wt ws n m := sum_filter _
theorem isum_nat (l : List Nat) : (l.map Int.ofNat).sum = ((l.sum : Nat) : Int) := by
  induction l with
  | nil => rfl
  | cons a r ih =>
    rw [List.map_cons, List.sum_cons, List.sum_cons, ih]
    simp
theorem wt_int {ws : List Nat} {n m : Nat} : ((mem m n).map fun i => ((ws.getD i 0 : Nat) : Int)).sum = ((wt ws n m : Nat) : Int) := by
  rw [← wt_mem, ← isum_nat, List.map_map]
  rfl
/-- the program's test of a bit -/
theorem bit_is (m i : Nat) : decide ((((m / 2 ^ i) &&& 1 : Nat) : Int) = 1) = m.testBit i := by
  rw [Nat.testBit_eq_decide_div_mod_eq, Nat.and_one_is_mod]
  rw [Bool.eq_iff_iff]
  simp only [decide_eq_true_eq]
  omega
theorem shift_is (m n : Nat) : decide (((m : Int) / 2 ^ n) = 0) = decide (m < 2 ^ n) := by
  have e : ((m : Int) / 2 ^ n) = ((m / 2 ^ n : Nat) : Int) := by
    rw [Int.natCast_ediv, Int.natCast_pow]
    rfl
  rw [e, Bool.eq_iff_iff]
  simp only [decide_eq_true_eq]
  rw [show (((m / 2 ^ n : Nat) : Int) = 0 ↔ m / 2 ^ n = 0) by omega, Nat.div_eq_zero_iff]
  have := Nat.two_pow_pos n
  omega
end My
/-! The best selection, point by point: plain numbers alone. -/
namespace My
open Ks591

structure Best (ps ws : List Nat) (n sp k m : Nat) : Prop where
  lt : m < 2 ^ k
  val : Val ps n sp m
  top : ∀ m', m' < 2 ^ k → Val ps n sp m' → wt ws n m' < wt ws n m ∨ (wt ws n m' = wt ws n m ∧ m ≤ m')
theorem Best.one {ps ws : List Nat} {n sp k m m' : Nat} (h : Best ps ws n sp k m) (h' : Best ps ws n sp k m') : m = m' := by
  have a := h.top m' h'.lt h'.val
  have b := h'.top m h.lt h.val
  omega
theorem val_zero {ps : List Nat} {n sp : Nat} : Val ps n sp 0 := by
  intro i j _ _ h
  simp at h
theorem fold_best {pts : Points} {n : Nat} {ps ws : List Nat} (P : Pts pts n ps ws) {sp : Nat} : ∀ N : Nat,
    let r := (List.range N).foldl (fun best mask => if isValidSelection pts sp mask && decide (weightOf pts best < weightOf pts mask) then mask else best) 0
    (r = 0 ∨ r < N) ∧ Val ps n sp r ∧ ∀ m', m' < N → Val ps n sp m' → wt ws n m' < wt ws n r ∨ (wt ws n m' = wt ws n r ∧ r ≤ m')
  | 0 => ⟨.inl rfl, val_zero, fun m' h => absurd h (Nat.not_lt_zero _)⟩
  | N + 1 => by
    have ih := fold_best P (sp := sp) N
    simp only [List.range_succ, List.foldl_append, List.foldl_cons, List.foldl_nil] at ih ⊢
    generalize (List.range N).foldl _ 0 = r at ih ⊢
    obtain ⟨h1, h2, h3⟩ := ih
    rw [weight_is P, weight_is P]
    by_cases c : (isValidSelection pts sp N && decide (wt ws n r < wt ws n N)) = true
    · rw [if_pos c]
      rw [Bool.and_eq_true, decide_eq_true_eq, valid_iff P] at c
      refine ⟨by omega, c.1, fun m' hm hv => ?_⟩
      by_cases e : m' = N
      · subst e
        exact .inr ⟨rfl, Nat.le_refl _⟩
      · have := h3 m' (by omega) hv
        have := c.2
        omega
    · rw [if_neg c]
      rw [Bool.and_eq_true, decide_eq_true_eq, valid_iff P] at c
      refine ⟨by omega, h2, fun m' hm hv => ?_⟩
      by_cases e : m' = N
      · subst e
        have : ¬ wt ws n r < wt ws n m' := fun z => c ⟨hv, z⟩
        omega
      · exact h3 m' (by omega) hv
theorem best_spec {pts : Points} {n : Nat} {ps ws : List Nat} (P : Pts pts n ps ws) {sp : Nat} : Best ps ws n sp n (bestSelection pts sp) := by
  have h := fold_best P (sp := sp) (2 ^ n)
  unfold bestSelection
  rw [P.len]
  obtain ⟨h1, h2, h3⟩ := h
  have := Nat.two_pow_pos n
  exact ⟨by omega, h2, h3⟩
/-! one point more -/
theorem bit_more {m i j : Nat} (h : m < 2 ^ i) : (m + 2 ^ i).testBit j = if j = i then true else m.testBit j := by
  rw [Nat.add_comm]
  by_cases e : j = i
  · subst e
    rw [if_pos rfl, Nat.testBit_two_pow_add_eq, Nat.testBit_lt_two_pow h] <;> rfl
  · rw [if_neg e]
    rcases Nat.lt_or_gt_of_ne e with c | c
    · exact Nat.testBit_two_pow_add_gt c m
    · have hp : 2 ^ i + m < 2 ^ (i + 1) := by rw [Nat.pow_succ]; omega
      have hq : 2 ^ (i + 1) ≤ 2 ^ j := Nat.pow_le_pow_right (by decide) c
      have hr : 2 ^ i ≤ 2 ^ j := Nat.pow_le_pow_right (by decide) (by omega)
      rw [Nat.testBit_lt_two_pow (by omega), Nat.testBit_lt_two_pow (by omega)]
theorem bit_high {m i j : Nat} (h : m < 2 ^ i) (hj : i ≤ j) : m.testBit j = false := by
  have hr : 2 ^ i ≤ 2 ^ j := Nat.pow_le_pow_right (by decide) hj
  exact Nat.testBit_lt_two_pow (by omega)
theorem sum_more {f : Nat → Nat} {i c : Nat} : ∀ n : Nat, ((List.range n).map fun j => if j = i then c + f j else f j).sum = ((List.range n).map f).sum + if i < n then c else 0
  | 0 => by simp
  | n + 1 => by
    rw [List.range_succ, List.map_append, List.map_append, List.sum_append, List.sum_append, sum_more n]
    simp only [List.map_cons, List.map_nil, List.sum_cons, List.sum_nil]
    by_cases e : n = i
    · subst e
      rw [if_pos rfl, if_neg (by omega), if_pos (by omega)]
      omega
    · rw [if_neg e]
      by_cases e2 : i < n
      · rw [if_pos e2, if_pos (by omega)]
        omega
      · rw [if_neg e2, if_neg (by omega)]
        omega
theorem wt_more {ws : List Nat} {n m i : Nat} (h : m < 2 ^ i) (hi : i < n) : wt ws n (m + 2 ^ i) = ws.getD i 0 + wt ws n m := by
  unfold wt
  have e : (List.range n).map (fun j => if (m + 2 ^ i).testBit j = true then ws.getD j 0 else 0) = (List.range n).map fun j => if j = i then ws.getD i 0 + (if m.testBit j = true then ws.getD j 0 else 0) else (if m.testBit j = true then ws.getD j 0 else 0) := by
    refine List.map_congr_left fun j hj => ?_
    rw [bit_more h]
    by_cases e : j = i
    · subst e
      rw [if_pos rfl, if_pos rfl, if_pos rfl, bit_high h (Nat.le_refl _)]
      simp
    · rw [if_neg e, if_neg e]
  rw [e, sum_more, if_pos hi]
  omega
/-- how many of the points ahead don't conflict: the program's walk down -/
def freeR (ps : List Nat) (sp i : Nat) : Nat → Nat
  | 0 => 0
  | c + 1 => if conf (sp : Int) ((ps.getD c 0 : Nat) : Int) ((ps.getD i 0 : Nat) : Int) = true then freeR ps sp i c else c + 1
theorem freeR_le {ps : List Nat} {sp i : Nat} : ∀ c : Nat, freeR ps sp i c ≤ c
  | 0 => Nat.le_refl _
  | c + 1 => by
    unfold freeR
    have := freeR_le (ps := ps) (sp := sp) (i := i) c
    split <;> omega
theorem freeR_is {ps : List Nat} {n sp i : Nat} (up : ∀ i j, i < j → j < n → ps.getD i 0 < ps.getD j 0) (hi : i < n) : ∀ c : Nat, c ≤ i →
    (∀ j, freeR ps sp i c ≤ j → j < c → ¬ ps.getD j 0 + sp ≤ ps.getD i 0) ∧ (∀ j, j < freeR ps sp i c → ps.getD j 0 + sp ≤ ps.getD i 0)
  | 0, _ => ⟨fun j _ h => absurd h (Nat.not_lt_zero _), fun j h => absurd h (Nat.not_lt_zero _)⟩
  | c + 1, hc => by
    have ih := freeR_is (sp := sp) up hi c (by omega)
    have u := up c i (by omega) hi
    unfold freeR
    by_cases e : conf (sp : Int) ((ps.getD c 0 : Nat) : Int) ((ps.getD i 0 : Nat) : Int) = true
    · rw [if_pos e]
      refine ⟨fun j h1 h2 => ?_, ih.2⟩
      by_cases ej : j = c
      · subst ej
        intro z
        rw [(conf_up u).mpr z] at e
        exact absurd e (by decide)
      · exact ih.1 j h1 (by omega)
    · rw [if_neg e]
      refine ⟨fun j h1 h2 => absurd h2 (by omega), fun j h => ?_⟩
      have z := (conf_up u).mp (by simpa using e)
      by_cases ej : j = c
      · subst ej
        exact z
      · have := up j c (by omega) (by omega)
        omega
theorem val_more {ps : List Nat} {n sp m i : Nat} (up : ∀ i j, i < j → j < n → ps.getD i 0 < ps.getD j 0) (hi : i < n) (h : m < 2 ^ i) : Val ps n sp (m + 2 ^ i) ↔ Val ps n sp m ∧ m < 2 ^ freeR ps sp i i := by
  obtain ⟨f1, f2⟩ := freeR_is (sp := sp) up hi i (Nat.le_refl _)
  constructor
  · intro v
    refine ⟨fun a b hab hb ba bb => ?_, Nat.lt_pow_two_of_testBit _ fun j hj => ?_⟩
    · refine v a b hab hb ?_ ?_
      · rw [bit_more h]
        split
        · rfl
        · exact ba
      · rw [bit_more h]
        split
        · rfl
        · exact bb
    · by_cases c : j < i
      · cases e : m.testBit j with
        | false => rfl
        | true =>
          refine absurd (v j i c hi ?_ ?_) (f1 j hj c)
          · rw [bit_more h, if_neg (by omega)]
            exact e
          · rw [bit_more h, if_pos rfl]
      · exact bit_high h (by omega)
  · intro ⟨v, hf⟩ a b hab hb ba bb
    rw [bit_more h] at ba bb
    by_cases eb : b = i
    · subst eb
      rw [if_neg (by omega)] at ba
      refine f2 a ?_
      rcases Nat.lt_or_ge a (freeR ps sp b b) with c | c
      · exact c
      · rw [bit_high hf c] at ba
        exact absurd ba (by decide)
    · rw [if_neg eb] at bb
      by_cases ea : a = i
      · subst ea
        rw [bit_high h (by omega)] at bb
        exact absurd bb (by decide)
      · rw [if_neg ea] at ba
        exact v a b hab hb ba bb
theorem best_zero {ps ws : List Nat} {n sp : Nat} : Best ps ws n sp 0 0 :=
  ⟨by decide, val_zero, fun m' h _ => by
    have e : m' = 0 := by simp at h; exact h
    subst e
    exact .inr ⟨rfl, Nat.le_refl _⟩⟩
theorem best_more {ps ws : List Nat} {n sp i a b : Nat} (up : ∀ i j, i < j → j < n → ps.getD i 0 < ps.getD j 0) (hi : i < n) (ha : Best ps ws n sp i a) (hb : Best ps ws n sp (freeR ps sp i i) b) :
    (wt ws n a < wt ws n b + ws.getD i 0 → Best ps ws n sp (i + 1) (b + 2 ^ i) ∧ wt ws n (b + 2 ^ i) = wt ws n b + ws.getD i 0) ∧ (¬ wt ws n a < wt ws n b + ws.getD i 0 → Best ps ws n sp (i + 1) a) := by
  have hf := freeR_le (ps := ps) (sp := sp) (i := i) i
  have pf : 2 ^ freeR ps sp i i ≤ 2 ^ i := Nat.pow_le_pow_right (by decide) hf
  have hbi : b < 2 ^ i := Nat.lt_of_lt_of_le hb.lt pf
  have p1 : 2 ^ (i + 1) = 2 ^ i + 2 ^ i := by rw [Nat.pow_succ]; omega
  have wb := wt_more (ws := ws) hbi hi
  have split : ∀ m', m' < 2 ^ (i + 1) → m' < 2 ^ i ∨ ∃ c, c < 2 ^ i ∧ m' = c + 2 ^ i := by
    intro m' h
    rcases Nat.lt_or_ge m' (2 ^ i) with c | c
    · exact .inl c
    · exact .inr ⟨m' - 2 ^ i, by omega, by omega⟩
  constructor
  · intro lt
    refine ⟨⟨by omega, (val_more up hi hbi).mpr ⟨hb.val, hb.lt⟩, fun m' h v => ?_⟩, by omega⟩
    rcases split m' h with c | ⟨c, hc, rfl⟩
    · have := ha.top m' c v
      left
      omega
    · have v' := (val_more up hi hc).mp v
      have := hb.top c v'.2 v'.1
      have wc := wt_more (ws := ws) hc hi
      omega
  · intro ge
    refine ⟨by have := ha.lt; omega, ha.val, fun m' h v => ?_⟩
    have al := ha.lt
    rcases split m' h with c | ⟨c, hc, rfl⟩
    · exact ha.top m' c v
    · have v' := (val_more up hi hc).mp v
      have := hb.top c v'.2 v'.1
      have wc := wt_more (ws := ws) hc hi
      omega
/-- the two lists that the program fills -/
structure DP (ps ws : List Nat) (n sp i : Nat) (bw bm : List Nat) : Prop where
  lw : bw.length = i + 1
  lm : bm.length = i + 1
  best : ∀ k, k ≤ i → Best ps ws n sp k (bm.getD k 0)
  wts : ∀ k, k ≤ i → bw.getD k 0 = wt ws n (bm.getD k 0)
theorem wt_zero {ws : List Nat} {n : Nat} : wt ws n 0 = 0 := by
  unfold wt
  induction n with
  | zero => rfl
  | succ n ih =>
    rw [List.range_succ, List.map_append, List.sum_append, ih]
    simp
theorem dp_start {ps ws : List Nat} {n sp : Nat} : DP ps ws n sp 0 [0] [0] := by
  refine ⟨rfl, rfl, fun k h => ?_, fun k h => ?_⟩
  · have e : k = 0 := by omega
    subst e
    exact best_zero
  · have e : k = 0 := by omega
    subst e
    exact wt_zero.symm
theorem getD_app {l : List Nat} {x : Nat} {k i : Nat} (h : l.length = i + 1) : (l ++ [x]).getD k 0 = if k ≤ i then l.getD k 0 else if k = i + 1 then x else 0 := by
  rw [List.getD_eq_getElem?_getD, List.getD_eq_getElem?_getD, List.getElem?_append]
  by_cases c : k ≤ i
  · rw [if_pos c, if_pos (by omega)]
  · rw [if_neg c, if_neg (by omega)]
    by_cases e : k = i + 1
    · rw [if_pos e, show k - l.length = 0 by omega]
      rfl
    · rw [if_neg e, List.getElem?_eq_none (by simp; omega)]
      rfl
theorem dp_push {ps ws : List Nat} {n sp i : Nat} {bw bm : List Nat} (D : DP ps ws n sp i bw bm) {w m : Nat} (hb : Best ps ws n sp (i + 1) m) (hw : w = wt ws n m) : DP ps ws n sp (i + 1) (bw ++ [w]) (bm ++ [m]) := by
  refine ⟨by rw [List.length_append, D.lw]; rfl, by rw [List.length_append, D.lm]; rfl, fun k h => ?_, fun k h => ?_⟩
  · rw [getD_app D.lm]
    by_cases c : k ≤ i
    · rw [if_pos c]
      exact D.best k c
    · have e : k = i + 1 := by omega
      rw [if_neg c, if_pos e, e]
      exact hb
  · rw [getD_app D.lm, getD_app D.lw]
    by_cases c : k ≤ i
    · rw [if_pos c, if_pos c]
      exact D.wts k c
    · have e : k = i + 1 := by omega
      rw [if_neg c, if_pos e, if_neg c, if_pos e]
      exact hw
theorem or_is {b i f : Nat} (h : b < 2 ^ f) (hf : f ≤ i) : b ||| 2 ^ i = b + 2 ^ i := by
  have pf : 2 ^ f ≤ 2 ^ i := Nat.pow_le_pow_right (by decide) hf
  have := Nat.two_pow_add_eq_or_of_lt (i := i) (b := b) (by omega) 1
  rw [Nat.mul_one] at this
  rw [Nat.or_comm, ← this]
  omega
theorem dp_take {ps ws : List Nat} {n sp i : Nat} {bw bm : List Nat} (D : DP ps ws n sp i bw bm) (up : ∀ i j, i < j → j < n → ps.getD i 0 < ps.getD j 0) (hi : i < n)
    (h : bw.getD i 0 < bw.getD (freeR ps sp i i) 0 + ws.getD i 0) : DP ps ws n sp (i + 1) (bw ++ [bw.getD (freeR ps sp i i) 0 + ws.getD i 0]) (bm ++ [bm.getD (freeR ps sp i i) 0 ||| 2 ^ i]) := by
  have hf := freeR_le (ps := ps) (sp := sp) (i := i) i
  have b1 := D.best i (Nat.le_refl _)
  have b2 := D.best _ hf
  rw [D.wts i (Nat.le_refl _), D.wts _ hf] at h
  obtain ⟨q1, q2⟩ := (best_more up hi b1 b2).1 h
  rw [or_is b2.lt hf]
  exact dp_push D q1 (by rw [D.wts _ hf, q2])
theorem dp_skip {ps ws : List Nat} {n sp i : Nat} {bw bm : List Nat} (D : DP ps ws n sp i bw bm) (up : ∀ i j, i < j → j < n → ps.getD i 0 < ps.getD j 0) (hi : i < n)
    (h : ¬ bw.getD i 0 < bw.getD (freeR ps sp i i) 0 + ws.getD i 0) : DP ps ws n sp (i + 1) (bw ++ [bw.getD i 0]) (bm ++ [bm.getD i 0]) := by
  have hf := freeR_le (ps := ps) (sp := sp) (i := i) i
  have b1 := D.best i (Nat.le_refl _)
  have b2 := D.best _ hf
  rw [D.wts i (Nat.le_refl _), D.wts _ hf] at h
  exact dp_push D ((best_more up hi b1 b2).2 h) (D.wts i (Nat.le_refl _))
theorem dp_end {pts : Points} {n : Nat} {ps ws : List Nat} (P : Pts pts n ps ws) {sp : Nat} {bw bm : List Nat} (D : DP ps ws n sp n bw bm) :
    bm.getD n 0 = bestSelection pts sp ∧ bw.getD n 0 = weightOf pts (bestSelection pts sp) := by
  have e := (D.best n (Nat.le_refl _)).one (best_spec P)
  exact ⟨e, by rw [weight_is P, ← e]; exact D.wts n (Nat.le_refl _)⟩
end My
/-! xs[c::2]: a rule of its own. -/
namespace My
open PySem PySem.Spec PyProof.Rows L2

theorem ev_pick {α : Type} : ∀ (l : List α) (m : Nat), m = (l.length + 1) / 2 → (List.range m).filterMap (fun k => l[2 * k]?) = evens l
  | [], m, h => by
    have : m = 0 := by simpa using h
    subst this
    rfl
  | [a], m, h => by
    have : m = 1 := by simpa using h
    subst this
    rfl
  | a :: b :: r, m, h => by
    have e : m = (r.length + 1) / 2 + 1 := by
      simp at h
      omega
    subst e
    rw [List.range_succ_eq_map, List.filterMap_cons, List.filterMap_map]
    show a :: List.filterMap (fun k => (a :: b :: r)[2 * (k + 1)]?) _ = a :: evens r
    have f : (fun k : Nat => (a :: b :: r)[2 * (k + 1)]?) = fun k => r[2 * k]? := by
      funext k
      rw [show 2 * (k + 1) = 2 * k + 1 + 1 by omega, List.getElem?_cons_succ, List.getElem?_cons_succ]
    rw [f, ev_pick r _ rfl]
theorem step_bounds (c n : Nat) : sliceBounds (some (c : Int)) none (some 2) n = (((min c n : Nat) : Int), (n : Int), 2) := by
  have h : ¬ ((c : Int) < 0) := by omega
  simp only [sliceBounds, Option.getD_some, h, if_false, show (2 : Int) > 0 by decide, if_true]
  congr 1
  omega
theorem step_range (c n : Nat) (h : c ≤ n) : sliceRange (c : Int) (n : Int) 2 = (List.range ((n - c + 1) / 2)).map fun k => c + 2 * k := by
  unfold sliceRange
  simp only [show (2 : Int) > 0 by decide, if_true]
  by_cases hc : (c : Int) < (n : Int)
  · rw [if_pos hc]
    have e : (((n : Int) - (c : Int) + 2 - 1) / 2).toNat = (n - c + 1) / 2 := by omega
    rw [e]
    apply List.map_congr_left
    intro k _
    omega
  · rw [if_neg hc]
    have e : (n - c + 1) / 2 = 0 := by omega
    rw [e]
    rfl
theorem step_pick (its : List Value) (c : Nat) : slicePick its.toArray (some (c : Int)) none (some 2) = (evens (its.drop c)).toArray := by
  unfold slicePick
  rw [List.size_toArray, step_bounds]
  show ((sliceRange ((min c its.length : Nat) : Int) (its.length : Int) 2).filterMap (its.toArray[·]?)).toArray = _
  rw [step_range _ _ (Nat.min_le_right _ _), List.filterMap_map]
  congr 1
  by_cases h : c ≤ its.length
  · rw [Nat.min_eq_left h, ← ev_pick (its.drop c) ((its.length - c + 1) / 2) (by rw [List.length_drop])]
    congr 1
    funext k
    simp [List.getElem?_drop]
  · have e : its.drop c = [] := List.drop_eq_nil_of_le (by omega)
    rw [e, Nat.min_eq_right (by omega), show (its.length - its.length + 1) / 2 = 0 by omega]
    rfl
theorem vals_evens : ∀ {xs : List V} {its : List Value}, Vals xs its → Vals (evens xs) (evens its)
  | _, _, .nil => .nil
  | _, _, .cons r .nil => .cons r .nil
  | _, _, .cons r (.cons _ rest) => .cons r (vals_evens rest)
def tStep2 (K : PySem.W.Frag) (c : Nat) (te : TE) : TE := fun σ H Q => te σ H fun x H1 => ∃ a xs, x = .ref a ∧ SqL K H1 a xs ∧ ∀ p, H1 p = none → Q (.ref p) (upd H1 p (.lst (evens (xs.drop c))))
theorem pe_step2 {X : Cx} {e : Expr} {te : TE} (c : Nat) {k1 k2 : Nat} {p1 p2 p3 pos : Pos} (he : PE X e te) : PE X (.Subscript e (.Slice (some (.Constant (.int (c : Int)) k1 p1)) none (some (.Constant (.int 2) k2 p2)) p3) pos) (tStep2 X.K c te) := by
  constructor
  intro pins s0 σ H0 Q I0 ask
  apply Subscript_
  apply thn (he.run pins s0 σ H0 _ I0 ask)
  rintro u s ⟨_, H, I, ru, a, xs, rfl, seq, q⟩
  cases ru
  -- the parts: a constant, nothing, a constant
  have first : PO X (some (.Constant (.int (c : Int)) k1 p1)) (tPart (tC (.int c))) := po_some pe_int
  have third : PO X (some (.Constant (.int 2) k2 p2)) (tPart (tC (.int 2))) := po_some pe_int
  apply wpAny_Slice
  apply thn (first.run pins s σ H (fun o H' => o = some (c : Int) ∧ H' = H) I ⟨(c : Int), rfl, rfl, rfl⟩)
  rintro v1 t1 ⟨_, _, J1, is1, rfl, rfl⟩
  apply thn (po_none.run pins t1 σ _ (fun o H' => o = none ∧ H' = _) J1 ⟨rfl, rfl⟩)
  rintro v2 t2 ⟨_, _, J2, is2, rfl, rfl⟩
  apply thn (third.run pins t2 σ _ (fun o H' => o = some 2 ∧ H' = _) J2 ⟨(2 : Int), rfl, rfl, rfl⟩)
  rintro v3 t3 ⟨_, Hs, J3, is3, rfl, rfl⟩
  -- the slice object stands; the list's items are picked
  generalize hobj : ({ cls := .type "slice", data := .fields #[v1, v2, v3] } : Obj) = o
  have J : Inv X pins σ Hs { t3 with heap := t3.heap.push o } := J3.kept (t' := t3.toks) (fun b x z => Heap.get?_push_of_some _ z)
  obtain ⟨its, vals, plain, short⟩ := J.list seq
  have same := vals.length
  have isS : (t3.heap.push o).IsSliceOf t3.heap.objs.size v1 v2 v3 := hobj ▸ Heap.IsSliceOf.new t3.heap v1 v2 v3
  subst hobj
  change wpAny (model X.prog X.w) X.A (subscriptTail e (.Slice (some (.Constant (.int (c : Int)) k1 p1)) none (some (.Constant (.int 2) k2 p2)) p3) (Value.ref a) (Value.ref t3.heap.objs.size)) (EP X pins σ Q) X.xe { t3 with heap := t3.heap.push { cls := .type "slice", data := .fields #[v1, v2, v3] } }
  refine tail_any (ops := [Value.ref a, Value.ref t3.heap.objs.size]) plain.isList.typeIs PySem.slot_list_getitem.lookup ?_ (by with_unfolding_all rfl)
  refine wpAny_getItem_list_slice plain.isList isS is1 is2 is3 (by decide) ?_ (by rw [List.size_toArray, ← same]; exact short)
  rw [step_pick]
  refine ⟨V.ref _, upd Hs _ (HO.lst (evens (xs.drop c))), J.laid (t' := t3.toks) (fun b x z => Heap.get?_push_of_some _ z) (Nat.le_refl _) ⟨?_, _, 0, vals_evens (vals.drop c), Heap.get?_push_size _ rfl⟩, rfl, q _ (J.hok.fresh (Nat.le_refl _))⟩
  rw [evens_length, List.length_drop]
  omega
theorem odds_drop {α : Type} : ∀ l : List α, evens (l.drop 1) = odds l
  | [] => rfl
  | [_] => rfl
  | [_, _] => rfl
  | _ :: b :: c :: r => by
    show b :: evens ((c :: r).drop 1) = b :: odds (c :: r)
    rw [odds_drop (c :: r)]
end My
namespace My
open PySem PySem.Spec PyProof.Rows L2
/-! ### the text -/
def topS (i : Nat) : Stmt := PySem.Challenge.pw_spreadpicks_s01_best_selection.main.body.getD i (.Pass ⟨0, 0, 0, 0⟩)
abbrev sOut : Stmt := topS 6
abbrev sPos : Stmt := topS 7
abbrev sWts : Stmt := topS 8
abbrev sBtw : Stmt := topS 9
abbrev sInc : Stmt := topS 10
abbrev sArp : Stmt := topS 11
abbrev sWil : Stmt := topS 12
abbrev sCnf : Stmt := topS 13
abbrev sCfb : Stmt := topS 14
abbrev sBwm : Stmt := topS 15
abbrev sBes : Stmt := topS 16
theorem scOut : FnScope [] [] (defScope sOut) := ⟨rfl, rfl, rfl, by decide +kernel, rfl, by decide +kernel, by decide +kernel⟩
theorem scPos : FnScope ["points"] ["points"] (defScope sPos) := ⟨rfl, rfl, rfl, by decide +kernel, rfl, by decide +kernel, by decide +kernel⟩
theorem scWts : FnScope ["points"] ["points"] (defScope sWts) := ⟨rfl, rfl, rfl, by decide +kernel, rfl, by decide +kernel, by decide +kernel⟩
theorem scBtw : FnScope ["numbers", "least", "most", "number"] ["numbers", "least", "most"] (defScope sBtw) := ⟨rfl, rfl, rfl, by decide +kernel, rfl, by decide +kernel, by decide +kernel⟩
theorem scInc : FnScope ["numbers", "i"] ["numbers"] (defScope sInc) := ⟨rfl, rfl, rfl, by decide +kernel, rfl, by decide +kernel, by decide +kernel⟩
theorem scArp : FnScope ["points", "positions"] ["points"] (defScope sArp) := ⟨rfl, rfl, rfl, by decide +kernel, rfl, by decide +kernel, by decide +kernel⟩
theorem scWil : FnScope ["spacing", "points"] ["spacing", "points"] (defScope sWil) := ⟨rfl, rfl, rfl, by decide +kernel, rfl, by decide +kernel, by decide +kernel⟩
theorem scCnf : FnScope ["spacing", "position", "other"] ["spacing", "position", "other"] (defScope sCnf) := ⟨rfl, rfl, rfl, by decide +kernel, rfl, by decide +kernel, by decide +kernel⟩
theorem scCfb : FnScope ["spacing", "positions", "index", "count"] ["spacing", "positions", "index"] (defScope sCfb) := ⟨rfl, rfl, rfl, by decide +kernel, rfl, by decide +kernel, by decide +kernel⟩
theorem scBwm : FnScope ["spacing", "positions", "weights", "best_weights", "best_masks", "i", "free", "weight"] ["spacing", "positions", "weights"] (defScope sBwm) := ⟨rfl, rfl, rfl, by decide +kernel, rfl, by decide +kernel, by decide +kernel⟩
theorem scBes : FnScope ["spacing", "points"] ["spacing", "points"] (defScope sBes) := ⟨rfl, rfl, rfl, by decide +kernel, rfl, by decide +kernel, by decide +kernel⟩
end My
namespace My
open PySem PySem.Spec PyProof.Rows L2
/-! ### heaps -/
theorem same_upd {H : Hp} {p : Addr} {o : HO} (h : H p = none) : Same H (upd H p o) := fun b x e => by
  rw [upd_ne (ne_of_none e h)]
  exact e
/-- a change of what is new leaves what stood -/
theorem same_upd2 {H0 H : Hp} {p : Addr} {o : HO} (s : Same H0 H) (h : H0 p = none) : Same H0 (upd H p o) := fun b x e => by
  rw [upd_ne (ne_of_none e h)]
  exact s b x e
theorem not_t {b : Bool} (h : (!b) = true) : b = false := by
  cases b with
  | false => rfl
  | true => exact absurd h (by decide)
theorem small {n : Nat} (h : n ≤ 1000) : n < sizeLine := small1000 h
section
variable {P : Program} {w : World} {K : PySem.W.Frag} {mg : Str → Option Value} {base : Heap}
/-- a def of the text: where it stands -/
structure Df (K : PySem.W.Frag) (mg : Str → Option Value) (x : Str) (st : Stmt) (ps : List Str) (f : Addr) (fd : FuncData) : Prop where
  F : Fun K x x st f fd
  b : Binds K fd ps []
  g : mg x = some (.ref f)

/-! ### out_of_limits -/
def spOut : Sp := fun vs H Q _ => vs = [] ∧ ∀ H' p, Same H H' → H p = none → H' p = some (.lst [.int (-22)]) → Q (.ref p) H'
theorem ok_out {f : Addr} {fd : FuncData} {k : Nat} (F : Df K mg "out_of_limits" sOut [] f fd) : FnOk P w K mg base CX0 (k + 1) f fd [] spOut := by
  refine F.F.ok scOut (fun vs H Q E h => ?_) (fun cdv A outer s H vs Q E hr h => ?_)
  · rw [h.1]
    rfl
  · obtain ⟨rfl, q⟩ := h
    refine ⟨_, pss_one (ps_ret (pe_lst (pa_cons (pe_un un_neg pe_int) pa_nil))), ?_⟩
    exact ⟨22, rfl, (by show 1 ≤ sizeLine; decide), fun p np => q _ p (same_upd np) np upd_same⟩

/-! ### positions_of, weights_of -/
def spCut (K : PySem.W.Frag) (c : Nat) : Sp := fun vs H Q _ => ∃ (a : Addr) (xs : List V), vs = [.ref a] ∧ SqL K H a xs ∧ ∀ H' p, Same H H' → H p = none → H' p = some (.lst (evens (xs.drop c))) → Q (.ref p) H'
theorem ok_pos {f : Addr} {fd : FuncData} {k : Nat} (F : Df K mg "positions_of" sPos ["points"] f fd) : FnOk P w K mg base CX0 (k + 1) f fd ["points"] (spCut K 0) := by
  refine F.F.ok scPos (fun vs H Q E h => ?_) (fun cdv A outer s H vs Q E hr h => ?_)
  · obtain ⟨a, xs, rfl, _⟩ := h
    rfl
  · obtain ⟨a, xs, rfl, hS, q⟩ := h
    refine ⟨_, pss_one (ps_ret (pe_step2 0 (pv 0))), ?_⟩
    exact ⟨.ref a, rfl, a, xs, rfl, hS, fun p np => q _ p (same_upd np) np upd_same⟩
theorem ok_wts {f : Addr} {fd : FuncData} {k : Nat} (F : Df K mg "weights_of" sWts ["points"] f fd) : FnOk P w K mg base CX0 (k + 1) f fd ["points"] (spCut K 1) := by
  refine F.F.ok scWts (fun vs H Q E h => ?_) (fun cdv A outer s H vs Q E hr h => ?_)
  · obtain ⟨a, xs, rfl, _⟩ := h
    rfl
  · obtain ⟨a, xs, rfl, hS, q⟩ := h
    refine ⟨_, pss_one (ps_ret (pe_step2 1 (pv 0))), ?_⟩
    exact ⟨.ref a, rfl, a, xs, rfl, hS, fun p np => q _ p (same_upd np) np upd_same⟩

/-! ### are_between -/
theorem take_more {α β : Type} {l : List α} {g : α → β} {i : Nat} {x : α} (h : l[i]? = some x) : (l.take i).map g ++ [g x] = (l.take (i + 1)).map g := by
  rw [List.take_add_one, h, List.map_append]
  rfl
theorem map_at {ns : List Int} {i : Nat} {y : V} (h : (ns.map V.int)[i]? = some y) : ∃ z, ns[i]? = some z ∧ y = .int z := by
  rw [List.getElem?_map] at h
  cases e : ns[i]? with
  | none => rw [e] at h; cases h
  | some z => rw [e] at h; exact ⟨z, rfl, (Option.some.inj h).symm⟩
def spBtw (K : PySem.W.Frag) : Sp := fun vs H Q _ => ∃ (a : Addr) (ns : List Int) (lo hi : Int), vs = [.ref a, .int lo, .int hi] ∧ SqL K H a (ns.map V.int) ∧ ns.length ≤ 1000 ∧ ∀ H', Same H H' → Q (.bl (btw lo hi ns)) H'
theorem ok_btw {f : Addr} {fd : FuncData} {k : Nat} (F : Df K mg "are_between" sBtw ["numbers", "least", "most"] f fd) (mAll : mg "all" = none) : FnOk P w K mg base CX0 (k + 1) f fd ["numbers", "least", "most"] (spBtw K) := by
  refine F.F.ok scBtw (fun vs H Q E h => ?_) (fun cdv A outer s H vs Q E hr h => ?_)
  · obtain ⟨a, ns, lo, hi, rfl, _⟩ := h
    rfl
  · obtain ⟨a, ns, lo, hi, rfl, hS, hlen, q⟩ := h
    refine ⟨_, pss_one (ps_ret (pe_callB (cr_all rfl) (by rfl) mAll boot_all (pa_cons
      (pe_lc (own := [("number", 3)]) (g := gName 3) (tt := tYes) rfl scBtw.nd (pi_list (pv 0)) (blkOk_by (N := ["numbers", "least", "most", "number"]) (sc := defScope sBtw) (by decide +kernel))
        (fun _ _ _ _ _ => pg_name (i := 3) scBtw.nd rfl (Or.inl rfl)) (fun _ _ _ _ _ => pts_nil) (fun _ _ _ _ _ => pe_chain op_le op_le (pv 1) (pv 3) (pv 2))) pa_nil))), ?_⟩
    refine ⟨.ref a, rfl, a, rfl, ⟨_, hS⟩, fun D nD => ?_⟩
    refine lc_list (K := K) (a := a) (xs := ns.map V.int) (fun i H' => Same H H' ∧ H' D = some (.lst (((ns.take i).map fun x => decide (lo ≤ x) && decide (x ≤ hi)).map V.bl))) ⟨same_upd nD, upd_same⟩ (fun i H' _ h => h.1.seq hS) ?_ ?_
    · rintro i y H' hi' ⟨sm, hD⟩
      obtain ⟨z, hz, rfl⟩ := map_at hi'
      have hlz : i < ns.length := (List.getElem?_eq_some_iff.mp hz).1
      refine ⟨rfl, .int lo, rfl, .int z, rfl, lo, z, rfl, rfl, _, rfl, ?_⟩
      have fin : ∀ b : Bool, b = (decide (lo ≤ z) && decide (z ≤ hi)) → ∃ acc, H' D = some (.lst acc) ∧ acc.length < sizeLine ∧ (Same H (upd H' D (.lst (acc ++ [.bl b]))) ∧ (upd H' D (.lst (acc ++ [.bl b]))) D = some (.lst (((ns.take (i + 1)).map fun x => decide (lo ≤ x) && decide (x ≤ hi)).map V.bl))) := by
        intro b hb
        refine ⟨_, hD, ?_, same_upd2 sm nD, ?_⟩
        · rw [List.length_map, List.length_map, List.length_take]
          exact small (by omega)
        · rw [upd_same, hb, ← take_more (g := fun x => decide (lo ≤ x) && decide (x ≤ hi)) hz, List.map_append]
          rfl
      refine ite2 (fun c => ?_) (fun c => ?_)
      · refine ⟨.int hi, rfl, z, hi, rfl, rfl, ?_⟩
        exact fin _ (by rw [c, Bool.true_and])
      · exact fin _ (by rw [show decide (lo ≤ z) = false by simpa using c, Bool.false_and])
    · rintro H' ⟨sm, hD⟩
      refine ⟨D, _, rfl, .inl (.inl hD), ?_⟩
      rw [List.length_map, List.take_length]
      have e : (ns.map fun x => decide (lo ≤ x) && decide (x ≤ hi)).all id = btw lo hi ns := by
        unfold btw
        rw [List.all_map]
        rfl
      rw [e]
      exact q _ sm

/-! ### are_increasing -/
theorem int_at {ns : List Int} {j : Nat} (h : j < ns.length) : (ns.map V.int)[j]? = some (.int (ns.getD j 0)) := by
  rw [List.getElem?_map, List.getD_eq_getElem?_getD, List.getElem?_eq_getElem h]
  rfl
theorem len62 {n : Nat} (h : n ≤ 1000) : -(2 ^ 62) ≤ (1 : Int) ∧ (1 : Int) < 2 ^ 62 ∧ -(2 ^ 62) ≤ (n : Int) ∧ (n : Int) < 2 ^ 62 := by omega
def spInc (K : PySem.W.Frag) : Sp := fun vs H Q _ => ∃ (a : Addr) (ns : List Int), vs = [.ref a] ∧ SqL K H a (ns.map V.int) ∧ ns.length ≤ 1000 ∧ ∀ H', Same H H' → Q (.bl (incr ns)) H'
theorem ok_inc {f : Addr} {fd : FuncData} {k : Nat} (F : Df K mg "are_increasing" sInc ["numbers"] f fd) (mAll : mg "all" = none) (mRange : mg "range" = none) (mLen : mg "len" = none) : FnOk P w K mg base CX0 (k + 1) f fd ["numbers"] (spInc K) := by
  refine F.F.ok scInc (fun vs H Q E h => ?_) (fun cdv A outer s H vs Q E hr h => ?_)
  · obtain ⟨a, ns, rfl, _⟩ := h
    rfl
  · obtain ⟨a, ns, rfl, hS, hlen, q⟩ := h
    refine ⟨_, pss_one (ps_ret (pe_callB (cr_all rfl) (by rfl) mAll boot_all (pa_cons
      (pe_lc (own := [("i", 1)]) (g := gName 1) (tt := tYes) rfl scInc.nd (pi_range2 (by rfl) mRange (pa_cons pe_int (pa_cons (pe_callB call_len_seq (by rfl) mLen PySem.boot_len (pa_cons (pv 0) pa_nil)) pa_nil))) (blkOk_by (N := ["numbers", "i"]) (sc := defScope sInc) (by decide +kernel))
        (fun _ _ _ _ _ => pg_name (i := 1) scInc.nd rfl (Or.inl rfl)) (fun _ _ _ _ _ => pts_nil)
        (fun _ _ _ _ _ => pe_cmpR op_lt (pe_ix (r := rIxL K) ix_list (pv 0) (pe_op op_sub (pv 1) pe_int) (fun _ _ => rfl)) (pe_ix (r := rIxL K) ix_list (pv 0) (pv 1) (fun _ _ => rfl)) (nomark _))) pa_nil))), ?_⟩
    refine ⟨.ref a, rfl, a, _, rfl, .inl hS, 1, _, rfl, ?_, fun D nD => ?_⟩
    · rw [List.length_map]
      exact len62 hlen
    · have en : (((ns.map V.int).length : Int) - 1).toNat = ns.length - 1 := by
        rw [List.length_map]
        omega
      rw [en]
      refine lc_range (lo := 1) (n := ns.length - 1) (fun i H' => Same H H' ∧ H' D = some (.lst (((List.range i).map fun k => decide (ns.getD k 0 < ns.getD (k + 1) 0)).map V.bl))) ⟨same_upd nD, upd_same⟩ ?_ ?_
      · rintro i H' hi ⟨sm, hD⟩
        have hA : SqL K H' a (ns.map V.int) := sm.seq hS
        refine ⟨rfl, .ref a, rfl, .int (1 + (i : Int)), rfl, 1 + (i : Int), 1, rfl, rfl, a, _, _, _, rfl, rfl, hA, at_of (j := i) (by omega) (int_at (by omega)), .ref a, rfl, .int (1 + (i : Int)), rfl, a, _, _, _, rfl, rfl, hA, at_of (j := i + 1) (by omega) (int_at (by omega)), _, _, rfl, rfl, ?_⟩
        refine ⟨_, hD, ?_, same_upd2 sm nD, ?_⟩
        · rw [List.length_map, List.length_map, List.length_range]
          exact small (by omega)
        · rw [upd_same, List.range_succ, List.map_append, List.map_append]
          rfl
      · rintro H' ⟨sm, hD⟩
        refine ⟨D, _, rfl, .inl (.inl hD), ?_⟩
        have e : ((List.range (ns.length - 1)).map fun k => decide (ns.getD k 0 < ns.getD (k + 1) 0)).all id = incr ns := by
          unfold incr
          rw [List.all_map]
          rfl
        rw [e]
        exact q _ sm

/-! ### are_points -/
def spArp (K : PySem.W.Frag) : Sp := fun vs H Q _ => ∃ (a : Addr) (ns : List Int), vs = [.ref a] ∧ SqL K H a (ns.map V.int) ∧ ns.length ≤ 27 ∧ ∀ H', Same H H' → Q (.bl (okPts ns)) H'
theorem ok_arp {f fP fW fB fI : Addr} {fd fdP fdW fdB fdI : FuncData} (F : Df K mg "are_points" sArp ["points"] f fd) (FP : Df K mg "positions_of" sPos ["points"] fP fdP) (FW : Df K mg "weights_of" sWts ["points"] fW fdW)
    (FB : Df K mg "are_between" sBtw ["numbers", "least", "most"] fB fdB) (FI : Df K mg "are_increasing" sInc ["numbers"] fI fdI) (mAll : mg "all" = none) (mRange : mg "range" = none) (mLen : mg "len" = none)
    {t1 t2 t3 : Tok} (cP : mg "MOST_POINTS" = some (.int 12 t1)) (cQ : mg "MOST_POSITION" = some (.int 999 t2)) (cW : mg "MOST_WEIGHT" = some (.int 99 t3)) : FnOk P w K mg base CX0 2 f fd ["points"] (spArp K) := by
  have GP : FnOk P w K mg base CX0 1 fP fdP ["points"] (spCut K 0) := ok_pos FP
  have GW : FnOk P w K mg base CX0 1 fW fdW ["points"] (spCut K 1) := ok_wts FW
  have GB : FnOk P w K mg base CX0 1 fB fdB ["numbers", "least", "most"] (spBtw K) := ok_btw FB mAll
  have GI : FnOk P w K mg base CX0 1 fI fdI ["numbers"] (spInc K) := ok_inc FI mAll mRange mLen
  refine F.F.ok scArp (fun vs H Q E h => ?_) (fun cdv A outer s H vs Q E hr h => ?_)
  · obtain ⟨a, ns, rfl, _⟩ := h
    rfl
  · obtain ⟨a, ns, rfl, hS, hlen, q⟩ := h
    refine ⟨_, pss_cons (ps_if (PW.pt (pw_or (pt_cmpR op_ne (pe_op op_mod (pe_callB call_len_seq (by rfl) mLen PySem.boot_len (pa_cons (pv 0) pa_nil)) pe_int) pe_int (nomark _))
          (pw_or1 (pt_cmpR op_gt (pe_callB call_len_seq (by rfl) mLen PySem.boot_len (pa_cons (pv 0) pa_nil)) (pe_op op_mul pe_int (pe_glob (v := .int 12) rfl cP ⟨_, rfl⟩)) (nomark _)))))
        (pss_one (ps_ret pe_bl)) pss_nil)
      (pss_cons (ps_set (i := 1) scArp.nd rfl (Or.inl rfl) (pe_call GP hr (by rfl) FP.g FP.F.kp FP.b .nil pass0 (pa_cons (pv 0) pa_nil)))
      (pss_one (ps_ret (pe_and (pe_call GB hr (by rfl) FB.g FB.F.kp FB.b .nil pass0 (pa_cons (pv 1) (pa_cons pe_int (pa_cons (pe_glob (v := .int 999) rfl cQ ⟨_, rfl⟩) pa_nil))))
        (pe_and (pe_call GI hr (by rfl) FI.g FI.F.kp FI.b .nil pass0 (pa_cons (pv 1) pa_nil))
        (pe_one (pe_call GB hr (by rfl) FB.g FB.F.kp FB.b .nil pass0 (pa_cons (pe_call GW hr (by rfl) FW.g FW.F.kp FW.b .nil pass0 (pa_cons (pv 0) pa_nil)) (pa_cons pe_int (pa_cons (pe_glob (v := .int 99) rfl cW ⟨_, rfl⟩) pa_nil)))))))))), ?_⟩
    have el : (ns.map V.int).length = ns.length := List.length_map ..
    refine ⟨.ref a, rfl, a, _, rfl, .inl hS, _, _, rfl, rfl, (by show (0 : Int) < 2; decide), rfl, _, rfl, ?_⟩
    rw [el]
    refine ite2 (fun c => ?_) (fun c => ?_)
    · -- an odd number of integers
      have e : okPts ns = false := by
        unfold okPts
        have h2 : decide (ns.length % 2 = 0) = false := by
          rw [decide_eq_false_iff_not]
          intro z
          have : ((ns.length : Int) % 2) = 0 := by omega
          have c2 : decide (V.int ((ns.length : Int) % 2) = V.int 0) = false := not_t c
          rw [decide_eq_true (congrArg V.int this)] at c2
          exact absurd c2 (by decide)
        rw [h2]
        simp
      have q' := q H (Same.refl H)
      rw [e] at q'
      exact q'
    · have h2 : ns.length % 2 = 0 := by
        have c' : decide (V.int ((ns.length : Int) % 2) = V.int 0) = true := by simpa using c
        have := V.int.inj (of_decide_eq_true c')
        omega
      refine ⟨.ref a, rfl, a, _, rfl, .inl hS, 2, 12, rfl, rfl, (by unfold CMul; decide), _, _, rfl, rfl, _, rfl, ?_⟩
      rw [el]
      refine ite2 (fun c => ?_) (fun c => ?_)
      · have e : okPts ns = false := by
          unfold okPts
          have h3 : decide (ns.length ≤ 24) = false := by
            rw [decide_eq_false_iff_not]
            have := of_decide_eq_true c
            omega
          rw [h3]
          simp
        have q' := q H (Same.refl H)
        rw [e] at q'
        exact q'
      · have h3 : ns.length ≤ 24 := by
          have : ¬ ((2 : Int) * 12 < (ns.length : Int)) := fun z => c (decide_eq_true z)
          omega
        have eo : okPts ns = (btw 0 999 (evens ns) && (incr (evens ns) && btw 0 99 (odds ns))) := by
          unfold okPts
          rw [decide_eq_true h2, decide_eq_true h3, Bool.true_and, Bool.true_and, Bool.and_assoc]
        have ee : evens ((ns.map V.int).drop 0) = (evens ns).map V.int := by
          rw [List.drop_zero, evens_map]
        have eD : evens ((ns.map V.int).drop 1) = (odds ns).map V.int := by
          rw [odds_drop, odds_map]
        have le : (evens ns).length ≤ 1000 := by
          rw [evens_length]
          omega
        have lo : (odds ns).length ≤ 1000 := by
          rw [odds_length]
          omega
        rw [eo] at q
        refine ⟨.ref a, rfl, a, _, rfl, hS, fun H1 p s1 np ep => ?_⟩
        rw [ee] at ep
        have hp : SqL K H1 p ((evens ns).map V.int) := .inl (.inl ep)
        refine ⟨.ref p, rfl, p, evens ns, 0, 999, rfl, hp, le, fun H2 s2 => ⟨_, rfl, ?_⟩⟩
        cases b1 : btw 0 999 (evens ns) with
        | false =>
          rw [b1] at q
          exact q _ (s1.trans s2)
        | true =>
          rw [b1] at q
          refine ⟨.ref p, rfl, p, evens ns, rfl, s2.seq hp, le, fun H3 s3 => ⟨_, rfl, ?_⟩⟩
          cases b2 : incr (evens ns) with
          | false =>
            rw [b2] at q
            exact q _ ((s1.trans s2).trans s3)
          | true =>
            rw [b2] at q
            refine ⟨.ref a, rfl, a, _, rfl, ((s1.trans s2).trans s3).seq hS, fun H4 p2 s4 np2 ep2 => ?_⟩
            rw [eD] at ep2
            refine ⟨p2, odds ns, 0, 99, rfl, .inl (.inl ep2), lo, fun H5 s5 => ?_⟩
            exact q _ ((((s1.trans s2).trans s3).trans s4).trans s5)

/-! ### are_within_limits -/
def spWil (K : PySem.W.Frag) : Sp := fun vs H Q _ => ∃ (a : Addr) (sp : Int) (ns : List Int), vs = [.int sp, .ref a] ∧ SqL K H a (ns.map V.int) ∧ ns.length ≤ 27 ∧ ∀ H', Same H H' → Q (.bl (decide (1 ≤ sp) && decide (sp ≤ 999) && okPts ns)) H'
theorem ok_wil {f fA : Addr} {fd fdA : FuncData} (F : Df K mg "are_within_limits" sWil ["spacing", "points"] f fd) (FA : Df K mg "are_points" sArp ["points"] fA fdA) (GA : FnOk P w K mg base CX0 2 fA fdA ["points"] (spArp K))
    {t1 t2 : Tok} (c1 : mg "LEAST_SPACING" = some (.int 1 t1)) (c2 : mg "MOST_SPACING" = some (.int 999 t2)) : FnOk P w K mg base CX0 3 f fd ["spacing", "points"] (spWil K) := by
  refine F.F.ok scWil (fun vs H Q E h => ?_) (fun cdv A outer s H vs Q E hr h => ?_)
  · obtain ⟨a, sp, ns, rfl, _⟩ := h
    rfl
  · obtain ⟨a, sp, ns, rfl, hS, hlen, q⟩ := h
    refine ⟨_, pss_one (ps_ret (pe_and (pe_chain op_le op_le (pe_glob (v := .int 1) rfl c1 ⟨_, rfl⟩) (pv 0) (pe_glob (v := .int 999) rfl c2 ⟨_, rfl⟩)) (pe_one (pe_call GA hr (by rfl) FA.g FA.F.kp FA.b .nil pass0 (pa_cons (pv 1) pa_nil))))), ?_⟩
    refine ⟨.int sp, rfl, 1, sp, rfl, rfl, _, rfl, ?_⟩
    cases b1 : decide (1 ≤ sp) with
    | false =>
      rw [b1] at q
      exact ⟨_, rfl, q H (Same.refl H)⟩
    | true =>
      rw [b1] at q
      refine ⟨sp, 999, rfl, rfl, _, rfl, ?_⟩
      cases b2 : decide (sp ≤ 999) with
      | false =>
        rw [b2] at q
        exact q H (Same.refl H)
      | true =>
        rw [b2] at q
        exact ⟨.ref a, rfl, a, ns, rfl, hS, hlen, fun H1 s1 => q H1 s1⟩

/-! ### in_conflict -/
def spCnf : Sp := fun vs H Q _ => ∃ (sp x y : Int), vs = [.int sp, .int x, .int y] ∧ Q (.bl (conf sp x y)) H
theorem ok_cnf {f : Addr} {fd : FuncData} {k : Nat} (F : Df K mg "in_conflict" sCnf ["spacing", "position", "other"] f fd) (mAbs : mg "abs" = none) : FnOk P w K mg base CX0 (k + 1) f fd ["spacing", "position", "other"] spCnf := by
  refine F.F.ok scCnf (fun vs H Q E h => ?_) (fun cdv A outer s H vs Q E hr h => ?_)
  · obtain ⟨sp, x, y, rfl, _⟩ := h
    rfl
  · obtain ⟨sp, x, y, rfl, q⟩ := h
    refine ⟨_, pss_one (ps_ret (pe_cmpR op_lt (pe_callB call_abs (by rfl) mAbs boot_abs (pa_cons (pe_op op_sub (pv 1) (pv 2)) pa_nil)) (pv 0) (nomark _))), ?_⟩
    exact ⟨.int x, rfl, .int y, rfl, x, y, rfl, rfl, x - y, rfl, .int sp, rfl, _, sp, rfl, rfl, q⟩

/-! ### lists of numbers that are not negative -/
def natsV (l : List Nat) : List V := l.map fun n : Nat => V.int (n : Int)
theorem and_nat (a b : Nat) : Builtin.bitAnd (a : Int) (b : Int) = ((a &&& b : Nat) : Int) := by
  rw [bitAnd_pp (by omega) (by omega), Int.toNat_natCast, Int.toNat_natCast]
theorem shr_nat (m i : Nat) : (m : Int) / 2 ^ i = ((m / 2 ^ i : Nat) : Int) := by
  rw [Int.natCast_ediv, Int.natCast_pow]
  rfl
theorem nats_is (l : List Nat) : natsV l = (l.map Int.ofNat).map V.int := by
  unfold natsV
  rw [List.map_map]
  rfl
theorem nats_length (l : List Nat) : (natsV l).length = l.length := List.length_map ..
theorem nat_at {l : List Nat} {j : Nat} (h : j < l.length) : (natsV l)[j]? = some (.int ((l.getD j 0 : Nat) : Int)) := by
  unfold natsV
  rw [List.getElem?_map, List.getD_eq_getElem?_getD, List.getElem?_eq_getElem h]
  rfl
theorem nats_get {l : List Nat} {i : Nat} {y : V} (h : (natsV l)[i]? = some y) : ∃ z : Nat, l[i]? = some z ∧ y = .int (z : Int) := by
  unfold natsV at h
  rw [List.getElem?_map] at h
  cases e : l[i]? with
  | none => rw [e] at h; cases h
  | some z => rw [e] at h; exact ⟨z, rfl, (Option.some.inj h).symm⟩
theorem nats_more {l : List Nat} {g : Nat → Nat} {i x : Nat} (h : l[i]? = some x) : natsV ((l.take i).map g) ++ [.int ((g x : Nat) : Int)] = natsV ((l.take (i + 1)).map g) := by
  rw [← take_more (g := g) h]
  unfold natsV
  rw [List.map_append]
  rfl
theorem evens_nats (l : List Nat) : evens ((natsV l).drop 0) = natsV (evens l) := by
  rw [List.drop_zero]
  exact evens_map _ l
theorem odds_nats (l : List Nat) : evens ((natsV l).drop 1) = natsV (odds l) := by
  rw [odds_drop]
  exact odds_map _ l
/-- within the limits: as the program asks it -/
def okAll (sp : Nat) (flat : List Nat) : Bool := decide (1 ≤ (sp : Int)) && decide ((sp : Int) ≤ 999) && okPts (flat.map Int.ofNat)
theorem all_bad {sp : Nat} {flat : List Nat} {f : Ks591.Points → Ks591.Result} (h : okAll sp flat = false) : Ks591Neutral.integers (Ks591.withPoints sp flat f) = [-22] := by
  rw [with_bad]
  · rfl
  · unfold okAll at h
    cases b1 : okPts (flat.map Int.ofNat) with
    | false => exact .inl rfl
    | true =>
      right
      rw [b1, Bool.and_true, Bool.and_eq_false_iff, decide_eq_false_iff_not, decide_eq_false_iff_not] at h
      omega
theorem all_good {sp : Nat} {flat : List Nat} {f : Ks591.Points → Ks591.Result} (h : okAll sp flat = true) : Ks591Neutral.integers (Ks591.withPoints sp flat f) = Ks591Neutral.integers (f (mk flat)) ∧ okPts (flat.map Int.ofNat) = true ∧ 1 ≤ sp ∧ sp ≤ 999 := by
  unfold okAll at h
  simp only [Bool.and_eq_true, decide_eq_true_eq] at h
  exact ⟨by rw [with_good h.2 (by omega) (by omega)], h.2, by omega, by omega⟩
theorem nat_of {i : Int} (h : PySem.W.Codec.inInt 0 4294967295 i = true) : ∃ n : Nat, i = (n : Int) := by
  unfold PySem.W.Codec.inInt at h
  rw [Bool.and_eq_true, decide_eq_true_eq] at h
  exact ⟨i.toNat, by omega⟩
theorem nats_of : ∀ {l : List Int}, l.all (PySem.W.Codec.inInt 0 4294967295) = true → ∃ m : List Nat, l = m.map Int.ofNat
  | [], _ => ⟨[], rfl⟩
  | i :: l, h => by
    rw [List.all_cons, Bool.and_eq_true] at h
    obtain ⟨n, rfl⟩ := nat_of h.1
    obtain ⟨m, rfl⟩ := nats_of h.2
    exact ⟨n :: m, rfl⟩
end
end My
namespace My
open PySem PySem.Spec PyProof.Rows L2
section
variable {P : Program} {w : World} {K : PySem.W.Frag} {mg : Str → Option Value} {base : Heap}
theorem or_nat (a i : Nat) : Builtin.bitOr (a : Int) (1 * 2 ^ (i : Int).toNat) = ((a ||| 2 ^ i : Nat) : Int) := by
  have e : (1 : Int) * 2 ^ (i : Int).toNat = ((2 ^ i : Nat) : Int) := by
    rw [Int.one_mul, Int.toNat_natCast, Int.natCast_pow]
    rfl
  rw [e, Bits.bitOr_pp (Int.natCast_nonneg _) (Int.natCast_nonneg _), Int.toNat_natCast, Int.toNat_natCast]
theorem nats_app (l : List Nat) (x : Nat) : natsV l ++ [.int (x : Int)] = natsV (l ++ [x]) := by
  unfold natsV
  rw [List.map_append]
  rfl
theorem last_is {l : List Nat} {n : Nat} (h : l.length = n + 1) : atI (natsV l) (-1) = some (.int ((l.getD n 0 : Nat) : Int)) := by
  have e : l = l.take n ++ [l.getD n 0] := by
    have h1 := List.take_add_one (l := l) (i := n)
    rw [List.take_of_length_le (by omega), List.getElem?_eq_getElem (by omega)] at h1
    rw [List.getD_eq_getElem?_getD, List.getElem?_eq_getElem (by omega)]
    exact h1
  have e2 : natsV l = natsV (l.take n) ++ [.int ((l.getD n 0 : Nat) : Int)] := by
    rw [nats_app]
    exact congrArg natsV e
  rw [e2]
  exact atI_last _ _
end
end My
namespace My
open PySem PySem.Spec PyProof.Rows L2
section
variable {P : Program} {w : World} {K : PySem.W.Frag} {mg : Str → Option Value} {base : Heap}
/-! ### count_of_free_before -/
def spCfb (K : PySem.W.Frag) : Sp := fun vs H Q _ => ∃ (a : Addr) (sp i : Nat) (ps : List Nat), vs = [.int (sp : Int), .ref a, .int (i : Int)] ∧ SqL K H a (natsV ps) ∧ i < ps.length ∧ Q (.int (freeR ps sp i i : Nat)) H
theorem ok_cfb {f fC : Addr} {fd fdC : FuncData} (F : Df K mg "count_of_free_before" sCfb ["spacing", "positions", "index"] f fd) (FC : Df K mg "in_conflict" sCnf ["spacing", "position", "other"] fC fdC) (mAbs : mg "abs" = none) :
    FnOk P w K mg base CX0 2 f fd ["spacing", "positions", "index"] (spCfb K) := by
  have GC : FnOk P w K mg base CX0 1 fC fdC ["spacing", "position", "other"] spCnf := ok_cnf FC mAbs
  refine F.F.ok scCfb (fun vs H Q E h => ?_) (fun cdv A outer s H vs Q E hr h => ?_)
  · obtain ⟨a, sp, i, ps, rfl, _⟩ := h
    rfl
  · obtain ⟨a, sp, i, ps, rfl, hS, hi, q⟩ := h
    refine ⟨_, pss_cons (ps_set (i := 3) scCfb.nd rfl (Or.inl rfl) (pv 2))
      (pss_cons (ps_while PassesOwn.never (PW.pt (pw_and (pt_cmpR op_gt (pv 3) pe_int (nomark _))
          (pw_and1 (pt_val (pe_call GC hr (by rfl) FC.g FC.F.kp FC.b .nil pass0 (pa_cons (pv 0) (pa_cons (pe_ix (r := rIxL K) ix_list (pv 1) (pe_op op_sub (pv 3) pe_int) (fun _ _ => rfl)) (pa_cons (pe_ix (r := rIxL K) ix_list (pv 1) (pv 2) (fun _ _ => rfl)) pa_nil))))))))
        (pss_one (ps_set (i := 3) scCfb.nd rfl (Or.inl rfl) (pe_op op_sub (pv 3) pe_int))))
      (pss_one (ps_ret (pv 3)))), ?_⟩
    refine ⟨.int (i : Int), rfl, fun m σ H' => H' = H ∧ σ = [some (.int (sp : Int)), some (.ref a), some (.int (i : Int)), some (.int (m : Int))] ∧ m ≤ i ∧ freeR ps sp i m = freeR ps sp i i, ⟨i, rfl, rfl, Nat.le_refl _, rfl⟩, ?_⟩
    rintro m σ H' ⟨rfl, rfl, hm, ef⟩
    refine ⟨.int (m : Int), rfl, (m : Int), 0, rfl, rfl, _, rfl, ?_⟩
    cases m with
    | zero =>
      refine ite2 (fun c => absurd c (by decide)) (fun _ => ?_)
      show if false = true then _ else _
      refine iteF ?_
      refine ⟨.int ((0 : Nat) : Int), rfl, ?_⟩
      rw [← ef] at q
      exact q
    | succ c =>
      refine ite2 (fun _ => ?_) (fun z => absurd (decide_eq_true (by omega)) z)
      refine ⟨.int (sp : Int), rfl, .ref a, rfl, .int ((c + 1 : Nat) : Int), rfl, ((c + 1 : Nat) : Int), 1, rfl, rfl, a, _, _, _, rfl, rfl, hS, at_of (j := c) (by omega) (nat_at (by omega)), .ref a, rfl, .int (i : Int), rfl, a, _, _, _, rfl, rfl, hS, at_of (j := i) rfl (nat_at hi), (sp : Int), _, _, rfl, _, rfl, ?_⟩
      refine ite2 (fun z => ?_) (fun z => ?_)
      · refine ⟨fun σ' H'' => H'' = H' ∧ σ' = [some (.int (sp : Int)), some (.ref a), some (.int (i : Int)), some (.int (c : Int))] ∧ c ≤ i ∧ freeR ps sp i c = freeR ps sp i i, fun σ' H'' h => ⟨c, Nat.lt_succ_self c, h⟩, ?_⟩
        refine ⟨.int ((c + 1 : Nat) : Int), rfl, ((c + 1 : Nat) : Int), 1, rfl, rfl, rfl, ?_, by omega, ?_⟩
        · have e : ((c + 1 : Nat) : Int) - 1 = (c : Int) := by omega
          rw [← e]
          rfl
        · rw [← ef]
          show _ = if _ then _ else _
          rw [if_pos z]
      · have e : freeR ps sp i (c + 1) = c + 1 := by
          show (if _ then _ else _) = _
          rw [if_neg z]
        refine ⟨.int ((c + 1 : Nat) : Int), rfl, ?_⟩
        rw [← ef, e] at q
        exact q

end
end My
namespace My
open PySem PySem.Spec PyProof.Rows L2
section
variable {P : Program} {w : World} {K : PySem.W.Frag} {mg : Str → Option Value} {base : Heap}
/-! ### best_weight_and_mask -/
def spBwm (K : PySem.W.Frag) : Sp := fun vs H Q _ => ∃ (a b : Addr) (sp n : Nat) (ps ws : List Nat), vs = [.int (sp : Int), .ref a, .ref b] ∧ SqL K H a (natsV ps) ∧ SqL K H b (natsV ws) ∧ ps.length = n ∧ ws.length = n ∧ n ≤ 12 ∧
  (∀ i j, i < j → j < n → ps.getD i 0 < ps.getD j 0) ∧
  ∀ H' p bw bm, Same H H' → H p = none → DP ps ws n sp n bw bm → H' p = some (.lst [.int ((bw.getD n 0 : Nat) : Int), .int ((bm.getD n 0 : Nat) : Int)]) → Q (.ref p) H'
theorem ok_bwm {f fC : Addr} {fd fdC : FuncData} (F : Df K mg "best_weight_and_mask" sBwm ["spacing", "positions", "weights"] f fd) (FC : Df K mg "count_of_free_before" sCfb ["spacing", "positions", "index"] fC fdC)
    (GC : FnOk P w K mg base CX0 2 fC fdC ["spacing", "positions", "index"] (spCfb K)) (mRange : mg "range" = none) (mLen : mg "len" = none) : FnOk P w K mg base CX0 3 f fd ["spacing", "positions", "weights"] (spBwm K) := by
  refine F.F.ok scBwm (fun vs H Q E h => ?_) (fun cdv A outer s H vs Q E hr h => ?_)
  · obtain ⟨a, b, sp, n, ps, ws, rfl, _⟩ := h
    rfl
  · obtain ⟨a, b, sp, n, ps, ws, rfl, hA, hB, lp, lw, hn, up, q⟩ := h
    refine ⟨_, pss_cons (ps_set (i := 3) scBwm.nd rfl (Or.inl rfl) (pe_lst (pa_cons pe_int pa_nil)))
      (pss_cons (ps_set (i := 4) scBwm.nd rfl (Or.inl rfl) (pe_lst (pa_cons pe_int pa_nil)))
      (pss_cons (ps_for PassesOwn.never rfl (pi_range1 (by rfl) mRange (pa_cons (pe_callB call_len_seq (by rfl) mLen PySem.boot_len (pa_cons (pv 1) pa_nil)) pa_nil)) (pg_name (i := 5) scBwm.nd rfl (Or.inl rfl))
        (pss_cons (ps_set (i := 6) scBwm.nd rfl (Or.inl rfl) (pe_call GC hr (by rfl) FC.g FC.F.kp FC.b .nil pass0 (pa_cons (pv 0) (pa_cons (pv 1) (pa_cons (pv 5) pa_nil)))))
        (pss_cons (ps_set (i := 7) scBwm.nd rfl (Or.inl rfl) (pe_op op_add (pe_ix (r := rIxL K) ix_list (pv 3) (pv 6) (fun _ _ => rfl)) (pe_ix (r := rIxL K) ix_list (pv 2) (pv 5) (fun _ _ => rfl))))
        (pss_one (ps_if (pt_cmpR op_gt (pv 7) (pe_ix (r := rIxL K) ix_list (pv 3) (pv 5) (fun _ _ => rfl)) (nomark _))
          (pss_cons (ps_expr (pe_bm PySem.F.plainAttrs_list PySem.F.slot_list_append PySem.F.type_list_append mt_append (pv 3) (pa_cons (pv 7) pa_nil)))
          (pss_one (ps_expr (pe_bm PySem.F.plainAttrs_list PySem.F.slot_list_append PySem.F.type_list_append mt_append (pv 4) (pa_cons (pe_op op_or (pe_ix (r := rIxL K) ix_list (pv 4) (pv 6) (fun _ _ => rfl)) (pe_op op_shl pe_int (pv 5))) pa_nil)))))
          (pss_cons (ps_expr (pe_bm PySem.F.plainAttrs_list PySem.F.slot_list_append PySem.F.type_list_append mt_append (pv 3) (pa_cons (pe_ix (r := rIxL K) ix_list (pv 3) (pv 5) (fun _ _ => rfl)) pa_nil)))
          (pss_one (ps_expr (pe_bm PySem.F.plainAttrs_list PySem.F.slot_list_append PySem.F.type_list_append mt_append (pv 4) (pa_cons (pe_ix (r := rIxL K) ix_list (pv 4) (pv 5) (fun _ _ => rfl)) pa_nil))))))))))
      (pss_one (ps_ret (pe_lst (pa_cons (pe_ix (r := rIxL K) ix_list (pv 3) (pe_un un_neg pe_int) (fun _ _ => rfl)) (pa_cons (pe_ix (r := rIxL K) ix_list (pv 4) (pe_un un_neg pe_int) (fun _ _ => rfl)) pa_nil))))))), ?_⟩
    refine ⟨(by show 1 ≤ sizeLine; decide), fun x nx => ?_⟩
    refine ⟨(by show 1 ≤ sizeLine; decide), fun y ny => ?_⟩
    have nyx : y ≠ x := fun e => by
      rw [e, upd_same] at ny
      cases ny
    have ny0 : H y = none := by
      rw [upd_ne nyx] at ny
      exact ny
    have s0 : Same H (upd (upd H x (.lst [.int 0])) y (.lst [.int 0])) := same_upd2 (same_upd nx) ny0
    have elp : (natsV ps).length = n := by rw [nats_length, lp]
    refine ⟨.ref a, rfl, a, natsV ps, rfl, .inl (s0.seq hA), _, rfl, by omega, by omega, ?_⟩
    rw [elp, Int.toNat_natCast]
    refine for_range (lo := 0) (n := n) (fun i σ H' => ∃ bw bm v5 v6 v7, σ = [some (.int (sp : Int)), some (.ref a), some (.ref b), some (.ref x), some (.ref y), v5, v6, v7] ∧ Same H H' ∧ H' x = some (.lst (natsV bw)) ∧ H' y = some (.lst (natsV bm)) ∧ DP ps ws n sp i bw bm)
      ⟨[0], [0], none, none, none, rfl, s0, by rw [upd_ne nyx.symm, upd_same]; rfl, upd_same, dp_start⟩ ?_ ?_
    · rintro i σ H' hi ⟨bw, bm, v5, v6, v7, rfl, sm, ex, ey, dp⟩
      have e0 : (0 : Int) + (i : Int) = (i : Int) := Int.zero_add _
      rw [e0]
      have hX : SqL K H' x (natsV bw) := .inl (.inl ex)
      have hY : SqL K H' y (natsV bm) := .inl (.inl ey)
      have hA' := sm.seq hA
      have hB' := sm.seq hB
      have hf := freeR_le (ps := ps) (sp := sp) (i := i) i
      have lbw := dp.lw
      have lbm := dp.lm
      refine ⟨.int (sp : Int), rfl, .ref a, rfl, .int (i : Int), rfl, a, sp, i, ps, rfl, hA', by omega, ?_⟩
      generalize efr : freeR ps sp i i = fr at hf
      refine ⟨.ref x, rfl, .int (fr : Int), rfl, x, _, _, _, rfl, rfl, hX, at_of (j := fr) rfl (nat_at (by omega)), .ref b, rfl, .int (i : Int), rfl, b, _, _, _, rfl, rfl, hB', at_of (j := i) rfl (nat_at (by omega)), _, _, rfl, rfl, ?_⟩
      refine ⟨_, rfl, .ref x, rfl, .int (i : Int), rfl, x, _, _, _, rfl, rfl, hX, at_of (j := i) rfl (nat_at (by omega)), _, _, rfl, rfl, _, rfl, ?_⟩
      have hz : ∀ {l : List Nat}, l.length = i + 1 → (natsV l).length < sizeLine := fun {l} h => by
        rw [nats_length, h]
        exact small (by omega)
      refine ite2 (fun c => ?_) (fun c => ?_)
      · have lt : bw.getD i 0 < bw.getD fr 0 + ws.getD i 0 := by
          have := of_decide_eq_true c
          omega
        refine ⟨.ref x, rfl, .inl ⟨rfl, _, hX⟩, _, rfl, x, _, _, rfl, rfl, ex, hz lbw, ?_⟩
        have ey2 : (upd H' x (.lst (natsV bw ++ [.int (((bw.getD fr 0 : Nat) : Int) + ((ws.getD i 0 : Nat) : Int))]))) y = some (.lst (natsV bm)) := by
          rw [upd_ne nyx]
          exact ey
        refine ⟨.ref y, rfl, .inl ⟨rfl, _, .inl (.inl ey2)⟩, .ref y, rfl, .int (fr : Int), rfl, y, _, _, _, rfl, rfl, .inl (.inl ey2), at_of (j := fr) rfl (nat_at (by omega)), .int (i : Int), rfl, 1, (i : Int), rfl, rfl, ⟨by omega, by omega, by decide⟩, _, _, rfl, rfl, y, _, _, rfl, rfl, ey2, hz lbm, ?_⟩
        refine ⟨_, _, _, _, _, rfl, same_upd2 (same_upd2 sm nx) ny0, ?_, ?_, dp_take dp up hi (by rw [efr]; exact lt)⟩
        · rw [upd_ne nyx.symm, upd_same, ← nats_app, efr]
          rfl
        · rw [upd_same, ← nats_app, efr, ← or_nat]
      · have ge : ¬ bw.getD i 0 < bw.getD fr 0 + ws.getD i 0 := fun z => c (decide_eq_true (by omega))
        refine ⟨.ref x, rfl, .inl ⟨rfl, _, hX⟩, .ref x, rfl, .int (i : Int), rfl, x, _, _, _, rfl, rfl, hX, at_of (j := i) rfl (nat_at (by omega)), x, _, _, rfl, rfl, ex, hz lbw, ?_⟩
        have ey2 : (upd H' x (.lst (natsV bw ++ [.int ((bw.getD i 0 : Nat) : Int)]))) y = some (.lst (natsV bm)) := by
          rw [upd_ne nyx]
          exact ey
        refine ⟨.ref y, rfl, .inl ⟨rfl, _, .inl (.inl ey2)⟩, .ref y, rfl, .int (i : Int), rfl, y, _, _, _, rfl, rfl, .inl (.inl ey2), at_of (j := i) rfl (nat_at (by omega)), y, _, _, rfl, rfl, ey2, hz lbm, ?_⟩
        refine ⟨_, _, _, _, _, rfl, same_upd2 (same_upd2 sm nx) ny0, ?_, ?_, dp_skip dp up hi (by rw [efr]; exact ge)⟩
        · rw [upd_ne nyx.symm, upd_same, ← nats_app]
        · rw [upd_same, ← nats_app]
    · rintro σ H' ⟨bw, bm, v5, v6, v7, rfl, sm, ex, ey, dp⟩
      refine ⟨.ref x, rfl, 1, rfl, x, _, -1, _, rfl, rfl, .inl (.inl ex), last_is dp.lw, .ref y, rfl, 1, rfl, y, _, -1, _, rfl, rfl, .inl (.inl ey), last_is dp.lm, (by show 2 ≤ sizeLine; decide), fun p np => ?_⟩
      exact q _ p bw bm (sm.trans (same_upd np)) (sm.free np) dp upd_same
end
end My
namespace My
open PySem PySem.Spec PyProof.Rows L2
section
variable {P : Program} {w : World} {K : PySem.W.Frag} {mg : Str → Option Value} {base : Heap}
/-! ### best_selection -/
theorem bes_is (sp : Nat) (flat : List Nat) : PyKs591.best_selection (sp : Int) (flat.map Int.ofNat) = Ks591Neutral.integers (Ks591.answer (.bestSelection sp flat)) := by
  have e : (flat.map Int.ofNat).map Int.toNat = flat := by
    rw [List.map_map]
    exact List.map_id' flat
  show Ks591Neutral.integers (Ks591.answer (.bestSelection (sp : Int).toNat ((flat.map Int.ofNat).map Int.toNat))) = _
  rw [e, Int.toNat_natCast]
def spBes (K : PySem.W.Frag) : Sp := fun vs H Q _ => ∃ (a : Addr) (sp : Nat) (flat : List Nat), vs = [.int (sp : Int), .ref a] ∧ SqL K H a (natsV flat) ∧ flat.length ≤ 27 ∧
  ∀ H' p, H' p = some (.lst ((PyKs591.best_selection (sp : Int) (flat.map Int.ofNat)).map V.int)) → Q (.ref p) H'
theorem ok_bes {f fL fO fP fW fB : Addr} {fd fdL fdO fdP fdW fdB : FuncData} (F : Df K mg "best_selection" sBes ["spacing", "points"] f fd) (FL : Df K mg "are_within_limits" sWil ["spacing", "points"] fL fdL) (FO : Df K mg "out_of_limits" sOut [] fO fdO)
    (FP : Df K mg "positions_of" sPos ["points"] fP fdP) (FW : Df K mg "weights_of" sWts ["points"] fW fdW) (FB : Df K mg "best_weight_and_mask" sBwm ["spacing", "positions", "weights"] fB fdB)
    (GL : FnOk P w K mg base CX0 3 fL fdL ["spacing", "points"] (spWil K)) (GB : FnOk P w K mg base CX0 3 fB fdB ["spacing", "positions", "weights"] (spBwm K)) :
    FnOk P w K mg base CX0 4 f fd ["spacing", "points"] (spBes K) := by
  have GO : FnOk P w K mg base CX0 1 fO fdO [] spOut := ok_out FO
  have GP : FnOk P w K mg base CX0 1 fP fdP ["points"] (spCut K 0) := ok_pos FP
  have GW : FnOk P w K mg base CX0 1 fW fdW ["points"] (spCut K 1) := ok_wts FW
  refine F.F.ok scBes (fun vs H Q E h => ?_) (fun cdv A outer s H vs Q E hr h => ?_)
  · obtain ⟨a, sp, flat, rfl, _⟩ := h
    rfl
  · obtain ⟨a, sp, flat, rfl, hS, hlen, q⟩ := h
    have hr1 : Room 1 _ := hr.mono (by decide)
    refine ⟨_, pss_cons (ps_if (pt_not (pt_val (pe_call GL hr (by rfl) FL.g FL.F.kp FL.b .nil pass0 (pa_cons (pv 0) (pa_cons (pv 1) pa_nil))))) (pss_one (ps_ret (pe_call0 GO hr1 (by rfl) FO.g FO.F.kp FO.b .nil pass0))) pss_nil)
      (pss_one (ps_ret (pe_call GB hr (by rfl) FB.g FB.F.kp FB.b .nil pass0 (pa_cons (pv 0) (pa_cons (pe_call GP hr1 (by rfl) FP.g FP.F.kp FP.b .nil pass0 (pa_cons (pv 1) pa_nil)) (pa_cons (pe_call GW hr1 (by rfl) FW.g FW.F.kp FW.b .nil pass0 (pa_cons (pv 1) pa_nil)) pa_nil)))))), ?_⟩
    rw [bes_is] at q
    refine ⟨.int (sp : Int), rfl, .ref a, rfl, a, (sp : Int), flat.map Int.ofNat, rfl, (by rw [← nats_is]; exact hS), (by rw [List.length_map]; exact hlen), fun H1 s1 => ⟨_, rfl, ?_⟩⟩
    show if (!okAll sp flat) = true then _ else _
    cases bo : okAll sp flat with
    | false =>
      refine ⟨rfl, fun H2 p s2 np ep => ?_⟩
      refine q H2 p ?_
      show H2 p = some (.lst ((Ks591Neutral.integers (Ks591.withPoints sp flat _)).map V.int))
      rw [all_bad bo]
      exact ep
    | true =>
      obtain ⟨ea, ok, h1, h2⟩ := all_good (f := fun points => { value := Ks591.weightOf points (Ks591.bestSelection points sp), rest := [Ks591.bestSelection points sp] }) bo
      have PT := pts_of ok
      generalize hn : flat.length / 2 = n at PT
      generalize hps : evens flat = ps at PT
      generalize hws : odds flat = ws at PT
      refine ⟨.int (sp : Int), rfl, .ref a, rfl, a, natsV flat, rfl, s1.seq hS, fun H2 p s2 np ep => ?_⟩
      rw [evens_nats, hps] at ep
      have s02 : Same H H2 := s1.trans s2
      refine ⟨.ref a, rfl, a, natsV flat, rfl, s02.seq hS, fun H3 u s3 nu eu => ?_⟩
      rw [odds_nats, hws] at eu
      refine ⟨p, u, sp, n, ps, ws, rfl, s3.seq (.inl (.inl ep)), .inl (.inl eu), PT.lp, PT.lw, PT.most, PT.up, fun H4 r bw bm s4 nr dp er => ?_⟩
      obtain ⟨e1, e2⟩ := dp_end PT dp
      refine q H4 r ?_
      show H4 r = some (.lst ((Ks591Neutral.integers (Ks591.withPoints sp flat _)).map V.int))
      rw [ea, er, e1, e2]
      rfl
end
end My
namespace My
open PySem PySem.Spec PyProof.Rows L2
theorem all_mk {P : Program} {w : World} {K : PySem.W.Frag} {h : Heap} {mg : Str → Option Value} {fa : Addr} (X : K.In h) (G : h.Ns mainGlobals mg) (hfa : mg "best_selection" = some (.ref fa))
    {fOut fPos fWts fBtw fInc fArp fWil fCnf fCfb fBwm fBes : Addr} {odOut anOut odPos anPos odWts anWts odBtw anBtw odInc anInc odArp anArp odWil anWil odCnf anCnf odCfb anCfb odBwm anBwm odBes anBes : Option Addr} {slOut slPos slWts slBtw slInc slArp slWil slCnf slCfb slBwm slBes : Array (Option Value)} {ocOut kVOut dcOut pmOut cdOut ctOut ocPos kVPos dcPos pmPos cdPos ctPos ocWts kVWts dcWts pmWts cdWts ctWts ocBtw kVBtw dcBtw pmBtw cdBtw ctBtw ocInc kVInc dcInc pmInc cdInc ctInc ocArp kVArp dcArp pmArp cdArp ctArp ocWil kVWil dcWil pmWil cdWil ctWil ocCnf kVCnf dcCnf pmCnf cdCnf ctCnf ocCfb kVCfb dcCfb pmCfb cdCfb ctCfb ocBwm kVBwm dcBwm pmBwm cdBwm ctBwm ocBes kVBes dcBes pmBes cdBes ctBes : Value} {tLS tMS tMP tMQ tMW : Tok}
    (aOut : PySem.W.nsIn K mainGlobals "out_of_limits" = some (some (.ref fOut))) (lOut : K.lookup fOut = some ⟨ocOut, odOut, .func (PySem.W.fnOf "out_of_limits" "out_of_limits" (defArgs sOut) (defBody sOut) (defScope sOut) .none kVOut dcOut pmOut anOut cdOut ctOut), slOut⟩) (cOut : PySem.W.codeIn K cdOut "out_of_limits" = true) (kOut : PySem.W.keepIn K (.ref fOut) = true)
    (aPos : PySem.W.nsIn K mainGlobals "positions_of" = some (some (.ref fPos))) (lPos : K.lookup fPos = some ⟨ocPos, odPos, .func (PySem.W.fnOf "positions_of" "positions_of" (defArgs sPos) (defBody sPos) (defScope sPos) .none kVPos dcPos pmPos anPos cdPos ctPos), slPos⟩) (cPos : PySem.W.codeIn K cdPos "positions_of" = true) (kPos : PySem.W.keepIn K (.ref fPos) = true)
    (aWts : PySem.W.nsIn K mainGlobals "weights_of" = some (some (.ref fWts))) (lWts : K.lookup fWts = some ⟨ocWts, odWts, .func (PySem.W.fnOf "weights_of" "weights_of" (defArgs sWts) (defBody sWts) (defScope sWts) .none kVWts dcWts pmWts anWts cdWts ctWts), slWts⟩) (cWts : PySem.W.codeIn K cdWts "weights_of" = true) (kWts : PySem.W.keepIn K (.ref fWts) = true)
    (aBtw : PySem.W.nsIn K mainGlobals "are_between" = some (some (.ref fBtw))) (lBtw : K.lookup fBtw = some ⟨ocBtw, odBtw, .func (PySem.W.fnOf "are_between" "are_between" (defArgs sBtw) (defBody sBtw) (defScope sBtw) .none kVBtw dcBtw pmBtw anBtw cdBtw ctBtw), slBtw⟩) (cBtw : PySem.W.codeIn K cdBtw "are_between" = true) (kBtw : PySem.W.keepIn K (.ref fBtw) = true)
    (aInc : PySem.W.nsIn K mainGlobals "are_increasing" = some (some (.ref fInc))) (lInc : K.lookup fInc = some ⟨ocInc, odInc, .func (PySem.W.fnOf "are_increasing" "are_increasing" (defArgs sInc) (defBody sInc) (defScope sInc) .none kVInc dcInc pmInc anInc cdInc ctInc), slInc⟩) (cInc : PySem.W.codeIn K cdInc "are_increasing" = true) (kInc : PySem.W.keepIn K (.ref fInc) = true)
    (aArp : PySem.W.nsIn K mainGlobals "are_points" = some (some (.ref fArp))) (lArp : K.lookup fArp = some ⟨ocArp, odArp, .func (PySem.W.fnOf "are_points" "are_points" (defArgs sArp) (defBody sArp) (defScope sArp) .none kVArp dcArp pmArp anArp cdArp ctArp), slArp⟩) (cArp : PySem.W.codeIn K cdArp "are_points" = true) (kArp : PySem.W.keepIn K (.ref fArp) = true)
    (aWil : PySem.W.nsIn K mainGlobals "are_within_limits" = some (some (.ref fWil))) (lWil : K.lookup fWil = some ⟨ocWil, odWil, .func (PySem.W.fnOf "are_within_limits" "are_within_limits" (defArgs sWil) (defBody sWil) (defScope sWil) .none kVWil dcWil pmWil anWil cdWil ctWil), slWil⟩) (cWil : PySem.W.codeIn K cdWil "are_within_limits" = true) (kWil : PySem.W.keepIn K (.ref fWil) = true)
    (aCnf : PySem.W.nsIn K mainGlobals "in_conflict" = some (some (.ref fCnf))) (lCnf : K.lookup fCnf = some ⟨ocCnf, odCnf, .func (PySem.W.fnOf "in_conflict" "in_conflict" (defArgs sCnf) (defBody sCnf) (defScope sCnf) .none kVCnf dcCnf pmCnf anCnf cdCnf ctCnf), slCnf⟩) (cCnf : PySem.W.codeIn K cdCnf "in_conflict" = true) (kCnf : PySem.W.keepIn K (.ref fCnf) = true)
    (aCfb : PySem.W.nsIn K mainGlobals "count_of_free_before" = some (some (.ref fCfb))) (lCfb : K.lookup fCfb = some ⟨ocCfb, odCfb, .func (PySem.W.fnOf "count_of_free_before" "count_of_free_before" (defArgs sCfb) (defBody sCfb) (defScope sCfb) .none kVCfb dcCfb pmCfb anCfb cdCfb ctCfb), slCfb⟩) (cCfb : PySem.W.codeIn K cdCfb "count_of_free_before" = true) (kCfb : PySem.W.keepIn K (.ref fCfb) = true)
    (aBwm : PySem.W.nsIn K mainGlobals "best_weight_and_mask" = some (some (.ref fBwm))) (lBwm : K.lookup fBwm = some ⟨ocBwm, odBwm, .func (PySem.W.fnOf "best_weight_and_mask" "best_weight_and_mask" (defArgs sBwm) (defBody sBwm) (defScope sBwm) .none kVBwm dcBwm pmBwm anBwm cdBwm ctBwm), slBwm⟩) (cBwm : PySem.W.codeIn K cdBwm "best_weight_and_mask" = true) (kBwm : PySem.W.keepIn K (.ref fBwm) = true)
    (aBes : PySem.W.nsIn K mainGlobals "best_selection" = some (some (.ref fBes))) (lBes : K.lookup fBes = some ⟨ocBes, odBes, .func (PySem.W.fnOf "best_selection" "best_selection" (defArgs sBes) (defBody sBes) (defScope sBes) .none kVBes dcBes pmBes anBes cdBes ctBes), slBes⟩) (cBes : PySem.W.codeIn K cdBes "best_selection" = true) (kBes : PySem.W.keepIn K (.ref fBes) = true)
    (nLS : PySem.W.nsIn K mainGlobals "LEAST_SPACING" = some (some (.int 1 tLS)))
    (nMS : PySem.W.nsIn K mainGlobals "MOST_SPACING" = some (some (.int 999 tMS)))
    (nMP : PySem.W.nsIn K mainGlobals "MOST_POINTS" = some (some (.int 12 tMP)))
    (nMQ : PySem.W.nsIn K mainGlobals "MOST_POSITION" = some (some (.int 999 tMQ)))
    (nMW : PySem.W.nsIn K mainGlobals "MOST_WEIGHT" = some (some (.int 99 tMW)))
    (zall : PySem.W.nsIn K mainGlobals "all" = some none)
    (zrange : PySem.W.nsIn K mainGlobals "range" = some none)
    (zlen : PySem.W.nsIn K mainGlobals "len" = some none)
    (zabs : PySem.W.nsIn K mainGlobals "abs" = some none)
    : ∃ fd : FuncData, (∀ (s : Shared) (us : List Value), us.length = (["spacing", "points"] : List Str).length → BindsTo s fd ⟨us, []⟩ ((["spacing", "points"] : List Str).zip us)) ∧ ∀ base : Heap, K.In base → base.Ns mainGlobals mg → FnOk P w K mg base CX0 4 fa fd ["spacing", "points"] (spBes K) := by
  have e := hfa.symm.trans (PySem.W.mg_of X G aBes)
  cases e
  have FOut := fun_mk (st := sOut) lOut cOut kOut
  have DOut : Df K mg "out_of_limits" sOut [] _ _ := ⟨FOut, FOut.binds (ps := []) (fun _ _ _ _ _ _ us hl => match us, hl with | [], _ => rfl), PySem.W.mg_of X G aOut⟩
  have FPos := fun_mk (st := sPos) lPos cPos kPos
  have DPos : Df K mg "positions_of" sPos ["points"] _ _ := ⟨FPos, FPos.binds (ps := ["points"]) (fun _ _ _ _ _ _ us hl => match us, hl with | [_], _ => rfl), PySem.W.mg_of X G aPos⟩
  have FWts := fun_mk (st := sWts) lWts cWts kWts
  have DWts : Df K mg "weights_of" sWts ["points"] _ _ := ⟨FWts, FWts.binds (ps := ["points"]) (fun _ _ _ _ _ _ us hl => match us, hl with | [_], _ => rfl), PySem.W.mg_of X G aWts⟩
  have FBtw := fun_mk (st := sBtw) lBtw cBtw kBtw
  have DBtw : Df K mg "are_between" sBtw ["numbers", "least", "most"] _ _ := ⟨FBtw, FBtw.binds (ps := ["numbers", "least", "most"]) (fun _ _ _ _ _ _ us hl => match us, hl with | [_, _, _], _ => rfl), PySem.W.mg_of X G aBtw⟩
  have FInc := fun_mk (st := sInc) lInc cInc kInc
  have DInc : Df K mg "are_increasing" sInc ["numbers"] _ _ := ⟨FInc, FInc.binds (ps := ["numbers"]) (fun _ _ _ _ _ _ us hl => match us, hl with | [_], _ => rfl), PySem.W.mg_of X G aInc⟩
  have FArp := fun_mk (st := sArp) lArp cArp kArp
  have DArp : Df K mg "are_points" sArp ["points"] _ _ := ⟨FArp, FArp.binds (ps := ["points"]) (fun _ _ _ _ _ _ us hl => match us, hl with | [_], _ => rfl), PySem.W.mg_of X G aArp⟩
  have FWil := fun_mk (st := sWil) lWil cWil kWil
  have DWil : Df K mg "are_within_limits" sWil ["spacing", "points"] _ _ := ⟨FWil, FWil.binds (ps := ["spacing", "points"]) (fun _ _ _ _ _ _ us hl => match us, hl with | [_, _], _ => rfl), PySem.W.mg_of X G aWil⟩
  have FCnf := fun_mk (st := sCnf) lCnf cCnf kCnf
  have DCnf : Df K mg "in_conflict" sCnf ["spacing", "position", "other"] _ _ := ⟨FCnf, FCnf.binds (ps := ["spacing", "position", "other"]) (fun _ _ _ _ _ _ us hl => match us, hl with | [_, _, _], _ => rfl), PySem.W.mg_of X G aCnf⟩
  have FCfb := fun_mk (st := sCfb) lCfb cCfb kCfb
  have DCfb : Df K mg "count_of_free_before" sCfb ["spacing", "positions", "index"] _ _ := ⟨FCfb, FCfb.binds (ps := ["spacing", "positions", "index"]) (fun _ _ _ _ _ _ us hl => match us, hl with | [_, _, _], _ => rfl), PySem.W.mg_of X G aCfb⟩
  have FBwm := fun_mk (st := sBwm) lBwm cBwm kBwm
  have DBwm : Df K mg "best_weight_and_mask" sBwm ["spacing", "positions", "weights"] _ _ := ⟨FBwm, FBwm.binds (ps := ["spacing", "positions", "weights"]) (fun _ _ _ _ _ _ us hl => match us, hl with | [_, _, _], _ => rfl), PySem.W.mg_of X G aBwm⟩
  have FBes := fun_mk (st := sBes) lBes cBes kBes
  have DBes : Df K mg "best_selection" sBes ["spacing", "points"] _ _ := ⟨FBes, FBes.binds (ps := ["spacing", "points"]) (fun _ _ _ _ _ _ us hl => match us, hl with | [_, _], _ => rfl), PySem.W.mg_of X G aBes⟩
  have CLS := PySem.W.mg_of X G nLS
  have CMS := PySem.W.mg_of X G nMS
  have CMP := PySem.W.mg_of X G nMP
  have CMQ := PySem.W.mg_of X G nMQ
  have CMW := PySem.W.mg_of X G nMW
  have mall : mg "all" = none := PySem.W.mg_none_of X G zall
  have mrange : mg "range" = none := PySem.W.mg_none_of X G zrange
  have mlen : mg "len" = none := PySem.W.mg_none_of X G zlen
  have mabs : mg "abs" = none := PySem.W.mg_none_of X G zabs
  exact ⟨PySem.W.fnOf "best_selection" "best_selection" (defArgs sBes) (defBody sBes) (defScope sBes) .none kVBes dcBes pmBes anBes cdBes ctBes, fun s us hu => match us, hu with | [_, _], _ => .of_eq rfl, fun base _ _ => by
    have GA := ok_arp (P := P) (w := w) (base := base) DArp DPos DWts DBtw DInc mall mrange mlen CMP CMQ CMW
    have GL := ok_wil DWil DArp GA CLS CMS
    have GC := ok_cfb (P := P) (w := w) (base := base) DCfb DCnf mabs
    have GB := ok_bwm DBwm DCfb GC mrange mlen
    exact ok_bes DBes DWil DOut DPos DWts DBwm GL GB⟩
end My
open PySem PySem.W PyProof.Rows
set_option maxRecDepth 100000 in
set_option maxHeartbeats 8000000 in
theorem PySem.Challenge.cw_spreadpicks_s01_best_selection_holds : PySem.Challenge.rw_spreadpicks_s01_best_selection.Holds := by
  w_on; k_headS; (case hw => exact ⟨[.int 1, .list []], by decide +kernel, by decide +kernel⟩)
  k_fillS
  refine L2.walk_specK (r := PySem.Challenge.rw_spreadpicks_s01_best_selection) (k := 4) (CX := L2.CX0) (ps := ["spacing", "points"]) (sp := My.spBes) (by decide +kernel) rfl rfl ⟨rfl, by decide, by decide⟩ (fun w h Y => PySem.W.kIn_of Y) ?F ?S (fun _ _ _ _ z => z)
  case F =>
    intro w mg fa h Y KX G hmg
    refine' My.all_mk KX G hmg ?aOut ?lOut ?cOut ?kOut ?aPos ?lPos ?cPos ?kPos ?aWts ?lWts ?cWts ?kWts ?aBtw ?lBtw ?cBtw ?kBtw ?aInc ?lInc ?cInc ?kInc ?aArp ?lArp ?cArp ?kArp ?aWil ?lWil ?cWil ?kWil ?aCnf ?lCnf ?cCnf ?kCnf ?aCfb ?lCfb ?cCfb ?kCfb ?aBwm ?lBwm ?cBwm ?kBwm ?aBes ?lBes ?cBes ?kBes ?nLS ?nMS ?nMP ?nMQ ?nMW ?zall ?zrange ?zlen ?zabs
    (case aOut => k_is)
    (case lOut => k_is)
    (case cOut => k_is)
    (case kOut => k_is)
    (case aPos => k_is)
    (case lPos => k_is)
    (case cPos => k_is)
    (case kPos => k_is)
    (case aWts => k_is)
    (case lWts => k_is)
    (case cWts => k_is)
    (case kWts => k_is)
    (case aBtw => k_is)
    (case lBtw => k_is)
    (case cBtw => k_is)
    (case kBtw => k_is)
    (case aInc => k_is)
    (case lInc => k_is)
    (case cInc => k_is)
    (case kInc => k_is)
    (case aArp => k_is)
    (case lArp => k_is)
    (case cArp => k_is)
    (case kArp => k_is)
    (case aWil => k_is)
    (case lWil => k_is)
    (case cWil => k_is)
    (case kWil => k_is)
    (case aCnf => k_is)
    (case lCnf => k_is)
    (case cCnf => k_is)
    (case kCnf => k_is)
    (case aCfb => k_is)
    (case lCfb => k_is)
    (case cCfb => k_is)
    (case kCfb => k_is)
    (case aBwm => k_is)
    (case lBwm => k_is)
    (case cBwm => k_is)
    (case kBwm => k_is)
    (case aBes => k_is)
    (case lBes => k_is)
    (case cBes => k_is)
    (case kBes => k_is)
    (case nLS => k_is)
    (case nMS => k_is)
    (case nMP => k_is)
    (case nMQ => k_is)
    (case nMW => k_is)
    (case zall => k_is)
    (case zrange => k_is)
    (case zlen => k_is)
    (case zabs => k_is)
  case S =>
    intro K H xs a hO hwi hask hx
    obtain ⟨i0, l, u⟩ := a
    have q : (Codec.inInt 0 4294967295 i0 && ((Codec.inLen 0 27 l && l.all (Codec.inInt 0 4294967295)) && true)) = true := hwi
    rw [Bool.and_eq_true, Bool.and_eq_true, Bool.and_eq_true] at q
    obtain ⟨q0, ⟨ql, qa⟩, _⟩ := q
    obtain ⟨i0, rfl⟩ := My.nat_of q0
    obtain ⟨l, rfl⟩ := My.nats_of qa
    cases hx with
    | cons h0 t0 =>
      cases h0
      cases t0 with
      | cons hl tl =>
        cases tl
        cases hl with
        | lst hs ha =>
          have e := L2.ints_dw _ _ ha
          subst e
          exact ⟨_, i0, l, rfl, (by rw [My.nats_is]; exact hs), (by have := (Codec.inNat_iff.mp ql).2; rw [List.length_map] at this; exact this), fun H' p hp => .lst (L2.SqL.of hp) (L2.dw_ints _)⟩
#print axioms PySem.Challenge.cw_spreadpicks_s01_best_selection_holds
