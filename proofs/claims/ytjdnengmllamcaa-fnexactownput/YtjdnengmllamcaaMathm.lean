/-
  Purses as plain mathematics: whether they are ok, what somebody has, what it is to turn one, to move money, to sum up.
-/
import Derived.Test.YtjdnengmllamcaaMath
namespace Go.Proofs.Ytjdnengmllamcaa.Tm

def monOk (p : List Int) : Bool := decide (p.length = 5) && p.all (fun x => decide (0 ≤ x ∧ x ≤ 100000))
theorem monOk_iff {p : List Int} : monOk p = true ↔ p.length = 5 ∧ ∀ x ∈ p, 0 ≤ x ∧ x ≤ 100000 := by
  unfold monOk; rw [Bool.and_eq_true, decide_eq_true_iff, List.all_eq_true]
  exact ⟨fun h => ⟨h.1, fun x hx => by simpa using h.2 x hx⟩, fun h => ⟨h.1, fun x hx => by simpa using h.2 x hx⟩⟩
theorem monOk_len {p : List Int} (h : p.length ≠ 5) : monOk p = false := by rw [← Bool.not_eq_true, monOk_iff]; exact fun e => h e.1
theorem monOk_at {p : List Int} {k : Nat} (hk : k < p.length) (h : ¬ (0 ≤ p.getD k 0 ∧ p.getD k 0 ≤ 100000)) : monOk p = false := by
  rw [← Bool.not_eq_true, monOk_iff]; intro e
  refine h (e.2 _ ?_)
  simp [List.getD, List.getElem?_eq_getElem hk]
theorem monOk_all {p : List Int} (hl : p.length = 5) (h : ∀ j, j < p.length → 0 ≤ p.getD j 0 ∧ p.getD j 0 ≤ 100000) : monOk p = true := by
  rw [monOk_iff]
  refine ⟨hl, fun x hx => ?_⟩
  obtain ⟨j, hj, rfl⟩ := List.getElem_of_mem hx
  have := h j hj
  simpa [List.getD, List.getElem?_eq_getElem hj] using this
theorem monOk_get {p : List Int} (h : monOk p = true) {j : Nat} (hj : j < 5) : 0 ≤ p.getD j 0 ∧ p.getD j 0 ≤ 100000 := by
  rw [monOk_iff] at h
  refine h.2 _ ?_
  have : j < p.length := by omega
  simp [List.getD, List.getElem?_eq_getElem this]
/-- what somebody has -/
def has (p : List Int) (u : Int) : Int := p.getD (u - 1).toNat 0
theorem has_nat (p : List Int) (j : Nat) : has p ((j : Int) + 1) = p.getD j 0 := by
  unfold has
  rw [show ((j : Int) + 1 - 1).toNat = j by omega]
def monHas (p : List Int) (u : Int) : Int := if monOk p = true ∧ 1 ≤ u ∧ u ≤ 5 then has p u else 0
theorem monHas_of {p : List Int} {u : Int} (h : monOk p = true) (hu : 1 ≤ u ∧ u ≤ 5) : monHas p u = has p u := by unfold monHas; rw [if_pos ⟨h, hu⟩]
theorem monHas_no {p : List Int} {u : Int} (h : ¬ (monOk p = true ∧ 1 ≤ u ∧ u ≤ 5)) : monHas p u = 0 := by unfold monHas; rw [if_neg h]
def turnOk (p : List Int) (u n : Int) : Bool := decide (monOk p = true ∧ (1 ≤ u ∧ u ≤ 5) ∧ (-100000 ≤ n ∧ n ≤ 100000) ∧ 0 ≤ has p u + n ∧ has p u + n ≤ 100000)
theorem turnOk_iff {p : List Int} {u n : Int} : turnOk p u n = true ↔ monOk p = true ∧ (1 ≤ u ∧ u ≤ 5) ∧ (-100000 ≤ n ∧ n ≤ 100000) ∧ 0 ≤ has p u + n ∧ has p u + n ≤ 100000 := by unfold turnOk; rw [decide_eq_true_iff]
theorem turnOk_no {p : List Int} {u n : Int} (h : ¬ (monOk p = true ∧ (1 ≤ u ∧ u ≤ 5) ∧ (-100000 ≤ n ∧ n ≤ 100000) ∧ 0 ≤ has p u + n ∧ has p u + n ≤ 100000)) : turnOk p u n = false := by unfold turnOk; rw [decide_eq_false_iff_not]; exact h
def turnSet (p : List Int) (u n : Int) : List Int := p.set (u - 1).toNat (has p u + n)
def monTurn (p : List Int) (u n : Int) : List Int := if turnOk p u n = true then turnSet p u n else p
theorem monTurn_of {p : List Int} {u n : Int} (h : turnOk p u n = true) : monTurn p u n = turnSet p u n := by unfold monTurn; rw [if_pos h]
theorem monTurn_no {p : List Int} {u n : Int} (h : turnOk p u n = false) : monTurn p u n = p := by unfold monTurn; rw [if_neg (by simp [h])]
theorem turnSet_len (p : List Int) (u n : Int) : (turnSet p u n).length = p.length := by unfold turnSet; rw [List.length_set]
theorem monTurn_len (p : List Int) (u n : Int) : (monTurn p u n).length = p.length := by unfold monTurn; split; exact turnSet_len p u n; rfl
theorem getD_set {p : List Int} {j k : Nat} {x : Int} (hj : j < p.length) : (p.set j x).getD k 0 = if k = j then x else p.getD k 0 := by
  by_cases e : k = j
  · subst e; rw [if_pos rfl]; simp [List.getD, hj]
  · rw [if_neg e]; simp [List.getD, Ne.symm e]
theorem has_turnSet {p : List Int} {u v n : Int} (hl : p.length = 5) (hu : 1 ≤ u ∧ u ≤ 5) (hv : 1 ≤ v ∧ v ≤ 5) : has (turnSet p u n) v = if v = u then has p u + n else has p v := by
  unfold turnSet
  have h1 : (u - 1).toNat < p.length := by omega
  show (p.set _ _).getD (v - 1).toNat 0 = _
  rw [getD_set h1]
  by_cases e : v = u
  · subst e; rw [if_pos rfl, if_pos rfl]
  · rw [if_neg (by omega), if_neg e]; rfl
theorem turnSet_ok {p : List Int} {u n : Int} (h : turnOk p u n = true) : monOk (turnSet p u n) = true := by
  rw [turnOk_iff] at h
  obtain ⟨h1, h2, h3, h4⟩ := h
  have hl := (monOk_iff.1 h1).1
  refine monOk_all (by rw [turnSet_len]; exact hl) (fun j hj => ?_)
  rw [turnSet_len] at hj
  unfold turnSet
  rw [getD_set (by omega)]
  split
  · exact h4
  · exact monOk_get h1 (by omega)
def moveOk (p : List Int) (a b n : Int) : Bool := decide ((0 ≤ n ∧ n ≤ 100000) ∧ a ≠ b ∧ turnOk p a (-n) = true ∧ turnOk (turnSet p a (-n)) b n = true)
theorem moveOk_iff {p : List Int} {a b n : Int} : moveOk p a b n = true ↔ (0 ≤ n ∧ n ≤ 100000) ∧ a ≠ b ∧ turnOk p a (-n) = true ∧ turnOk (turnSet p a (-n)) b n = true := by unfold moveOk; rw [decide_eq_true_iff]
theorem moveOk_no {p : List Int} {a b n : Int} (h : ¬ ((0 ≤ n ∧ n ≤ 100000) ∧ a ≠ b ∧ turnOk p a (-n) = true ∧ turnOk (turnSet p a (-n)) b n = true)) : moveOk p a b n = false := by unfold moveOk; rw [decide_eq_false_iff_not]; exact h
def monMove (p : List Int) (a b n : Int) : List Int := if moveOk p a b n = true then turnSet (turnSet p a (-n)) b n else p
theorem monMove_of {p : List Int} {a b n : Int} (h : moveOk p a b n = true) : monMove p a b n = turnSet (turnSet p a (-n)) b n := by unfold monMove; rw [if_pos h]
theorem monMove_no {p : List Int} {a b n : Int} (h : moveOk p a b n = false) : monMove p a b n = p := by unfold monMove; rw [if_neg (by simp [h])]
theorem monMove_len (p : List Int) (a b n : Int) : (monMove p a b n).length = p.length := by unfold monMove; split; rw [turnSet_len, turnSet_len]; rfl
/-- a move is ok just if both turns are: how much is looked at by these -/
theorem moveOk_eq {p : List Int} {a b n : Int} : moveOk p a b n = decide (0 ≤ n ∧ a ≠ b ∧ turnOk p a (-n) = true ∧ turnOk (turnSet p a (-n)) b n = true) := by
  rw [Bool.eq_iff_iff, moveOk_iff, decide_eq_true_iff]
  constructor
  · intro h; exact ⟨h.1.1, h.2⟩
  · intro h
    have := turnOk_iff.1 h.2.2.1
    exact ⟨⟨h.1, by omega⟩, h.2⟩
end Go.Proofs.Ytjdnengmllamcaa.Tm
