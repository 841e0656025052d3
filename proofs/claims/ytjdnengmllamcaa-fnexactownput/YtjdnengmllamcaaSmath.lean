/-
  Lists of structs as plain lists of cells: what becomes of them where one element is written, where a list is copied, and where it is marked.
-/
import Derived.Test.YtjdnengmllamcaaSrow
namespace Go.Proofs.Ytjdnengmllamcaa
open Go.RowKit
set_option linter.unusedVariables false

/-- values written one behind the other -/
def setAll (l : List Value) : Nat → List Value → List Value
  | _, [] => l
  | j, v :: vs => setAll (l.set j v) (j + 1) vs
theorem setAll_mid : ∀ (vs A C B : List Value), C.length = vs.length → setAll (A ++ C ++ B) A.length vs = A ++ vs ++ B := by
  intro vs
  induction vs with
  | nil => intro A C B h; have : C = [] := List.eq_nil_of_length_eq_zero h; subst this; rfl
  | cons v vs ih =>
    intro A C B h
    cases C with
    | nil => simp at h
    | cons c C =>
      show setAll ((A ++ c :: C ++ B).set A.length v) (A.length + 1) vs = _
      have e : (A ++ c :: C ++ B).set A.length v = (A ++ [v]) ++ C ++ B := by
        rw [List.append_assoc, List.set_append, if_neg (by omega), Nat.sub_self]; simp
      rw [e, show A.length + 1 = (A ++ [v]).length by simp, ih (A ++ [v]) C B (by simpa using h)]
      simp
theorem flat_set {α : Type} (f : α → List Value) (s : Nat) (hs : ∀ x, (f x).length = s) (ys : List α) (k : Nat) (x : α) (hk : k < ys.length) : setAll (ys.flatMap f) (k * s) (f x) = (ys.set k x).flatMap f := by
  have e1 : ys = ys.take k ++ ys[k] :: ys.drop (k + 1) := by rw [← List.drop_eq_getElem_cons hk, List.take_append_drop]
  have e2 : ys.set k x = ys.take k ++ x :: ys.drop (k + 1) := by rw [List.set_eq_take_append_cons_drop, if_pos hk]
  have l1 : ((ys.take k).flatMap f).length = k * s := by rw [flat_len f s hs, List.length_take, Nat.min_eq_left (by omega)]
  rw [e2, List.flatMap_append, List.flatMap_cons, ← List.append_assoc, ← l1]
  have e3 : ys.flatMap f = (ys.take k).flatMap f ++ f ys[k] ++ (ys.drop (k + 1)).flatMap f := by
    rw [List.append_assoc, ← List.flatMap_cons, ← List.flatMap_append, ← e1]
  rw [e3]
  exact setAll_mid (f x) _ _ _ (by rw [hs, hs])
theorem made_flat {α : Type} (f : α → List Value) (s : Nat) (z : α) (zc : Array Value) (hz : zc.toList = f z) (hs : (f z).length = s) (hp : 0 < s) : ∀ n : Nat, (madeCells zc (n * s)).toList = (List.replicate n z).flatMap f := by
  have hsz : zc.size = s := by rw [← hs, ← hz]; simp
  intro n
  apply List.ext_getElem?
  intro j
  have hlen : ((List.replicate n z).flatMap f).length = n * s := by
    clear hz hsz
    induction n with
    | zero => simp
    | succ n ih => rw [List.replicate_succ, List.flatMap_cons, List.length_append, ih, hs, Nat.succ_mul]; omega
  by_cases hj : j < n * s
  · have h1 : j / s < n := by rw [Nat.div_lt_iff_lt_mul hp]; exact hj
    have h2 : j % s < s := Nat.mod_lt _ hp
    have h3 : (List.replicate n z)[j / s]? = some z := by rw [List.getElem?_replicate, if_pos h1]
    obtain ⟨a, h4⟩ : ∃ a, (f z)[j % s]? = some a := ⟨(f z)[j % s]'(by omega), List.getElem?_eq_getElem (by omega)⟩
    have h5 : ((List.replicate n z).flatMap f)[j / s * s + j % s]? = some a := by
      clear hz hlen hj
      have key : ∀ (n k : Nat), k < n → ((List.replicate n z).flatMap f)[k * s + j % s]? = some a := by
        intro n
        induction n with
        | zero => intro k hk; omega
        | succ n ih =>
          intro k hk
          rw [List.replicate_succ, List.flatMap_cons]
          cases k with
          | zero => rw [Nat.zero_mul, Nat.zero_add, List.getElem?_append_left (by omega)]; exact h4
          | succ k =>
            rw [List.getElem?_append_right (by rw [hs, Nat.succ_mul]; omega), hs]
            have e : (k + 1) * s + j % s - s = k * s + j % s := by rw [Nat.succ_mul]; omega
            rw [e]; exact ih k (by omega)
      exact key n _ h1
    rw [show j / s * s + j % s = j by rw [Nat.mul_comm]; exact Nat.div_add_mod j s] at h5
    rw [h5]
    have h6 : zc[j % s]! = a := by
      have h7 : j % s < zc.size := by omega
      rw [getElem!_pos zc (j % s) h7]
      rw [← hz] at h4
      simp [h7] at h4
      exact h4
    simp [madeCells, hj, hsz, h6]
  · rw [List.getElem?_eq_none (by simp [madeCells]; omega), List.getElem?_eq_none (by omega)]

/-- a list as far as it has been copied -/
def madeS {α : Type} (z : α) (xs : List α) (k : Nat) : List α := xs.take k ++ List.replicate (xs.length - k) z
theorem madeS_len {α : Type} (z : α) (xs : List α) (k : Nat) (h : k ≤ xs.length) : (madeS z xs k).length = xs.length := by simp [madeS]; omega
theorem madeS_set {α : Type} (z : α) (xs : List α) (k : Nat) (x : α) (hx : xs[k]? = some x) : (madeS z xs k).set k x = madeS z xs (k + 1) := by
  have h : k < xs.length := by
    rcases Nat.lt_or_ge k xs.length with h2 | h2
    · exact h2
    · rw [List.getElem?_eq_none h2] at hx; cases hx
  rw [List.getElem?_eq_getElem h] at hx
  cases hx
  unfold madeS
  rw [List.set_append, if_neg (by simp; omega), List.take_succ_eq_append_getElem h]
  have e : xs.length - k = (xs.length - (k + 1)) + 1 := by omega
  have e2 : k - (xs.take k).length = 0 := by simp; omega
  rw [e, List.replicate_succ, e2, List.set_cons_zero, List.append_assoc]
  rfl
theorem madeS_all {α : Type} (z : α) (xs : List α) : madeS z xs xs.length = xs := by simp [madeS]
theorem madeS_zero {α : Type} (z : α) (xs : List α) : madeS z xs 0 = List.replicate xs.length z := by simp [madeS]

/-- a list as far as it has been marked -/
def markS {α : Type} (m : Nat → α) (xs : List α) (k : Nat) : List α := (List.range k).map m ++ xs.drop k
theorem markS_len {α : Type} (m : Nat → α) (xs : List α) (k : Nat) (h : k ≤ xs.length) : (markS m xs k).length = xs.length := by simp [markS]; omega
theorem markS_zero {α : Type} (m : Nat → α) (xs : List α) : markS m xs 0 = xs := by simp [markS]
theorem markS_set {α : Type} (m : Nat → α) (xs : List α) (k : Nat) (h : k < xs.length) : (markS m xs k).set k (m k) = markS m xs (k + 1) := by
  unfold markS
  rw [List.set_append, if_neg (by simp)]
  have e : k - ((List.range k).map m).length = 0 := by simp
  rw [e, List.drop_eq_getElem_cons h, List.set_cons_zero, List.range_succ, List.map_append, List.append_assoc]
  rfl
theorem markS_all {α : Type} (m : Nat → α) (xs : List α) : markS m xs xs.length = (List.range xs.length).map m := by simp [markS]
theorem marks_at {α : Type} (m : Nat → α) (n k : Nat) (h : k < n) : ((List.range n).map m)[k]? = some (m k) := by simp [h]
end Go.Proofs.Ytjdnengmllamcaa
