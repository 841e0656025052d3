/-
  The walks of the program's TreProof: the iterator over what stands beside a leaf is told into a list.
-/
import Derived.Test.YtdbnimgbmjeplaaSide
namespace Go.Proofs.Ytdbnimgbmjeplaa
open Go.RowKit Go.Shelf
set_option linter.unusedVariables false
attribute [local go_sem] Oper.semAt_some

theorem prf_fits {zs : List Int} {i : Nat} (h : zs.length ≤ 40) (hok : Tm.okAll zs = true) : Fits (Tm.prf zs i) := by
  have h1 := Tm.prf_ok _ zs i (Nat.le_refl _) h hok
  intro z hz
  obtain ⟨k, hk, rfl⟩ := List.getElem_of_mem hz
  have := Tm.okAll_at h1 hk
  rw [Tm.getD_eq hk] at this
  exact ok_fits this
theorem own_weaken {w : World} {base base' e size : Nat} {v : Value} {n : Nat} {xs : List Value} (h : w.ownsRow base e size v n xs) (hb : base' ≤ base) : w.ownsRow base' e size v n xs := by
  refine ⟨h.1, ?_⟩
  rcases h.2 with h2 | ⟨g, cap, cur, h3, h4, r⟩
  · exact Or.inl h2
  · exact Or.inr ⟨g, cap, cur, h3, Nat.le_trans hb h4, r⟩
/-- one number more, told into the list that a box holds: what it leaves -/
theorem boxed_append {W w4 : World} {n₀ B b₀ : Nat} {v v' : Value} {k m : Nat} {xs ys : List Value} {tmp : Obj} (hv : Boxed W B 23 v) (hrow : W.ownsRow n₀ 3 1 v k xs) (hn : n₀ ≤ W.heap.size ∧ b₀ ≤ B ∧ B < n₀)
    (hown' : w4.ownsRow n₀ 3 1 v' m ys) (hgrow : (W.alloc tmp).grownBy w4 v.ownBlock) :
    Boxed w4 B 23 v ∧ Boxed (w4.setCell ⟨B, 0, none⟩ v') B 23 v' ∧ (w4.setCell ⟨B, 0, none⟩ v').ownsRow n₀ 3 1 v' m ys ∧ KeepsOthers W (w4.setCell ⟨B, 0, none⟩ v') ∧ Below b₀ W (w4.setCell ⟨B, 0, none⟩ v') ∧ Kb n₀ B W (w4.setCell ⟨B, 0, none⟩ v') := by
  obtain ⟨h1, h2, h3⟩ := hn
  obtain ⟨a1, a2, a3, a4, a5⟩ := hv.appended (n₀ := b₀) (by decide) (own_weaken hrow (by omega)) (by omega) h2 (own_weaken hown' (by omega)) hgrow
  refine ⟨a1, a2, hown'.kept (grownBy_setCell' w4 B v') (.inr (a1.not_row (by decide) hown').symm), a4, a5, a5.size, fun i hi hd => ?_⟩
  rw [Below.heap_setCell _ _ _ _ (by simpa using hd), hgrow.block i (by simp; omega) ?_, Below.heap_alloc _ _ _ (by omega)]
  intro e
  have := (hrow.lt i e.symm).1
  omega

end Go.Proofs.Ytdbnimgbmjeplaa
