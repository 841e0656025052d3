/-
  The walks of TreClash, the model's and (given that of its clash) the program's, and of the model's draw for it.
-/
import Derived.Test.YtimaidcjccakeaaClash
import Derived.Test.YtimaidcjccakeaaDrawe
namespace Go.Proofs.Ytimaidcjccakeaa
open Go.RowKit
set_option linter.unusedVariables false

theorem treClash_no {l : List Int} {i leaf : Int} {ps : List Int} (h : ¬ (Tm.treOk l = true ∧ Tm.treCheck (Tm.treRoot l) l.length i leaf ps = true ∧ leaf ≠ l.getD i.toNat 0)) : Tm.treClash l i leaf ps = [] := by unfold Tm.treClash; rw [if_neg h]
theorem treClash_of {l : List Int} {i leaf : Int} {ps : List Int} (h : Tm.treOk l = true ∧ Tm.treCheck (Tm.treRoot l) l.length i leaf ps = true ∧ leaf ≠ l.getD i.toNat 0) : Tm.treClash l i leaf ps = Tm.clash l.length l i leaf ps := by unfold Tm.treClash; rw [if_pos h]
theorem check_in {root n i leaf : Int} {ps : List Int} (h : Tm.treCheck root n i leaf ps = true) : 0 ≤ i ∧ i < n := by
  unfold Tm.treCheck at h
  rcases hu : Tm.treUp n i leaf ps with _ | y
  · rw [hu] at h; simp at h
  · have := (Tm.upc hu).1; omega
theorem told_none {w W : World} (hb : Below w.heap.size w W) : Told w [] (.returned (.slice (some ⟨W.heap.size, 0, none⟩) 0 0)) (W.alloc (.cells #[] 3)) :=
  ⟨_, rfl, own_empty W w.heap.size hb.size, hb.alloc hb.size _⟩
theorem told_nil {w W : World} (hb : Below w.heap.size w W) : Told w [] (.returned (.slice none 0 0)) W :=
  ⟨_, rfl, ⟨fun z hz => by simp at hz, ⟨rfl, Or.inl ⟨rfl, rfl⟩⟩⟩, hb⟩
theorem told_on {w W w' : World} {e : Ending} {zs : List Int} (hb : Below w.heap.size w W) (h : Told W zs e w') : Told w zs e w' := by
  obtain ⟨v, he, ho, hb'⟩ := h
  exact ⟨v, he, ho.mono hb.size, below_then hb hb'⟩

/-- what the draw for TreClash leaves -/
def Clashing (w : World) (e : Ending) (w' : World) : Prop :=
  ∃ (v pv : Value) (zs qs : List Int) (i x : Int), e = .returned (.tuple #[v, .int .i64 i, .int .i64 x, pv]) ∧ Own w' w.heap.size v zs ∧ Own w' w.heap.size pv qs ∧ zs.length ≤ 41 ∧ qs.length ≤ 7 ∧ (0 ≤ i ∧ i ≤ 41) ∧ Below w.heap.size w w'

end Go.Proofs.Ytimaidcjccakeaa
