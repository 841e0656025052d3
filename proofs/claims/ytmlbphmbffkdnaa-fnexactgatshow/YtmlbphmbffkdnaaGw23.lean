/-
  Texts of the proof, what it needs of them: Ownf.
-/
import Derived.Test.YtmlbphmbffkdnaaGw21
import Derived.Test.YtmlbphmbffkdnaaGw22
namespace Go.Proofs.Ytmlbphmbffkdnaa
open Go.RowKit
set_option linter.unusedVariables false
set_option maxRecDepth 100000

theorem rrow_none {w : World} {rs : List Tm.Rw} (h : RRow w none rs) : rs = [] := by
  by_cases e : rs = []
  · exact e
  · obtain ⟨b, off, h2, -⟩ := h.2 e; cases h2
theorem owns_mono {w : World} {b b' s n : Nat} {t : TypeId} {v : Value} {xs : List Value} (h : w.ownsRow b' t s v n xs) (hb : b ≤ b') : w.ownsRow b t s v n xs := by
  refine ⟨h.1, ?_⟩
  rcases h.2 with h | ⟨g, cap, cur, h1, h2, h3⟩
  · exact Or.inl h
  · exact Or.inr ⟨g, cap, cur, h1, Nat.le_trans hb h2, h3⟩
theorem ROwn.mono {w : World} {b b' : Nat} {v : Value} {rs : List Tm.Rw} (h : ROwn w b' v rs) (hb : b ≤ b') : ROwn w b v rs := by
  obtain ⟨f, t, h0⟩ := h
  exact ⟨f, t, owns_mono h0 hb⟩
end Go.Proofs.Ytmlbphmbffkdnaa
namespace Go.Proofs.Ytmlbphmbffkdnaa
open Go.RowKit
set_option linter.unusedVariables false
set_option maxRecDepth 100000

end Go.Proofs.Ytmlbphmbffkdnaa
namespace Go.Proofs.Ytmlbphmbffkdnaa
open Go.RowKit
set_option linter.unusedVariables false
set_option maxRecDepth 100000

theorem lt_of_get {α : Type} {L : List α} {i : Nat} {v : α} (h : L[i]? = some v) : i < L.length := by
  rcases Nat.lt_or_ge i L.length with h2 | h2
  · exact h2
  · rw [List.getElem?_eq_none h2] at h; cases h
end Go.Proofs.Ytmlbphmbffkdnaa
