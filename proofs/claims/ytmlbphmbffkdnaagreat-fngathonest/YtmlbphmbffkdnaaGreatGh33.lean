/-
  Texts of the proof, what it needs of them: Clon.
-/
import Derived.Test.YtmlbphmbffkdnaaGreatGh30
import Derived.Test.YtmlbphmbffkdnaaGreatGh32
namespace Go.Proofs.YtmlbphmbffkdnaaGreat
open Go.RowKit
set_option linter.unusedVariables false
set_option maxRecDepth 100000

theorem Live.kg {w w' : World} {base r : Nat} {L : List LRow} (h : Live w base L) (hg : w.grownBy w' (some r)) (hr : r < base) : Live w' base L :=
  ⟨fun x hx => (h.1 x hx).kept hg (by
    rcases e : x.2.2.1.ownBlock with _ | b
    · exact .inl rfl
    · refine .inr fun e2 => ?_
      cases e2
      have := ((h.1 x hx).lt _ e).1
      omega), h.2⟩
theorem Live.lower {w : World} {base base' : Nat} {L : List LRow} (h : Live w base L) (hb : base' ≤ base) : Live w base' L := ⟨fun x hx => owns_mono (h.1 x hx) hb, h.2⟩
/-- a nil list has no room -/
def HLen2 (q : HP) : Prop := (q.a1 = none → q.k1 = 0) ∧ (q.a4 = none → q.k4 = 0) ∧ (q.a5 = none → q.k5 = 0)

end Go.Proofs.YtmlbphmbffkdnaaGreat
