/-
  Texts of the proof, what it needs of them: Mnew, Hout.
-/
import Derived.Test.YtmlbphmbffkdnaaGw15
import Derived.Test.YtmlbphmbffkdnaaGw20
import Derived.Test.YtmlbphmbffkdnaaGw22
import Derived.Test.YtmlbphmbffkdnaaGw28
import Derived.Test.YtmlbphmbffkdnaaGw29
namespace Go.Proofs.Ytmlbphmbffkdnaa
open Go.RowKit
set_option linter.unusedVariables false
set_option maxRecDepth 100000

def HTold (w : World) (h : House) (e : Ending) (w' : World) : Prop := ∃ q, e = .returned (hV q h) ∧ HOwn w' w.heap.size q h ∧ Below w.heap.size w w'
end Go.Proofs.Ytmlbphmbffkdnaa
namespace Go.Proofs.Ytmlbphmbffkdnaa
open Go.RowKit
set_option linter.unusedVariables false
set_option maxRecDepth 100000

theorem DOwn.kg {W W' : World} {base r : Nat} {v : Value} {es : List Tm.Deal} (h : DOwn W base v es) (hg : W.grownBy W' (some r)) (hr : r < base) : DOwn W' base v es :=
  h.kpt hg (fun b hb e => by have := h.2.lt b hb; cases e; omega)
theorem EOwn.monoH {w : World} {base base' : Nat} {v : Value} {zs : List Tm.Ent} (h : EOwn w base v zs) (hb : base' ≤ base) : EOwn w base' v zs := ⟨h.1, owns_mono h.2 hb⟩
theorem DOwn.monoH {w : World} {base base' : Nat} {v : Value} {zs : List Tm.Deal} (h : DOwn w base v zs) (hb : base' ≤ base) : DOwn w base' v zs := ⟨h.1, owns_mono h.2 hb⟩
theorem load_house {W : World} {g : Nat} {x0 x1 x2 x3 x4 x5 : Value} (h : Box W g [x0, x1, x2, x3, x4, x5]) : (Go.loadVar 28 ⟨g, 0, none⟩).run Try.prog W = .ok (.agg #[x0, x1, x2, x3, x4, x5]) W := by
  have c0 := h.cell 0 rfl
  have c1 := h.cell 1 rfl
  have c2 := h.cell 2 rfl
  have c3 := h.cell 3 rfl
  have c4 := h.cell 4 rfl
  have c5 := h.cell 5 rfl
  simp [go_sem, c0, c1, c2, c3, c4, c5]

end Go.Proofs.Ytmlbphmbffkdnaa
