/-
  Texts of the proof, what it needs of them: Lstd.
-/
import Derived.Test.YtmlbphmbffkdnaaGw09
import Derived.Test.YtmlbphmbffkdnaaGw11
namespace Go.Proofs.Ytmlbphmbffkdnaa
open Go.RowKit
set_option linter.unusedVariables false
set_option maxRecDepth 100000

/-- a ticket that is offered: ticket, seller, price, buyer, due -/
abbrev Tm.Deal := Int × Int × Int × Int × Int
def dCells (d : Tm.Deal) : List Value := [.int .i64 d.1, .int .i64 d.2.1, .int .i64 d.2.2.1, .int .i64 d.2.2.2.1, .int .i64 d.2.2.2.2]
theorem dCells_len (d : Tm.Deal) : (dCells d).length = 5 := rfl
def Fit64 (x : Int) : Prop := -9223372036854775808 ≤ x ∧ x ≤ 9223372036854775807
def FitD (d : Tm.Deal) : Prop := Fit64 d.1 ∧ Fit64 d.2.1 ∧ Fit64 d.2.2.1 ∧ Fit64 d.2.2.2.1 ∧ Fit64 d.2.2.2.2
def DRow (w : World) (ao : Option Addr) (ds : List Tm.Deal) : Prop := (∀ d ∈ ds, FitD d) ∧ Sl dCells w ao ds
def DOwn (w : World) (base : Nat) (v : Value) (ds : List Tm.Deal) : Prop := (∀ d ∈ ds, FitD d) ∧ w.ownsRow base 42 5 v ds.length (ds.flatMap dCells)
theorem Try.infoD : (Try.prog.info? 42).map (fun i => (i.zero, i.size, i.bytes)) = some (some (.agg #[.int .i64 0, .int .i64 0, .int .i64 0, .int .i64 0, .int .i64 0]), 5, 40) := by kernel_rfl
theorem DOwn.row {w : World} {base : Nat} {v : Value} {ds : List Tm.Deal} (h : DOwn w base v ds) :
    ∃ ao cap, v = .slice ao ds.length cap ∧ ds.length ≤ cap ∧ DRow w ao ds ∧ (∀ a, ao = some a → base ≤ a.block ∧ a.block < w.heap.size) := by
  obtain ⟨ao, cap, h1, h2, h3, h4⟩ := owns_read dCells_len h.2
  exact ⟨ao, cap, h1, h2, ⟨h.1, h3⟩, h4⟩
theorem DOwn.bel {w w' : World} {base : Nat} {v : Value} {ds : List Tm.Deal} (h : DOwn w base v ds) (hb : Below w.heap.size w w') : DOwn w' base v ds := ⟨h.1, owns_below h.2 hb⟩
theorem DRow.bel {w w' : World} {ao : Option Addr} {ds : List Tm.Deal} (h : DRow w ao ds) (hb : Below w.heap.size w w') : DRow w' ao ds := ⟨h.1, h.2.below hb⟩
end Go.Proofs.Ytmlbphmbffkdnaa
