/-
  Texts of the proof, what it needs of them: Lsth.
-/
import Derived.Laws.StructEq
import Derived.Test.YtmlbphmbffkdnaaGt23
import Derived.WideKeyRuns
namespace Go.Proofs.Ytmlbphmbffkdnaa
open Go.RowKit
set_option linter.unusedVariables false
set_option maxRecDepth 100000

/-- a head: size, log, own -/
abbrev Tm.Hed := Int × Int × Int
def wCells (d : Tm.Hed) : List Value := [.int .i64 d.1, .int .i64 d.2.1, .int .i64 d.2.2]
theorem wCells_len (d : Tm.Hed) : (wCells d).length = 3 := rfl
def FitW (d : Tm.Hed) : Prop := True
def WRow (w : World) (ao : Option Addr) (ds : List Tm.Hed) : Prop := (∀ d ∈ ds, FitW d) ∧ Sl wCells w ao ds
def WOwn (w : World) (base : Nat) (v : Value) (ds : List Tm.Hed) : Prop := (∀ d ∈ ds, FitW d) ∧ w.ownsRow base 61 3 v ds.length (ds.flatMap wCells)
theorem WOwn.row {w : World} {base : Nat} {v : Value} {ds : List Tm.Hed} (h : WOwn w base v ds) :
    ∃ ao cap, v = .slice ao ds.length cap ∧ ds.length ≤ cap ∧ WRow w ao ds ∧ (∀ a, ao = some a → base ≤ a.block ∧ a.block < w.heap.size) := by
  obtain ⟨ao, cap, h1, h2, h3, h4⟩ := owns_read wCells_len h.2
  exact ⟨ao, cap, h1, h2, ⟨h.1, h3⟩, h4⟩
theorem WOwn.bel {w w' : World} {base : Nat} {v : Value} {ds : List Tm.Hed} (h : WOwn w base v ds) (hb : Below w.heap.size w w') : WOwn w' base v ds := ⟨h.1, owns_below h.2 hb⟩
theorem WRow.bel {w w' : World} {ao : Option Addr} {ds : List Tm.Hed} (h : WRow w ao ds) (hb : Below w.heap.size w w') : WRow w' ao ds := ⟨h.1, h.2.below hb⟩
theorem WRow.any {w : World} {ao : Option Addr} {ds : List Tm.Hed} (h : Sl wCells w ao ds) : WRow w ao ds := ⟨fun _ _ => trivial, h⟩
theorem WOwn.rd {w : World} {base n cap : Nat} {ao : Option Addr} {xs : List Tm.Hed} (hn : xs.length = n) (h : WOwn w base (.slice ao n cap) xs) : WRow w ao xs := by
  obtain ⟨f, h2⟩ := h
  rw [hn] at h2
  exact ⟨f, owns_row wCells_len hn h2⟩
theorem WRow.kpt {w w' : World} {ao : Option Addr} {xs : List Tm.Hed} {row : Option Nat} (h : WRow w ao xs) (hg : w.grownBy w' row) (hne : ∀ a, ao = some a → some a.block ≠ row) : WRow w' ao xs := ⟨h.1, h.2.kept hg hne⟩
theorem WOwn.kpt {w w' : World} {base : Nat} {v : Value} {xs : List Tm.Hed} {row : Option Nat} (h : WOwn w base v xs) (hg : w.grownBy w' row) (hne : ∀ b, v.ownBlock = some b → some b ≠ row) : WOwn w' base v xs := ⟨h.1, ownsK h.2 hg hne⟩
set_option maxHeartbeats 400000 in
theorem sgE (ao : Option Addr) (n cap l : Nat) (w : World) (hl : l ≤ 1048576) (hn : n ≤ 9223372036854775807) : Calls Try.prog 159 #[.slice ao n cap, .int .i64 (l : Int)] w fun e w' => e = .returned (.int .i64 (if n ≤ l then (l : Int) - (n : Int) else -1)) ∧ w' = w := by
  by_cases h : n ≤ l
  · have HE : Hid ((if n ≤ l then (l : Int) - (n : Int) else -1) = (l : Int) - (n : Int)) := by unfold Hid; rw [if_pos h]
    have h2 : ¬ ((l : Int) - (n : Int) < 0) := by omega
    go_enter Try.func159, Try.ntmps159
    go_wp2_with fail
    go_ret
    exact ⟨rfl, rfl⟩
  · have HE : Hid ((if n ≤ l then (l : Int) - (n : Int) else -1) = -1) := by unfold Hid; rw [if_neg h]
    have h2 : (l : Int) - (n : Int) < 0 := by omega
    go_enter Try.func159, Try.ntmps159
    go_wp2_with fail
    go_ret
    exact ⟨rfl, rfl⟩

end Go.Proofs.Ytmlbphmbffkdnaa
