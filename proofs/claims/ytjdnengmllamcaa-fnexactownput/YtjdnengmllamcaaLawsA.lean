/-
  The walks of the exact laws of MixOk, MixPair, MixLeaf, TreOk, TreSplit: at every argument they answer true, and nothing that was there is written.
-/
import Derived.Test.YtjdnengmllamcaaEqs
namespace Go.Proofs.Ytjdnengmllamcaa
open Go.RowKit

theorem below_drewN {B : Nat} {a w : World} (h : Below B a w) (n : Nat) : Below B a (w.drewN n) := ⟨h.os, h.tape, h.output, h.size, h.block⟩
theorem Row.drewN {w : World} {ao : Option Addr} {zs : List Int} (h : Row w ao zs) (n : Nat) : Row (w.drewN n) ao zs := h.below (B := w.heap.size) (below_drewN (Below.refl _ _) n) (Nat.le_refl _)

/-- a copy of a list: its own memory, and the same numbers -/
theorem copy_any (zs : List Int) (ao : Option Addr) (n cap : Nat) (w : World) (hn : zs.length = n) (hm : n ≤ 1048576) (hr : Row w ao zs) :
    Calls Try.prog 103 #[.slice ao n cap] w fun e w' => e = .returned (.slice (some ⟨w.heap.size, 0, none⟩) n n) ∧ Row w' (some ⟨w.heap.size, 0, none⟩) zs ∧ Below w.heap.size w w' := by
  refine (c103 zs ao n cap w hn hm hr).mono ?_
  rintro e w1 ⟨rfl, ho, hb⟩
  refine ⟨rfl, ⟨hr.1, fun _ => ⟨w.heap.size, 0, rfl, ?_⟩⟩, hb⟩
  have := ho.2
  rw [hn] at this
  intro k hk
  exact cells_of_own this hn k (by omega)
theorem decide_self (xs : List Int) : decide (xs = xs) = true := by simp

end Go.Proofs.Ytjdnengmllamcaa
