/-
  Texts of the proof, what it needs of them: Keep.
-/
import Derived.Test.YtmlbphmbffkdnaaGreatGz07
import Derived.Test.YtmlbphmbffkdnaaGreatGz08
namespace Go.Proofs.YtmlbphmbffkdnaaGreat
open Go.RowKit
set_option linter.unusedVariables false
set_option maxRecDepth 100000

theorem ownsK {w w' : World} {base n s : Nat} {t : TypeId} {v : Value} {cs : List Value} {row : Option Nat} (h : w.ownsRow base t s v n cs) (hg : w.grownBy w' row) (hne : ∀ b, v.ownBlock = some b → some b ≠ row) : w'.ownsRow base t s v n cs := by
  refine h.kept hg ?_
  cases hv : v.ownBlock with
  | none => exact Or.inl rfl
  | some b => exact Or.inr (hne b hv)
theorem owns_row {α : Type} {f : α → List Value} {w : World} {base n cap s : Nat} {t : TypeId} {ao : Option Addr} {xs : List α} (hs : ∀ x, (f x).length = s) (hn : xs.length = n) (h : w.ownsRow base t s (.slice ao n cap) n (xs.flatMap f)) : Sl f w ao xs := by
  subst hn
  obtain ⟨ao', cap', he, -, hsl, -⟩ := owns_read hs h
  cases he
  exact hsl
theorem own_rowI {w : World} {base n cap : Nat} {ao : Option Addr} {zs : List Int} (h : Own w base (.slice ao n cap) zs) : Row w ao zs := by
  obtain ⟨ao', cap', he, -, hr, -⟩ := h.row
  cases he
  exact hr
theorem grown_below {A W w' : World} {row : Option Nat} (h : Below A.heap.size A W) (hg : W.grownBy w' row) (hr : ∀ k, row = some k → A.heap.size ≤ k) : Below A.heap.size A w' := h.grown hg h.size hr

theorem Row.bel {w w' : World} {ao : Option Addr} {zs : List Int} (h : Row w ao zs) (hb : Below w.heap.size w w') : Row w' ao zs := h.below hb (Nat.le_refl _)
theorem Own.bel {w w' : World} {base : Nat} {v : Value} {zs : List Int} (h : Own w base v zs) (hb : Below w.heap.size w w') : Own w' base v zs := ⟨h.1, owns_below h.2 hb⟩
theorem Row.kpt {w w' : World} {ao : Option Addr} {zs : List Int} {row : Option Nat} (h : Row w ao zs) (hg : w.grownBy w' row) (hne : ∀ a, ao = some a → some a.block ≠ row) : Row w' ao zs := h.kept hg hne
theorem Own.kpt {w w' : World} {base : Nat} {v : Value} {zs : List Int} {row : Option Nat} (h : Own w base v zs) (hg : w.grownBy w' row) (hne : ∀ b, v.ownBlock = some b → some b ≠ row) : Own w' base v zs := ⟨h.1, ownsK h.2 hg hne⟩
def HldI (w : World) (ao : Option Addr) (zs : List Int) : Prop := Row w ao (marked zs zs.length)
theorem HldI.bel {w w' : World} {ao : Option Addr} {zs : List Int} (h : HldI w ao zs) (hb : Below w.heap.size w w') : HldI w' ao zs := Row.bel h hb
theorem Own.rd {w : World} {base n cap : Nat} {ao : Option Addr} {zs : List Int} (hn : zs.length = n) (h : Own w base (.slice ao n cap) zs) : Row w ao zs := own_rowI h
theorem EOwn.rd {w : World} {base n cap : Nat} {ao : Option Addr} {xs : List Tm.Ent} (hn : xs.length = n) (h : EOwn w base (.slice ao n cap) xs) : ERow w ao xs := by
  obtain ⟨f, h2⟩ := h
  rw [hn] at h2
  exact ⟨f, owns_row eCells_len hn h2⟩
theorem ERow.kpt {w w' : World} {ao : Option Addr} {xs : List Tm.Ent} {row : Option Nat} (h : ERow w ao xs) (hg : w.grownBy w' row) (hne : ∀ a, ao = some a → some a.block ≠ row) : ERow w' ao xs := ⟨h.1, h.2.kept hg hne⟩
theorem ERow.bel {w w' : World} {ao : Option Addr} {xs : List Tm.Ent} (h : ERow w ao xs) (hb : Below w.heap.size w w') : ERow w' ao xs := h.below hb
theorem EOwn.bel {w w' : World} {base : Nat} {v : Value} {xs : List Tm.Ent} (h : EOwn w base v xs) (hb : Below w.heap.size w w') : EOwn w' base v xs := h.below hb
theorem EOwn.kpt {w w' : World} {base : Nat} {v : Value} {xs : List Tm.Ent} {row : Option Nat} (h : EOwn w base v xs) (hg : w.grownBy w' row) (hne : ∀ b, v.ownBlock = some b → some b ≠ row) : EOwn w' base v xs := by
  obtain ⟨f, h2⟩ := h
  exact ⟨f, ownsK h2 hg hne⟩
def HldE (w : World) (ao : Option Addr) (xs : List Tm.Ent) : Prop := Sl eCells w ao ((List.range xs.length).map mkE)
theorem HldE.bel {w w' : World} {ao : Option Addr} {xs : List Tm.Ent} (h : HldE w ao xs) (hb : Below w.heap.size w w') : HldE w' ao xs := Sl.below h hb
theorem ROwn.rd {w : World} {base n cap : Nat} {ao : Option Addr} {xs : List Tm.Rw} (hn : xs.length = n) (h : ROwn w base (.slice ao n cap) xs) : RRow w ao xs := by
  obtain ⟨f, t, h2⟩ := h
  rw [hn] at h2
  exact ⟨f, owns_row rCells_len hn h2⟩
theorem RRow.kpt {w w' : World} {ao : Option Addr} {xs : List Tm.Rw} {row : Option Nat} (h : RRow w ao xs) (hg : w.grownBy w' row) (hne : ∀ a, ao = some a → some a.block ≠ row) : RRow w' ao xs := ⟨h.1, h.2.kept hg hne⟩
theorem RRow.bel {w w' : World} {ao : Option Addr} {xs : List Tm.Rw} (h : RRow w ao xs) (hb : Below w.heap.size w w') : RRow w' ao xs := h.below hb
theorem ROwn.bel {w w' : World} {base : Nat} {v : Value} {xs : List Tm.Rw} (h : ROwn w base v xs) (hb : Below w.heap.size w w') : ROwn w' base v xs := h.below hb
theorem ROwn.kpt {w w' : World} {base : Nat} {v : Value} {xs : List Tm.Rw} {row : Option Nat} (h : ROwn w base v xs) (hg : w.grownBy w' row) (hne : ∀ b, v.ownBlock = some b → some b ≠ row) : ROwn w' base v xs := by
  obtain ⟨f, t, h2⟩ := h
  exact ⟨f, t, ownsK h2 hg hne⟩
def HldR (w : World) (ao : Option Addr) (xs : List Tm.Rw) : Prop := Sl rCells w ao ((List.range xs.length).map mkR)
theorem HldR.bel {w w' : World} {ao : Option Addr} {xs : List Tm.Rw} (h : HldR w ao xs) (hb : Below w.heap.size w w') : HldR w' ao xs := Sl.below h hb
end Go.Proofs.YtmlbphmbffkdnaaGreat
