/-
  Texts of the proof, what it needs of them: Draw.
-/
import Derived.Test.YtmlbphmbffkdnaaGt06
namespace Go.Proofs.Ytmlbphmbffkdnaa
open Go.RowKit

/-- The reader at block r: the bytes that it goes by, in memory that was there before it, and a count of at most k picks. -/
def Rd (w : World) (r : Nat) (k : Nat) : Prop :=
  ∃ (ao : Option Addr) (n cap p : Nat) (zs : List Int), zs.length = n ∧ n ≤ 2000 ∧ p ≤ k ∧ Bytes w ao zs ∧ (zs ≠ [] → ∀ a, ao = some a → a.block < r) ∧
    w.cell? ⟨r, 0, none⟩ = some (.slice ao n cap) ∧ w.cell? ⟨r, 1, none⟩ = some (.int .i64 p) ∧ w.frozen? ⟨r, 1, none⟩ = false

theorem Bytes.kept {w w' : World} {ao : Option Addr} {zs : List Int} {r : Nat} (h : Bytes w ao zs) (hg : w.grownBy w' (some r)) (hne : zs ≠ [] → ∀ a, ao = some a → a.block ≠ r) : Bytes w' ao zs := by
  refine ⟨h.1, fun hne' => ?_⟩
  obtain ⟨b, off, rfl, hc⟩ := h.2 hne'
  exact ⟨b, off, rfl, fun k hk => hg.cell (hc k hk) (by have := hne hne' _ rfl; simpa using this)⟩
theorem grown_set (w : World) (r o : Nat) (v : Value) : w.grownBy (w.setCell ⟨r, o, none⟩ v) (some r) :=
  ⟨rfl, rfl, rfl, by simp [World.setCell], fun k _ hk => Below.heap_setCell _ _ _ _ (by simpa using hk)⟩
theorem grown_trans {a b c : World} {row : Option Nat} (h : a.grownBy b row) (k : b.grownBy c row) : a.grownBy c row :=
  ⟨k.os.trans h.os, k.tape.trans h.tape, k.output.trans h.output, Nat.le_trans h.size k.size, fun i hi hr => (k.block i (Nat.lt_of_lt_of_le hi h.size) hr).trans (h.block i hi hr)⟩
theorem Rd.mono {w : World} {r k k' : Nat} (h : Rd w r k) (hk : k ≤ k') : Rd w r k' := by
  obtain ⟨ao, n, cap, p, zs, h1, h2, h3, r⟩ := h
  exact ⟨ao, n, cap, p, zs, h1, h2, Nat.le_trans h3 hk, r⟩
theorem Rd.drewN {w : World} {r k : Nat} (h : Rd w r k) (n : Nat) : Rd (w.drewN n) r k := h
theorem Rd.lt {w : World} {r k : Nat} (h : Rd w r k) : r < w.heap.size := by
  obtain ⟨ao, n, cap, p, zs, h1, h2, h3, h4, h5, h6, h7, h8⟩ := h
  exact World.block_lt_of_cell? w _ h6
/-- the reader stays as it is where younger blocks are written -/
theorem Rd.kept {w w' : World} {r k : Nat} {row : Option Nat} (h : Rd w r k) (hg : w.grownBy w' row) (hrow : ∀ b, row = some b → r < b) : Rd w' r k := by
  have hlt := h.lt
  have hr : some r ≠ row := fun e => by have := hrow r e.symm; omega
  obtain ⟨ao, n, cap, p, zs, h1, h2, h3, h4, h5, h6, h7, h8⟩ := h
  refine ⟨ao, n, cap, p, zs, h1, h2, h3, ⟨h4.1, fun hne => ?_⟩, h5, hg.cell h6 hr, hg.cell h7 hr, ?_⟩
  · obtain ⟨b, off, rfl, hc⟩ := h4.2 hne
    refine ⟨b, off, rfl, fun j hj => hg.cell (hc j hj) ?_⟩
    intro e
    have h9 := hrow b e.symm
    have h10 := h5 hne _ rfl
    simp only at h10
    omega
  · rw [World.frozen?_of_block (w := w) (hg.block r hlt hr)]; exact h8
theorem Rd.step {w : World} {r k : Nat} {ao : Option Addr} {n cap p : Nat} {zs : List Int} (h1 : zs.length = n) (h2 : n ≤ 2000) (h3 : p ≤ k) (h4 : Bytes w ao zs) (h5 : zs ≠ [] → ∀ a, ao = some a → a.block < r)
    (h6 : w.cell? ⟨r, 0, none⟩ = some (.slice ao n cap)) (h7 : w.cell? ⟨r, 1, none⟩ = some (.int .i64 p)) (h8 : w.frozen? ⟨r, 1, none⟩ = false) :
    Rd (w.setCell ⟨r, 1, none⟩ (.int .i64 ((p : Int) + 1))) r (k + 1) := by
  have e : (w.setCell ⟨r, 1, none⟩ (.int .i64 ((p : Int) + 1))).cell? ⟨r, 0, none⟩ = w.cell? ⟨r, 0, none⟩ := World.cell?_setCell_other _ _ _ _ (by simp)
  refine ⟨ao, n, cap, p + 1, zs, h1, h2, by omega, h4.kept (grown_set _ _ _ _) (fun hz a ha => Nat.ne_of_lt (h5 hz a ha)), h5, e.trans h6, ?_, ?_⟩
  · rw [show ((p + 1 : Nat) : Int) = (p : Int) + 1 from by omega]
    exact World.cell?_setCell_same _ _ _ h7
  · simpa using h8

end Go.Proofs.Ytmlbphmbffkdnaa
namespace Go.Proofs.Ytmlbphmbffkdnaa
open Go.RowKit

theorem Rd.alloc {w : World} {r k : Nat} (h : Rd w r k) (o : Obj) : Rd (w.alloc o) r k :=
  h.kept (World.grownBy_alloc w o none) (fun b hb => by cases hb)

theorem Bytes.take {w : World} {ao : Option Addr} {zs : List Int} (h : Bytes w ao zs) (k : Nat) : Bytes w ao (zs.take k) := by
  refine ⟨fun z hz => h.1 z (List.mem_of_mem_take hz), fun hne => ?_⟩
  have hz : zs ≠ [] := by intro e; subst e; simp at hne
  obtain ⟨b, off, rfl, hc⟩ := h.2 hz
  refine ⟨b, off, rfl, fun j hj => ?_⟩
  simp only [List.length_take] at hj
  rw [hc j (by omega)]
  simp [List.getD, show j < k by omega]

end Go.Proofs.Ytmlbphmbffkdnaa
namespace Go.Proofs.Ytmlbphmbffkdnaa
open Go.RowKit

theorem own_block {w : World} {base : Nat} {v : Value} {zs : List Int} (h : Own w base v zs) : ∀ b, v.ownBlock = some b → base ≤ b := fun b hb => (h.2.lt b hb).1
theorem own_empty (w : World) (base : Nat) (hb : base ≤ w.heap.size) : Own (w.alloc (.cells #[] 3)) base (.slice (some ⟨w.heap.size, 0, none⟩) 0 0) [] :=
  ⟨fun z hz => by simp at hz, World.ownsRow_lit w #[] 0 hb (by unfold maxLen; omega) rfl⟩
theorem Rd.own {w w' : World} {base r k : Nat} {v : Value} {zs : List Int} {o : Obj} (h : Rd w r k) (ho : Own w base v zs) (hb : r < base) (hg : (w.alloc o).grownBy w' v.ownBlock) : Rd w' r k :=
  (h.alloc o).kept hg (fun b hb' => Nat.lt_of_lt_of_le hb (own_block ho b hb'))

theorem Own.mono {w : World} {base base' : Nat} {v : Value} {zs : List Int} (h : Own w base v zs) (hb : base' ≤ base) : Own w base' v zs := by
  refine ⟨h.1, h.2.1, ?_⟩
  rcases h.2.2 with h2 | ⟨g, cap, cur, h3, h4, r⟩
  · exact Or.inl h2
  · exact Or.inr ⟨g, cap, cur, h3, Nat.le_trans hb h4, r⟩

end Go.Proofs.Ytmlbphmbffkdnaa
namespace Go.Proofs.Ytmlbphmbffkdnaa
open Go.RowKit

/-- what a law leaves: true, and nothing that was there is written -/
def Holds (w : World) (e : Ending) (w' : World) : Prop := e = .returned (.bool true) ∧ Below w.heap.size w w'

end Go.Proofs.Ytmlbphmbffkdnaa
namespace Go.Proofs.Ytmlbphmbffkdnaa
open Go.RowKit

end Go.Proofs.Ytmlbphmbffkdnaa
namespace Go.Proofs.Ytmlbphmbffkdnaa
open Go.RowKit

theorem Row.nil (w : World) (ao : Option Addr) : Row w ao [] := ⟨fun z hz => by simp at hz, fun h => absurd rfl h⟩
end Go.Proofs.Ytmlbphmbffkdnaa
