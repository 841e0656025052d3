/-
  The walks of the model's draws of numbers and of lists.
-/
import Derived.Test.YtjdnengmllamcaaDrawb
namespace Go.Proofs.Ytjdnengmllamcaa
open Go.RowKit

theorem below_of_grown {w w1 w2 : World} (hb : Below w.heap.size w w1) (hg : w1.grownBy w2 (some w.heap.size)) : Below w.heap.size w w2 :=
  hb.grown hg hb.size (fun k hk => by cases hk; exact Nat.le_refl _)

/-- one number more behind an owned list: what the append law leaves -/
theorem own_snoc {w : World} {base : Nat} {v : Value} {zs : List Int} {x : Int} (h : Fits zs) (hx : -9223372036854775808 ≤ x ∧ x ≤ 9223372036854775807) (ho : w.ownsRow base 3 1 v (zs.length + 1) (zs.map (Value.int .i64) ++ [.int .i64 x])) : Own w base v (zs ++ [x]) := by
  refine ⟨fun z hz => ?_, ?_⟩
  · rcases List.mem_append.1 hz with h1 | h1
    · exact h z h1
    · simp at h1; subst h1; exact hx
  · simpa using ho
theorem own_block {w : World} {base : Nat} {v : Value} {zs : List Int} (h : Own w base v zs) : ∀ b, v.ownBlock = some b → base ≤ b := fun b hb => (h.2.lt b hb).1
theorem Own.keptR {w w' : World} {base r : Nat} {v : Value} {zs : List Int} (h : Own w base v zs) (hg : w.grownBy w' (some r)) (hr : r < base) : Own w' base v zs := by
  refine ⟨h.1, h.2.kept hg (Or.inr ?_)⟩
  intro e
  have := own_block h r e
  omega
theorem own_empty (w : World) (base : Nat) (hb : base ≤ w.heap.size) : Own (w.alloc (.cells #[] 3)) base (.slice (some ⟨w.heap.size, 0, none⟩) 0 0) [] :=
  ⟨fun z hz => by simp at hz, World.ownsRow_lit w #[] 0 hb (by unfold maxLen; omega) rfl⟩
theorem grown_own {w0 w w' : World} {base r : Nat} {v : Value} {zs : List Int} {o : Obj} (h : Own w base v zs) (hg0 : w0.grownBy w (some r)) (hb : w0.heap.size ≤ base) (hg : (w.alloc o).grownBy w' v.ownBlock) : w0.grownBy w' (some r) := by
  refine ⟨hg.os.trans hg0.os, hg.tape.trans hg0.tape, hg.output.trans hg0.output, ?_, fun k hk hr => ?_⟩
  · have := hg.size
    have h2 := hg0.size
    simp at this
    omega
  · have h2 := hg0.size
    have h3 : (w.alloc o).heap[k]? = w.heap[k]? := Below.heap_alloc w o k (by omega)
    rw [hg.block k (by simp; omega) ?_, h3, hg0.block k hk hr]
    intro e
    have := own_block h k e.symm
    omega
theorem Rd.own {w w' : World} {base r k : Nat} {v : Value} {zs : List Int} {o : Obj} (h : Rd w r k) (ho : Own w base v zs) (hb : r < base) (hg : (w.alloc o).grownBy w' v.ownBlock) : Rd w' r k :=
  (h.alloc o).kept hg (fun b hb' => Nat.lt_of_lt_of_le hb (own_block ho b hb'))

def sizeOf' : Value → Nat | .slice _ n _ => n | _ => 0
/-- what a draw of a list leaves -/
def Lot (w : World) (r k m : Nat) (e : Ending) (w' : World) : Prop :=
  ∃ (v : Value) (zs : List Int), e = .returned v ∧ Own w' w.heap.size v zs ∧ zs.length ≤ m ∧ Rd w' r k ∧ w.grownBy w' (some r)

/-- a list drawn out of a code: it lies in new memory, and nothing that was there is written -/
def Lots (w : World) (m : Nat) (e : Ending) (w' : World) : Prop :=
  ∃ (v : Value) (zs : List Int), e = .returned v ∧ Own w' w.heap.size v zs ∧ zs.length ≤ m ∧ Below w.heap.size w w'

theorem Own.mono {w : World} {base base' : Nat} {v : Value} {zs : List Int} (h : Own w base v zs) (hb : base' ≤ base) : Own w base' v zs := by
  refine ⟨h.1, h.2.1, ?_⟩
  rcases h.2.2 with h2 | ⟨g, cap, cur, h3, h4, r⟩
  · exact Or.inl h2
  · exact Or.inr ⟨g, cap, cur, h3, Nat.le_trans hb h4, r⟩

end Go.Proofs.Ytjdnengmllamcaa
