/-
  Texts of the proof, what it needs of them: Clasj, Ownc, Lawsor, Dgs.
-/
import Derived.Test.YtmlbphmbffkdnaaGreatGz09
import Derived.Test.YtmlbphmbffkdnaaGreatGz11
import Derived.Test.YtmlbphmbffkdnaaGreatGz26
import Derived.Test.YtmlbphmbffkdnaaGreatGz29
import Derived.Test.YtmlbphmbffkdnaaGreatGz42
import Derived.Test.YtmlbphmbffkdnaaGreatGz43
namespace Go.Proofs.YtmlbphmbffkdnaaGreat
open Go.RowKit
set_option maxRecDepth 100000
set_option linter.unusedVariables false

/-- a block of two numbers that the call may write -/
def Pair2 (w : World) (g : Nat) (a b : Int) : Prop :=
  w.cell? ⟨g, 0, none⟩ = some (.int .i64 a) ∧ w.cell? ⟨g, 1, none⟩ = some (.int .i64 b) ∧ w.frozen? ⟨g, 0, none⟩ = false ∧ w.frozen? ⟨g, 1, none⟩ = false
theorem Pair2.lt {w : World} {g : Nat} {a b : Int} (h : Pair2 w g a b) : g < w.heap.size := World.block_lt_of_cell? w _ h.1
theorem Pair2.below {W w : World} {g : Nat} {a b : Int} (h : Pair2 W g a b) (hb : Below W.heap.size W w) : Pair2 w g a b :=
  ⟨cell_below hb h.1, cell_below hb h.2.1, (hb.frozen (p := ⟨g, 0, none⟩) h.lt).trans h.2.2.1, (hb.frozen (p := ⟨g, 1, none⟩) h.lt).trans h.2.2.2⟩
theorem Pair2.alloc {W : World} {g : Nat} {a b : Int} (h : Pair2 W g a b) (o : Obj) : Pair2 (W.alloc o) g a b := h.below ((Below.refl _ _).alloc (Nat.le_refl _) _)
theorem Pair2.store {w : World} {g : Nat} {a b : Int} (h : Pair2 w g a b) (x y : Int) : Pair2 ((w.setCell ⟨g, 0, none⟩ (.int .i64 x)).setCell ⟨g, 1, none⟩ (.int .i64 y)) g x y := by
  obtain ⟨h0, h1, h2, h3⟩ := h
  have e1 : (w.setCell ⟨g, 0, none⟩ (.int .i64 x)).cell? ⟨g, 1, none⟩ = some (.int .i64 b) := (World.cell?_setCell_other _ _ _ _ (by simp)).trans h1
  refine ⟨?_, World.cell?_setCell_same _ _ _ e1, by simpa using h2, by simpa using h3⟩
  exact (World.cell?_setCell_other _ _ _ _ (by simp)).trans (World.cell?_setCell_same _ _ _ h0)
theorem Pair2.other {w : World} {g g' : Nat} {a b : Int} (h : Pair2 w g a b) (hne : g ≠ g') (x y : Int) : Pair2 ((w.setCell ⟨g', 0, none⟩ (.int .i64 x)).setCell ⟨g', 1, none⟩ (.int .i64 y)) g a b := by
  obtain ⟨h0, h1, h2, h3⟩ := h
  refine ⟨?_, ?_, by simpa using h2, by simpa using h3⟩
  · rw [World.cell?_setCell_other _ _ _ _ (by first | (simp; done) | (intro h; cases h; exact hne rfl)), World.cell?_setCell_other _ _ _ _ (by first | (simp; done) | (intro h; cases h; exact hne rfl))]; exact h0
  · rw [World.cell?_setCell_other _ _ _ _ (by first | (simp; done) | (intro h; cases h; exact hne rfl)), World.cell?_setCell_other _ _ _ _ (by first | (simp; done) | (intro h; cases h; exact hne rfl))]; exact h1
end Go.Proofs.YtmlbphmbffkdnaaGreat
namespace Go.Proofs.YtmlbphmbffkdnaaGreat
open Go.RowKit
set_option linter.unusedVariables false
set_option maxRecDepth 100000

def Tm.ownCheck (root t : Int) (r : Tm.Rw) (ps : List Int) : Bool := if 0 ≤ t ∧ t ≤ 7 then Tm.treCheck root 8 t (Tm.ownLeaf t r) ps else false
theorem ownCheck_of {root t : Int} {r : Tm.Rw} {ps : List Int} (h : 0 ≤ t ∧ t ≤ 7) : Tm.ownCheck root t r ps = Tm.treCheck root 8 t (Tm.ownLeaf t r) ps := by unfold Tm.ownCheck; rw [if_pos h]
theorem ownCheck_no {root t : Int} {r : Tm.Rw} {ps : List Int} (h : ¬ (0 ≤ t ∧ t ≤ 7)) : Tm.ownCheck root t r ps = false := by unfold Tm.ownCheck; rw [if_neg h]

set_option maxHeartbeats 800000 in
theorem c12 (ps : List Int) (root t a c : Int) (d : Bool) (ao : Option Addr) (n cap : Nat) (w : World) (hn : ps.length = n) (hcap : n ≤ cap) (hm : n ≤ 1048576) (hf : FitR (a, c, d)) (hr : Row w ao ps) :
    Calls Tryz.prog 12 #[.int .i64 root, .int .i64 t, rowV a c d, .slice ao n cap] w fun e w' => e = .returned (.bool (Tm.ownCheck root t (a, c, d) ps)) ∧ Below w.heap.size w w' := by
  have HF := hide hf
  have HR := hide hr
  have HN := hide hn
  clear hf hr hn
  by_cases h0 : 0 ≤ t ∧ t ≤ 7
  · have HE := hide (ownCheck_of (root := root) (r := (a, c, d)) (ps := ps) h0)
    have d0 : decide (0 ≤ t ∧ t ≤ 7) = true := by simpa using h0
    clear h0
    go_enter Tryz.func12, Tryz.ntmps12
    go_wp2_with (go_at_call 47; refine (c47 _ _).mono ?_; rintro e w' ⟨rfl, rfl⟩)
    refine (c19 t a c d _ (unhide HF)).mono ?_
    rintro e w1 ⟨rfl, hb1⟩
    have HB1 := hide (below_tr (below_a _) hb1)
    clear hb1
    generalize hy : Tm.ownLeaf t (a, c, d) = y at *
    have HY := hide hy
    clear hy
    go_wp2_with fail
    refine (c48 ps root 8 t y ao n cap _ HN.out hcap hm ((unhide HR).bel (unhide HB1))).mono ?_
    rintro e w2 ⟨rfl, hb2⟩
    have HB2 := hide (below_tr (unhide HB1) hb2)
    clear hb2 HB1
    generalize hz : Tm.treCheck root 8 t y ps = z at *
    have HZ := hide hz
    clear hz
    go_wp2_with fail
    go_ret
    exact ⟨ret_bool (by rw [unhide HE]), unhide HB2⟩
  · have HE := hide (ownCheck_no (root := root) (r := (a, c, d)) (ps := ps) h0)
    have d0 : decide (0 ≤ t ∧ t ≤ 7) = false := by simpa using h0
    clear h0
    go_enter Tryz.func12, Tryz.ntmps12
    go_wp2_with (go_at_call 47; refine (c47 _ _).mono ?_; rintro e w' ⟨rfl, rfl⟩)
    go_ret
    exact ⟨ret_bool (unhide HE).symm, below_a _⟩

set_option maxHeartbeats 800000 in
theorem c42 (ps : List Int) (root t a c : Int) (d : Bool) (ao : Option Addr) (n cap : Nat) (w : World) (hn : ps.length = n) (hcap : n ≤ cap) (hm : n ≤ 1048576) (hf : FitR (a, c, d)) (hr : Row w ao ps) :
    Calls Tryz.prog 42 #[.int .i64 root, .int .i64 t, rowV a c d, .slice ao n cap] w fun e w' => e = .returned (.bool (Tm.ownCheck root t (a, c, d) ps)) ∧ Below w.heap.size w w' := by
  have HF := hide hf
  have HR := hide hr
  have HN := hide hn
  clear hf hr hn
  by_cases h0 : 0 ≤ t ∧ t ≤ 7
  · have HE := hide (ownCheck_of (root := root) (r := (a, c, d)) (ps := ps) h0)
    have d0 : decide (0 ≤ t ∧ t ≤ 7) = true := by simpa using h0
    clear h0
    go_enter Tryz.func42, Tryz.ntmps42
    go_wp2_with (go_at_call 40; refine (c40 _ _ _ _).mono ?_; rintro e w' ⟨rfl, rfl⟩)
    refine (c80 t a c d _ (unhide HF)).mono ?_
    rintro e w1 ⟨rfl, hb1⟩
    have HB1 := hide (below_tr (below_a _) hb1)
    clear hb1
    generalize hy : Tm.ownLeaf t (a, c, d) = y at *
    have HY := hide hy
    clear hy
    go_wp2_with fail
    refine (c79 ps root 8 t y ao n cap _ HN.out hcap hm ((unhide HR).bel (unhide HB1))).mono ?_
    rintro e w2 ⟨rfl, hb2⟩
    subst hb2
    have HB2 := HB1
    clear HB1
    generalize hz : Tm.treCheck root 8 t y ps = z at *
    have HZ := hide hz
    clear hz
    go_wp2_with fail
    go_ret
    exact ⟨ret_bool (by rw [unhide HE]), unhide HB2⟩
  · have HE := hide (ownCheck_no (root := root) (r := (a, c, d)) (ps := ps) h0)
    have d0 : decide (0 ≤ t ∧ t ≤ 7) = false := by simpa using h0
    clear h0
    go_enter Tryz.func42, Tryz.ntmps42
    go_wp2_with (go_at_call 40; refine (c40 _ _ _ _).mono ?_; rintro e w' ⟨rfl, rfl⟩)
    go_ret
    exact ⟨ret_bool (unhide HE).symm, below_a _⟩

end Go.Proofs.YtmlbphmbffkdnaaGreat
namespace Go.Proofs.YtmlbphmbffkdnaaGreat
open Go.RowKit
set_option linter.unusedVariables false
set_option maxRecDepth 100000

theorem RRow.at {w : World} {b off j : Nat} {rs : List Tm.Rw} {a c : Int} {d : Bool} (h : RRow w (some ⟨b, off, none⟩) rs) (hj : rs[j]? = some (a, c, d)) :
    w.cell? ⟨b, off + j * 3, none⟩ = some (.int .i64 a) ∧ w.cell? ⟨b, off + j * 3 + 1, none⟩ = some (.int .i64 c) ∧ w.cell? ⟨b, off + j * 3 + 2, none⟩ = some (.bool d) := by
  obtain ⟨b', off', he, hc⟩ := h.2 (by intro e; subst e; simp at hj)
  cases he
  exact r_cells (Below.refl _ _) hc hj
end Go.Proofs.YtmlbphmbffkdnaaGreat
namespace Go.Proofs.YtmlbphmbffkdnaaGreat
open Go.RowKit
set_option linter.unusedVariables false
set_option maxRecDepth 100000

theorem rowa_young {w : World} {base g : Nat} {ao : Option Addr} {ps : List Int} (h : RowA w base ao ps) (hy : ∀ a, ao = some a → a.block < g) (i : Nat) (v : Value) : RowA (w.setCell ⟨g, i, none⟩ v) base ao ps := ⟨h.1.kpt (grown_cel w g i v) (fun a ha e => by have := hy a ha; simp only [Option.some.injEq] at e; omega), h.2⟩
end Go.Proofs.YtmlbphmbffkdnaaGreat
