/-
  Texts of the proof, what it needs of them: Lawsgs.
-/
import Derived.Deep.Slices
import Derived.Lib.SmallJoins
import Derived.OpenShut
import Derived.ProofKit
import Derived.Test.YtmlbphmbffkdnaaGw24
import Derived.Test.YtmlbphmbffkdnaaGw40
import Derived.Test.YtmlbphmbffkdnaaGw48
namespace Go.Proofs.Ytmlbphmbffkdnaa
open Go.RowKit
set_option linter.unusedVariables false
set_option maxRecDepth 100000

theorem toI2 (zs : List Int) (ao : Option Addr) (n cap : Nat) (w : World) (hn : zs.length = n) (hm : n ≤ 1048576) (hr : Row w ao zs) : Calls Try.prog 89 #[.slice ao n cap] w fun e w' => ∃ a, e = .returned (.slice a n n) ∧ Own w' w.heap.size (.slice a n n) zs ∧ Below w.heap.size w w' :=
  (c89 zs ao n cap w hn hm hr).mono fun e w' hh => ⟨_, hh.1, hh.2.1, hh.2.2⟩
theorem own_cap0' {w : World} {base : Nat} {a : Option Addr} {n c : Nat} {zs : List Int} (h : Own w base (.slice a n c) zs) : a = none → c = 0 := fun e => by subst e; exact own_cap0 h
theorem live_add2 {w w' : World} {base : Nat} {L : List LRow} {x y : LRow} (h : Live w base L) (hb : Below w.heap.size w w') (hB : base ≤ w.heap.size) (hx : w'.ownsRow w.heap.size x.1 x.2.1 x.2.2.1 x.2.2.2.1 x.2.2.2.2) (hy : w'.ownsRow w.heap.size y.1 y.2.1 y.2.2.1 y.2.2.2.1 y.2.2.2.2) (hne : x.1 ≠ y.1) : Live w' base (x :: y :: L) := by
  have h2 := live_new (A := []) (C := L) (T := y.1) (n := y.2.1) (v := y.2.2.1) (m := y.2.2.2.1) (cs := y.2.2.2.2) h hb (owns_mono hy hB) (fun k hk => (hy.lt k hk).1)
  refine live_pair (A := []) (C := y :: L) |>.2 ⟨h2, owns_mono hx hB, fun z hz => ?_⟩
  rcases List.mem_cons.1 hz with rfl | hz
  · exact rows_apart hx hy hne
  · intro b hbk e
    have h3 := (hx.lt b hbk).1
    have h4 := ((h.1 z hz).lt b e.symm).2
    omega
theorem live_put {w : World} {base : Nat} {A C : List LRow} {T n g m c : Nat} {cs : List Value} (h : Live w base (A ++ (T, n, .slice (some ⟨g, 0, none⟩) m c, m, cs) :: C)) (j : Nat) (v : Value) : Live (w.setCell ⟨g, j, none⟩ v) base (A ++ (T, n, .slice (some ⟨g, 0, none⟩) m c, m, cs.set j v) :: C) := by
  have h1 := ((live_pair.1 h).2.1).stored j v
  exact live_grow h h1.2 h1.1 (.inl rfl)
theorem live_drop {w w' : World} {base : Nat} {A C : List LRow} {x : LRow} (h : Live w base (A ++ x :: C)) (hg : w.grownBy w' x.2.2.1.ownBlock) : Live w' base (A ++ C) := by
  obtain ⟨h1, h2, h3⟩ := live_pair.1 h
  refine ⟨fun y hy => (h1.1 y hy).kept hg ?_, h1.2⟩
  rcases e : y.2.2.1.ownBlock with _ | b
  · exact .inl rfl
  · exact .inr fun e2 => h3 y hy b e2.symm (by rw [e])

end Go.Proofs.Ytmlbphmbffkdnaa
