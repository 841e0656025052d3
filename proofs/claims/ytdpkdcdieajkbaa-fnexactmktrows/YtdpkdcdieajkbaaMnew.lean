/-
  A new market: the program and the model.
-/
import Derived.Test.YtdpkdcdieajkbaaHouh
import Derived.Test.YtdpkdcdieajkbaaMona
import Derived.Deep.RegionHeld3
namespace Go.Proofs.Ytdpkdcdieajkbaa
open Go.RowKit
set_option linter.unusedVariables false
set_option maxRecDepth 100000

def newH (p : List Int) : House := if Tm.monOk p = true ∧ monSum p ≤ 100000 then ⟨[], p, [], 0, [0, 0, 0, 0, 0], [0, 0, 0, 0, 0]⟩ else ⟨[], [], [], 0, [], []⟩
def HTold (w : World) (h : House) (e : Ending) (w' : World) : Prop := ∃ q, e = .returned (hV q h) ∧ HOwn w' w.heap.size q h ∧ Below w.heap.size w w'
theorem upon_run {α : Type} {P : Program} {o : Oper} {a : Act} {next : Act → World → Prop} {Q : Exit → Act → World → Prop} {w w' : World} {m : Sem α} {k : α → World → Result Next} {x : α}
    (h : Sem.run P m w = .ok x w') (h2 : Oper.upon P o a next Q (k x w')) : Oper.upon P o a next Q ((Sem.run P m w).andThen k) := by
  rw [h]; exact h2
theorem mk5 (w : World) : Sem.run Try.prog (Instr.makeSlice 39 (.int .i64 5) (.int .i64 5)) w = .ok (.slice (some ⟨w.heap.size, 0, none⟩) 5 5) (w.alloc (.cells #[.int .i64 0, .int .i64 0, .int .i64 0, .int .i64 0, .int .i64 0] 3)) := by kernel_rfl
theorem own5 (w : World) : Own (w.alloc (.cells #[.int .i64 0, .int .i64 0, .int .i64 0, .int .i64 0, .int .i64 0] 3)) w.heap.size (.slice (some ⟨w.heap.size, 0, none⟩) 5 5) [0, 0, 0, 0, 0] := by
  refine ⟨fun z hz => ?_, ?_⟩
  · simp at hz; subst hz; omega
  · exact World.ownsRow_lit (base := w.heap.size) (e := 3) (size := 1) w #[.int .i64 0, .int .i64 0, .int .i64 0, .int .i64 0, .int .i64 0] 5 (Nat.le_refl _) (by unfold maxLen; omega) rfl
theorem apt_new {w w' : World} {base : Nat} {v u : Value} {zs ys : List Int} (h : Own w base v zs) (hu : Own w' w.heap.size u ys) : Apt v u := fun b hb e => by
  have h1 := (h.2.lt b hb).2
  have h2 := (hu.2.lt b e.symm).1
  omega
theorem apt_nil (u : Value) : Apt (.slice none 0 0) u := fun b hb => by simp [Value.ownBlock] at hb
theorem apt_nil' (u : Value) : Apt u (.slice none 0 0) := (apt_nil u).symm
theorem eown_nil (w : World) (base : Nat) (h : base ≤ w.heap.size) : EOwn w base (.slice none 0 0) [] := ⟨fun e he => by simp at he, owns_nil w base 4 _ h⟩
theorem down_nil (w : World) (base : Nat) (h : base ≤ w.heap.size) : DOwn w base (.slice none 0 0) [] := ⟨fun e he => by simp at he, owns_nil w base 5 _ h⟩
theorem own_nilM (w : World) (base : Nat) (h : base ≤ w.heap.size) : Own w base (.slice none 0 0) [] := ⟨fun e he => by simp at he, owns_nil w base 1 _ h⟩
theorem newT {w w' : World} {p : List Int} {a1 a4 a5 : Option Addr} {k1 : Nat} (o1 : Own w' w.heap.size (.slice a1 p.length k1) p) (o4 : Own w' w.heap.size (.slice a4 5 5) [0, 0, 0, 0, 0]) (o5 : Own w' w.heap.size (.slice a5 5 5) [0, 0, 0, 0, 0])
    (p14 : Apt (.slice a1 p.length k1) (.slice a4 5 5)) (p15 : Apt (.slice a1 p.length k1) (.slice a5 5 5)) (p45 : Apt (.slice a4 5 5) (.slice a5 5 5)) (hb : Below w.heap.size w w') :
    HTold w ⟨[], p, [], 0, [0, 0, 0, 0, 0], [0, 0, 0, 0, 0]⟩ (.returned (.agg #[.slice none 0 0, .slice a1 p.length k1, .slice none 0 0, .int .i64 0, .slice a4 5 5, .slice a5 5 5])) w' := by
  refine ⟨⟨none, 0, a1, k1, none, 0, a4, 5, a5, 5⟩, rfl, ?_, hb⟩
  refine ⟨eown_nil _ _ hb.size, o1, down_nil _ _ hb.size, o4, o5, ?_⟩
  exact ⟨apt_nil _, apt_nil _, apt_nil _, apt_nil _, apt_nil' _, p14, p15, apt_nil _, apt_nil _, p45⟩
theorem grownC (w : World) (g i : Nat) (v : Value) : w.grownBy (w.setCell ⟨g, i, none⟩ v) (some g) := by
  refine ⟨rfl, rfl, rfl, by simp, fun k hk hne => ?_⟩
  have hgk : g ≠ k := fun e => hne (by rw [e])
  show (w.heap.modify g _)[k]? = _
  rw [Array.getElem?_modify, if_neg hgk]
theorem six_grown (w : World) (g : Nat) (a b c d e f : Value) : w.grownBy ((((((w.setCell ⟨g, 0, none⟩ a).setCell ⟨g, 1, none⟩ b).setCell ⟨g, 2, none⟩ c).setCell ⟨g, 3, none⟩ d).setCell ⟨g, 4, none⟩ e).setCell ⟨g, 5, none⟩ f) (some g) :=
  grow_trans (grow_trans (grow_trans (grow_trans (grow_trans (grownC _ _ _ _) (grownC _ _ _ _)) (grownC _ _ _ _)) (grownC _ _ _ _)) (grownC _ _ _ _)) (grownC _ _ _ _)
theorem box_put6 {w : World} {g : Nat} {x0 x1 x2 x3 x4 x5 : Value} (h : Box w g [x0, x1, x2, x3, x4, x5]) (a b c d e f : Value) : Box ((((((w.setCell ⟨g, 0, none⟩ a).setCell ⟨g, 1, none⟩ b).setCell ⟨g, 2, none⟩ c).setCell ⟨g, 3, none⟩ d).setCell ⟨g, 4, none⟩ e).setCell ⟨g, 5, none⟩ f) g [a, b, c, d, e, f] := h.store [a, b, c, d, e, f] rfl

end Go.Proofs.Ytdpkdcdieajkbaa
