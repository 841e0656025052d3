/-
  The walks of chapter 6: whether purses are ok, what somebody has, the sum, a copy, turning a purse.
  The walks of chapter 6: copies of lists, turning a purse.
  The walk of the model's MonTurn.
-/
import Derived.Laws.AppendOwnNone
import Derived.Test.YtimaidcjccakeaaKeep
import Derived.Test.YtimaidcjccakeaaEnta
import Derived.Test.YtimaidcjccakeaaMath
namespace Go.Proofs.Ytimaidcjccakeaa
open Go.RowKit
set_option linter.unusedVariables false
set_option maxRecDepth 100000

def sumTo (p : List Int) (k : Nat) : Int := (p.take k).foldl (fun s x => wrap64 (s + x)) 0
theorem sumTo_zero (p : List Int) : sumTo p 0 = 0 := by simp [sumTo]
theorem sumTo_succ (p : List Int) (k : Nat) (h : k < p.length) : sumTo p (k + 1) = wrap64 (sumTo p k + p.getD k 0) := by
  unfold sumTo; rw [Tm.take_snoc p k h, List.foldl_append]; rfl
def monSum (p : List Int) : Int := sumTo p p.length

set_option maxHeartbeats 400000 in
theorem c162 (n a b : Int) (w : World) : Calls Try.prog 162 #[.int .i64 n, .int .i64 a, .int .i64 b] w fun e w' => e = .returned (.bool (decide (a ≤ n ∧ n ≤ b))) ∧ w' = w := by
  by_cases h0 : a ≤ n
  · go_enter Try.func162, Try.ntmps162
    go_wp2
    go_ret
    exact ⟨ret_bool (by simp [h0]), rfl⟩
  · have h1 : decide (a ≤ n) = false := by simpa using h0
    go_enter Try.func162, Try.ntmps162
    go_wp2
    go_ret
    exact ⟨ret_bool (by simp), rfl⟩

end Go.Proofs.Ytimaidcjccakeaa
namespace Go.Proofs.Ytimaidcjccakeaa
open Go.RowKit
set_option linter.unusedVariables false
set_option maxRecDepth 100000

theorem row_none {w : World} {p : List Int} (h : Row w none p) : p = [] := by
  by_cases e : p = []
  · exact e
  · obtain ⟨b, off, h2, -⟩ := h.2 e; cases h2
theorem row_src {w : World} {a : Addr} {p : List Int} (h : Row w (some a) p) : ∀ (j : Nat) (u : Value), (p.map (Value.int .i64))[j]? = some u → w.cell? (a.add j) = some u := by
  intro j u hj
  rw [List.getElem?_map] at hj
  have hjl : j < p.length := by
    rcases Nat.lt_or_ge j p.length with h | h
    · exact h
    · rw [List.getElem?_eq_none h] at hj; cases hj
  obtain ⟨b, off, e, hc⟩ := h.2 (by intro e; subst e; simp at hjl)
  cases e
  have h1 := hc j hjl
  rw [List.getElem?_eq_getElem hjl] at hj
  cases hj
  have e : (Addr.add ⟨b, off, none⟩ j) = ⟨b, off + j, none⟩ := by unfold Addr.add; split <;> simp_all
  rw [e, h1, Tm.getD_eq hjl]
theorem row_alloc {w : World} {ao : Option Addr} {p : List Int} (h : Row w ao p) (o : Obj) : Row (w.alloc o) ao p := h.bel (below_a _)
theorem own_new {w w2 : World} {p : List Int} {v : Value} {n : Nat} (hf : Fits p) (h : w2.ownsRow w.heap.size 3 1 v (0 + p.length) ([] ++ p.map (Value.int .i64))) : Own w2 w.heap.size v p := ⟨hf, by simpa using h⟩
theorem own_cap0 {w : World} {base n cap : Nat} {zs : List Int} (h : Own w base (.slice none n cap) zs) : cap = 0 := by
  rcases h.2.2 with ⟨hv, hz⟩ | ⟨g', cap', cur, hv, rr⟩
  · cases hv; rfl
  · cases hv
theorem grown_rf (w : World) (row : Option Nat) : w.grownBy w row := ⟨rfl, rfl, rfl, Nat.le_refl _, fun _ _ _ => rfl⟩
theorem grown_tr {a b c : World} {row : Option Nat} (h1 : a.grownBy b row) (h2 : b.grownBy c row) : a.grownBy c row :=
  ⟨h2.os.trans h1.os, h2.tape.trans h1.tape, h2.output.trans h1.output, Nat.le_trans h1.size h2.size, fun k hk hr => (h2.block k (Nat.lt_of_lt_of_le hk h1.size) hr).trans (h1.block k hk hr)⟩
theorem below_grown0 {a b : World} (h : Below a.heap.size a b) (row : Option Nat) : a.grownBy b row := ⟨h.os, h.tape, h.output, h.size, fun k hk _ => h.block k hk⟩
/-- a list and a yes or no, told together -/
def Told2 (w : World) (zs : List Int) (b : Bool) (e : Ending) (w' : World) : Prop := ∃ v, e = .returned (.tuple #[v, .bool b]) ∧ Own w' w.heap.size v zs ∧ Below w.heap.size w w'

theorem own_set {w : World} {base g n cap : Nat} {p : List Int} {j : Nat} {x : Int} (h : Own w base (.slice (some ⟨g, 0, none⟩) n cap) p) (hn : p.length = n) (hx : -9223372036854775808 ≤ x ∧ x ≤ 9223372036854775807) :
    Own (w.setCell ⟨g, j, none⟩ (.int .i64 x)) base (.slice (some ⟨g, 0, none⟩) n cap) (p.set j x) ∧ w.grownBy (w.setCell ⟨g, j, none⟩ (.int .i64 x)) (some g) := by
  subst hn
  have hst := h.2.stored j (.int .i64 x)
  refine ⟨⟨fun z hz => ?_, ?_⟩, hst.2⟩
  · rcases List.mem_or_eq_of_mem_set hz with h1 | h1
    · exact h.1 z h1
    · subst h1; exact hx
  · rw [List.length_set, List.map_set]; exact hst.1
theorem own_ne {w : World} {base n cap : Nat} {ao : Option Addr} {p : List Int} (h : Own w base (.slice ao n cap) p) (hp : p ≠ []) : ∃ g, ao = some ⟨g, 0, none⟩ := by
  rcases h.2.2 with ⟨hv, hz⟩ | ⟨g', cap', cur, hv, rr⟩
  · exact absurd (List.eq_nil_of_length_eq_zero hz) hp
  · cases hv; exact ⟨g', rfl⟩
theorem own_cell {w : World} {base g n cap : Nat} {p : List Int} (h : Own w base (.slice (some ⟨g, 0, none⟩) n cap) p) (hn : p.length = n) {j : Nat} (hj : j < p.length) :
    w.cell? ⟨g, j, none⟩ = some (.int .i64 (p.getD j 0)) ∧ w.frozen? ⟨g, j, none⟩ = false := by
  subst hn
  refine ⟨?_, h.2.frozenAt j⟩
  rw [h.2.cellAt j (by omega)]
  simp [List.getD, List.getElem?_eq_getElem hj]

end Go.Proofs.Ytimaidcjccakeaa
namespace Go.Proofs.Ytimaidcjccakeaa
open Go.RowKit
set_option linter.unusedVariables false
set_option maxRecDepth 100000

/-- a copy behind an empty list of the call's own -/
theorem own_copy {w w2 : World} {p : List Int} {v : Value} (hf : Fits p) (h : w2.ownsRow w.heap.size 3 1 v (0 + p.length) ([] ++ p.map (Value.int .i64))) (hg : (w.alloc (.cells #[] 3)).grownBy w2 (some w.heap.size)) : Own w2 w.heap.size v p ∧ Below w.heap.size w w2 :=
  ⟨⟨hf, by simpa using h⟩, (below_a (w := w) (.cells #[] 3)).grown hg (below_a (w := w) (.cells #[] 3)).size (fun q hq => by cases hq; exact Nat.le_refl _)⟩
theorem ret_lb {v : Value} {a b : Bool} (h : a = b) : Ending.returned (.tuple #[v, .bool a]) = .returned (.tuple #[v, .bool b]) := by rw [h]
theorem own_copy0 {w : World} (p : List Int) (hp : p = []) : Own (w.alloc (.cells #[] 3)) w.heap.size (.slice (some ⟨w.heap.size, 0, none⟩) p.length 0) p ∧ Below w.heap.size w (w.alloc (.cells #[] 3)) := by
  subst hp; exact ⟨own_empty w w.heap.size (Nat.le_refl _), below_a _⟩

end Go.Proofs.Ytimaidcjccakeaa
