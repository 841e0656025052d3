/-
  The walk of the model's draw of a proof that is shown: l20Shown.
-/
import Derived.Laws.AppendOwnNone
import Derived.Test.YtimaidcjccakeaaForge
namespace Go.Proofs.Ytimaidcjccakeaa
open Go.RowKit
set_option linter.unusedVariables false

theorem grown_of_belowR {w w' : World} {row : Option Nat} (h : Below w.heap.size w w') : w.grownBy w' row := ⟨h.os, h.tape, h.output, h.size, fun k hk _ => h.block k hk⟩
theorem grown_young {w0 W : World} {r g p : Nat} {u : Value} (h : w0.grownBy W (some r)) (hg : w0.heap.size ≤ g) : w0.grownBy (W.setCell ⟨g, p, none⟩ u) (some r) :=
  ⟨h.os, h.tape, h.output, by have := h.size; simpa [World.setCell] using this, fun kk hk hr => ((grown_set W g p u).block kk (by have := h.size; omega) (by simp; omega)).trans (h.block kk hk hr)⟩
theorem results_tmp4 {fn : Func} {t u v x : Tmp} (h : fn.results = #[.tmp t, .tmp u, .tmp v, .tmp x]) (tmps : Array Value) (P : Program) (w : World) :
    (results fn tmps).run P w = .ok (.tuple #[tmps.getD t undef, tmps.getD u undef, tmps.getD v undef, tmps.getD x undef]) w := by
  simp [results, h]
theorem results_tmp5 {fn : Func} {t u v x y : Tmp} (h : fn.results = #[.tmp t, .tmp u, .tmp v, .tmp x, .tmp y]) (tmps : Array Value) (P : Program) (w : World) :
    (results fn tmps).run P w = .ok (.tuple #[tmps.getD t undef, tmps.getD u undef, tmps.getD v undef, tmps.getD x undef, tmps.getD y undef]) w := by
  simp [results, h]
theorem grown_refl (w : World) (row : Option Nat) : w.grownBy w row := ⟨rfl, rfl, rfl, Nat.le_refl _, fun _ _ _ => rfl⟩
theorem Own.rowOf {w : World} {base n cap : Nat} {ao : Option Addr} {zs : List Int} (h : Own w base (.slice ao n cap) zs) : Row w ao zs := by
  obtain ⟨ao', cap', e, -, hr, -⟩ := h.row
  cases e
  exact hr

/-- Where a draw of a list and of a proof stands: both are the draw's own, the reader is so far on, and nothing older is written. -/
def St (w0 W : World) (r k : Nat) (v : Value) (zs : List Int) (pv : Value) (ps : List Int) : Prop :=
  r < w0.heap.size ∧ Own W w0.heap.size v zs ∧ Own W w0.heap.size pv ps ∧ Rd W r k ∧ w0.grownBy W (some r)
theorem St.step {w0 W W' : World} {r k k' : Nat} {v pv : Value} {zs ps : List Int} (h : St w0 W r k v zs pv ps) (hg : W.grownBy W' (some r)) (hr : Rd W' r k') : St w0 W' r k' v zs pv ps :=
  ⟨h.1, h.2.1.keptR hg h.1, h.2.2.1.keptR hg h.1, hr, grown_trans h.2.2.2.2 hg⟩
theorem St.mono {w0 W : World} {r k k' : Nat} {v pv : Value} {zs ps : List Int} (h : St w0 W r k v zs pv ps) (hk : k ≤ k') : St w0 W r k' v zs pv ps :=
  ⟨h.1, h.2.1, h.2.2.1, h.2.2.2.1.mono hk, h.2.2.2.2⟩
/-- another proof in the place of the one that was there -/
theorem St.other {w0 W W' : World} {r k : Nat} {v pv pv' : Value} {zs ps ps' : List Int} (h : St w0 W r k v zs pv ps) (hb : Below W.heap.size W W') (ho : Own W' W.heap.size pv' ps') : St w0 W' r k v zs pv' ps' :=
  ⟨h.1, h.2.1.keptR (grown_of_belowR hb) h.1, ho.mono h.2.2.2.2.size, h.2.2.2.1.kept (row := none) (grown_of_below hb) (fun b e => by cases e), grown_trans h.2.2.2.2 (grown_of_belowR hb)⟩
theorem St.size {w0 W : World} {r k : Nat} {v pv : Value} {zs ps : List Int} (h : St w0 W r k v zs pv ps) : w0.heap.size ≤ W.heap.size := h.2.2.2.2.size

/-- one more number behind the proof -/
theorem St.snoc {w0 W W' : World} {r k B b : Nat} {v pv pv' : Value} {zs ps : List Int} {x : Int} {o : Obj} (h : St w0 W r k v zs pv ps) (hb : v.ownBlock = some b) (hB : b < B) (hp : Own W B pv ps) (hx : -9223372036854775808 ≤ x ∧ x ≤ 9223372036854775807)
    (hown : W'.ownsRow w0.heap.size 3 1 pv' (ps.length + 1) (ps.map (Value.int .i64) ++ [.int .i64 x])) (hg : (W.alloc o).grownBy W' pv.ownBlock) : St w0 W' r k v zs pv' (ps ++ [x]) := by
  refine ⟨h.1, ⟨h.2.1.1, (h.2.1.2.alloc o).kept hg (Or.inr ?_)⟩, own_snoc h.2.2.1.1 hx hown, h.2.2.2.1.own h.2.2.1 h.1 hg, grown_own h.2.2.1 h.2.2.2.2 (Nat.le_refl _) hg⟩
  rw [hb]
  intro e
  have := own_block hp b e.symm
  omega

def Shown (w : World) (r k : Nat) (e : Ending) (w' : World) : Prop :=
  ∃ (v pv : Value) (zs qs : List Int) (i x : Int), e = .returned (.tuple #[v, .int .i64 i, .int .i64 x, pv]) ∧ St w w' r k v zs pv qs ∧ zs.length ≤ 41 ∧ qs.length ≤ 7 ∧ (0 ≤ i ∧ i ≤ 41) ∧ (-9223372036854775808 ≤ x ∧ x ≤ 9223372036854775807)

/-- a list's numbers, copied behind none -/
theorem src_cells {W : World} {b off : Nat} {o : Obj} {ps : List Int} (h : ∀ k, k < ps.length → W.cell? ⟨b, off + k, none⟩ = some (.int .i64 (ps.getD k 0))) :
    ∀ (j : Nat) (u : Value), (ps.map (Value.int .i64))[j]? = some u → (W.alloc o).cell? (Addr.add ⟨b, off, none⟩ j) = some u := by
  intro j u hj
  rw [List.getElem?_map] at hj
  have hjl : j < ps.length := by
    rcases Nat.lt_or_ge j ps.length with h | h
    · exact h
    · rw [List.getElem?_eq_none h] at hj; cases hj
  have h1 := h j hjl
  rw [List.getElem?_eq_getElem hjl] at hj
  cases hj
  have e : (Addr.add ⟨b, off, none⟩ j) = ⟨b, off + j, none⟩ := by unfold Addr.add; split <;> simp_all
  rw [e, World.cell?_alloc_lt _ _ _ (World.block_lt_of_cell? W _ h1), h1, Tm.getD_eq hjl]

end Go.Proofs.Ytimaidcjccakeaa
