/-
  Texts of the proof, what it needs of them: Arow.
-/
import Derived.Deep.WholeRow
import Derived.Laws.CopyOwn
import Derived.Test.YtmlbphmbffkdnaaGw12
import Derived.Test.YtmlbphmbffkdnaaGw18
import Derived.WideMake
namespace Go.Proofs.Ytmlbphmbffkdnaa
open Go.RowKit
set_option linter.unusedVariables false
set_option maxRecDepth 100000

abbrev rowsV (rs : List Tm.Rw) : Value := .agg (rs.flatMap rCells).toArray
theorem flat_oneCell (rs : List Tm.Rw) : ∀ u ∈ rs.flatMap rCells, u.oneCell' = true := by
  intro u hu
  rw [List.mem_flatMap] at hu
  obtain ⟨r, -, h⟩ := hu
  simp [rCells] at h
  rcases h with rfl | rfl | rfl <;> rfl

theorem wpList_load_run {P : Program} {w : World} {ops : Array Oper} {rest : List Oper} {o : Oper} {a : Act} {Q : Exit → Act → World → Prop} (hgd : o.guard = none) (x : Operand) (t : TypeId)
    (ho : o.op = .load t x) (p : Value) (hx : a.eval x = p) {v : Value} {w' : World} (hr : (Instr.loadAt t p).run P w = .ok v w') (h : wpList P ops Q rest (a.put o.dst v) w') : wpList P ops Q (o :: rest) a w := by
  refine wpList_plain hgd fun K hK => ?_
  unfold Oper.wp
  simp only [execOp, ho, hx, Sem.run_bind, hr, Result.andThen_ok, Sem.run_pure]
  exact hK _ _ h
theorem wpList_store_run {P : Program} {w : World} {ops : Array Oper} {rest : List Oper} {o : Oper} {a : Act} {Q : Exit → Act → World → Prop} (hgd : o.guard = none) (x y : Operand) (t : TypeId)
    (ho : o.op = .store t x y) (p u : Value) (hx : a.eval x = p) (hy : a.eval y = u) {w' : World} (hr : (Instr.storeAt t p u).run P w = .ok () w') (h : wpList P ops Q rest (a.put o.dst undef) w') : wpList P ops Q (o :: rest) a w := by
  refine wpList_plain hgd fun K hK => ?_
  unfold Oper.wp
  simp only [execOp, ho, hx, hy, Sem.run_bind, hr, Result.andThen_ok, Sem.run_pure]
  exact hK _ _ h

/-- an array of rows in a block of its own -/
def Arr (w : World) (g : Nat) (rs : List Tm.Rw) : Prop := w.heap[g]? = some (.cells (rs.flatMap rCells).toArray 138 (0, 0))
theorem Arr.lt {w : World} {g : Nat} {rs : List Tm.Rw} (h : Arr w g rs) : g < w.heap.size := (Array.getElem?_eq_some_iff.1 h).1
theorem Arr.bel {w w' : World} {g : Nat} {rs : List Tm.Rw} (h : Arr w g rs) (hb : Below w.heap.size w w') : Arr w' g rs := (hb.block g h.lt).trans h
theorem Arr.alloc {w : World} {g : Nat} {rs : List Tm.Rw} (h : Arr w g rs) (o : Obj) : Arr (w.alloc o) g rs := h.bel (below_a _)
theorem arr_new (w : World) (rs : List Tm.Rw) : Arr (w.alloc (.cells (rs.flatMap rCells).toArray 138)) w.heap.size rs := heap_alloc_last w _
theorem Arr.set {w : World} {g : Nat} {rs : List Tm.Rw} (h : Arr w g rs) (rs' : List Tm.Rw) : Arr (w.setRow g (rs'.flatMap rCells).toArray) g rs' := setRow_heap w g _ _ _ _ h
theorem Arr.oth {w : World} {g k : Nat} {rs : List Tm.Rw} (h : Arr w g rs) (hne : g ≠ k) (c : Array Value) : Arr (w.setRow k c) g rs := (setRow_other w k g c hne).trans h
theorem below_row {A w : World} {g : Nat} (h : Below A.heap.size A w) (hg : A.heap.size ≤ g) (c : Array Value) : Below A.heap.size A (w.setRow g c) := below_setRow h hg c
theorem rows_size {rs : List Tm.Rw} (h : rs.length = 8) : (rs.flatMap rCells).toArray.size = 24 := by simp [flat_len rCells 3 rCells_len, h]
theorem Try.infoA : (Try.prog.info? 138).map (·.size) = some 24 := by kernel_rfl
theorem Arr.load {w : World} {g : Nat} {rs : List Tm.Rw} (h : Arr w g rs) (hl : rs.length = 8) : (Instr.loadAt 138 (.pointer (some ⟨g, 0, none⟩))).run Try.prog w = .ok (rowsV rs) w := by
  simp only [Instr.loadAt, Instr.sureAddr, Sem.run_bind, Sem.run_pure, Result.andThen]
  exact run_loadVar_row (P := Try.prog) w g _ _ _ _ _ h Try.underlying138 rfl (by rw [rows_size hl]; exact Try.infoA)
theorem Arr.loadVar {w : World} {g : Nat} {rs : List Tm.Rw} (h : Arr w g rs) (hl : rs.length = 8) : (Go.loadVar 138 ⟨g, 0, none⟩).run Try.prog w = .ok (rowsV rs) w :=
  run_loadVar_row (P := Try.prog) w g _ _ _ _ _ h Try.underlying138 rfl (by rw [rows_size hl]; exact Try.infoA)
theorem Arr.store {w : World} {g : Nat} {rs rs' : List Tm.Rw} (h : Arr w g rs) (hl : rs.length = 8) (hl' : rs'.length = 8) : (Instr.storeAt 138 (.pointer (some ⟨g, 0, none⟩)) (rowsV rs')).run Try.prog w = .ok () (w.setRow g (rs'.flatMap rCells).toArray) := by
  simp only [Instr.storeAt, Instr.sureAddr, Sem.run_bind, Sem.run_pure, Result.andThen]
  exact run_storeVar_row w g _ _ _ _ h (by rw [rows_size hl']; exact Try.infoA) (by rw [rows_size hl, rows_size hl']) (Array.all_eq_true_iff_forall_mem.2 (fun v hv => flat_oneCell rs' v (by simpa using hv)))
theorem rrow_src {w : World} {a : Addr} {rs : List Tm.Rw} (h : RRow w (some a) rs) : ∀ (j : Nat) (u : Value), (rs.flatMap rCells)[j]? = some u → w.cell? (a.add j) = some u := by
  intro j u hj
  obtain ⟨b, off, e, hc⟩ := h.2 (by intro e; subst e; simp at hj)
  cases e
  have e : (Addr.add ⟨b, off, none⟩ j) = ⟨b, off + j, none⟩ := by unfold Addr.add; split <;> simp_all
  rw [e]; exact hc j u hj
theorem results_ct {fn : Func} {c d : Tmp} {t : TypeId} (h : fn.results = #[.cell c t, .tmp d]) {tmps : Array Value} {P : Program} {w : World} {a : Addr} {v : Value} (ha : tmps.getD c undef = .pointer (some a)) (hl : (Go.loadVar t a).run P w = .ok v w) :
    (results fn tmps).run P w = .ok (.tuple #[v, tmps.getD d undef]) w := by
  have ha' : tmps[c]?.getD undef = .pointer (some a) := by simpa using ha
  simp [results, h, asAddr, ha', hl]
theorem results_c {fn : Func} {c : Tmp} {t : TypeId} (h : fn.results = #[.cell c t]) {tmps : Array Value} {P : Program} {w : World} {a : Addr} {v : Value} (ha : tmps.getD c undef = .pointer (some a)) (hl : (Go.loadVar t a).run P w = .ok v w) :
    (results fn tmps).run P w = .ok v w := by
  have ha' : tmps[c]?.getD undef = .pointer (some a) := by simpa using ha
  simp [results, h, asAddr, ha', hl]
end Go.Proofs.Ytmlbphmbffkdnaa
namespace Go.Proofs.Ytmlbphmbffkdnaa
open Go.RowKit
set_option linter.unusedVariables false
set_option maxRecDepth 100000

/-- a map in a block of its own -/
def Mp (w : World) (r : Nat) (es : Array MapEntry) (clock : Nat) : Prop := w.heap[r]? = some (.map es clock)
/-- the world with another map in that block -/
def putMap (w : World) (r : Nat) (es : Array MapEntry) (clock : Nat) : World := { w with heap := w.heap.setIfInBounds r (.map es clock) }
theorem Mp.put {w : World} {r clock clock' : Nat} {es es' : Array MapEntry} (h : Mp w r es clock) : Mp (putMap w r es' clock') r es' clock' := by
  have := (Array.getElem?_eq_some_iff.1 h).1
  simp [Mp, putMap, this]
theorem Box.kpt {W w : World} {g : Nat} {vs : List Value} {row : Option Nat} (h : Box W g vs) (hg : W.grownBy w row) (hne : some g ≠ row) : Box w g vs := fun j v hv => by
  have hc := (h j v hv).1
  have hl := World.block_lt_of_cell? W _ hc
  have hb := hg.block g hl hne
  exact ⟨(World.cell?_of_block (a := ⟨g, j, none⟩) hb).trans hc, (World.frozen?_of_block (a := ⟨g, j, none⟩) hb).trans (h j v hv).2⟩

theorem grown_tr' {a b c : World} {row : Option Nat} (h1 : a.grownBy b row) (h2 : b.grownBy c row) : a.grownBy c row :=
  ⟨h2.os.trans h1.os, h2.tape.trans h1.tape, h2.output.trans h1.output, Nat.le_trans h1.size h2.size, fun k hk hr => (h2.block k (Nat.lt_of_lt_of_le hk h1.size) hr).trans (h1.block k hk hr)⟩
end Go.Proofs.Ytmlbphmbffkdnaa
