/-
  Texts of the proof, what it needs of them: Live.
-/
import Derived.Test.YtmlbphmbffkdnaaGreatGz33
namespace Go.Proofs.YtmlbphmbffkdnaaGreat
open Go.RowKit
set_option linter.unusedVariables false

theorem run_append_zero {P : Program} {w : World} (base : Nat) (t ty e : TypeId) (i : TypeInfo) (size : Nat) (ht : P.underlying t = some (.slice e)) (hi : P.info? e = some i)
    (v : Value) (n : Nat) (xs : List Value) (hown : w.ownsRow base e size v n xs) (ao : Option Addr) (c : Nat) :
    (Builtin.append_ #[t, t] ty #[v, .slice ao 0 c]).run P w = .ok v w := by
  rcases hown.2 with ⟨rfl, rfl⟩ | ⟨g, cap, cur, rfl, _, _, hnc, _⟩
  · cases ao <;> simp [Builtin.append_, run_underlying ht, sizeOf, typeInfo, hi, Builtin.lenOf, Builtin.firstCells, loadCells, loadCellsFrom]
  · cases ao <;> simp [Builtin.append_, run_underlying ht, sizeOf, typeInfo, hi, Builtin.lenOf, Builtin.firstCells, hnc, storeCells, loadCells, loadCellsFrom]

/-- a slice type and its elements' -/
structure ElT (t e size bytes : Nat) : Prop where
  ht : Tryz.prog.underlying t = some (.slice e)
  hi : ∃ i z, Tryz.prog.info? e = some i ∧ i.zero = some z ∧ i.size = size ∧ i.bytes = bytes ∧ z.cells.size = size
  hp : 0 < size
/-- a list to be copied, in memory -/
def Src (w : World) (ao : Option Addr) (m c size : Nat) (news : List Value) : Prop :=
  news.length = m * size ∧ (∀ u ∈ news, u.oneCell' = true) ∧ (m = 0 ∨ ∃ ad, ao = some ad ∧ ∀ j u, news[j]? = some u → w.cell? (ad.add j) = some u)
theorem Src.bel {w w' : World} {ao : Option Addr} {m c size : Nat} {news : List Value} (h : Src w ao m c size news) (hb : Below w.heap.size w w') : Src w' ao m c size news :=
  ⟨h.1, h.2.1, h.2.2.imp id fun ⟨ad, e, hc⟩ => ⟨ad, e, fun j u hj => cell_bl hb (hc j u hj)⟩⟩
theorem step_copy {w : World} {ops : Array Oper} {o : Oper} {a : Act} {K : Act → World → Prop} {Q : Exit → Act → World → Prop} {E : Prop} (hgd : o.guard = none) (s x : Operand) (t : TypeId)
    (ho : o.op = .call { callee := .builtin .append, args := #[s, x], argTypes := #[t, t] })
    (base : Nat) (e : TypeId) (size bytes : Nat) (T : ElT t e size bytes)
    (v : Value) (hs : a.eval s = v) (hown : w.ownsRow base e size v 0 [])
    (ao : Option Addr) (m c : Nat) (news : List Value) (hx : a.eval x = .slice ao m c) (hsrc : Src w ao m c size news)
    (h63 : m ≤ maxLen) (hbytes : m * bytes ≤ 140737488355328) (hbase : base ≤ w.heap.size)
    (h : ∀ v' w', w'.ownsRow base e size v' m news → w.grownBy w' v.ownBlock → (v'.ownBlock = v.ownBlock ∨ v'.ownBlock = some w.heap.size) → K (a.put o.dst v') w') :
    if Region.wanted o (yielded ops a.tmps) = true then Oper.wp Tryz.prog o a w K Q else E := by
  obtain ⟨i, z, hi, hz, hsize, hby, hzs⟩ := T.hi
  obtain ⟨hl, h1, hc⟩ := hsrc
  rcases Nat.eq_zero_or_pos m with rfl | hm
  · have hn0 : news = [] := List.eq_nil_of_length_eq_zero (by rw [hl]; omega)
    subst hn0
    have hw : Region.wanted o (yielded ops a.tmps) = true := by simp [Region.wanted, hgd]
    rw [if_pos hw]
    have hrun := run_append_zero (P := Tryz.prog) (w := w) base t o.type e i size T.ht hi v 0 [] hown ao c
    unfold Oper.wp
    simp [execOp, ho, resolve, invoke, builtin, hs, hx, hrun, Result.andThen]
    exact h v w hown ⟨rfl, rfl, rfl, Nat.le_refl _, fun k _ _ => rfl⟩ (.inl rfl)
  · obtain ⟨ad, rfl, hcell⟩ := hc.resolve_left (by omega)
    refine step_append_lies w hgd s x t ho base e i z size bytes T.ht hi hz hsize hby hzs T.hp v 0 [] hs hown ad m c news hx hl hcell h1 hm (by omega) (by rw [Nat.zero_add]; exact hbytes) hbase _ rfl ?_
    intro g cap w' h2 h3 h4 h5
    rw [Nat.zero_add, List.nil_append] at h2
    rw [Nat.zero_add]
    exact h _ w' h2 h3 (h4.imp (fun hh => by rw [hh]; rfl) (fun hh => by rw [hh]; rfl))

theorem wpList_copy {w : World} {ops : Array Oper} {rest : List Oper} {o : Oper} {a : Act} {Q : Exit → Act → World → Prop} (hgd : o.guard = none) (s x : Operand) (t : TypeId)
    (ho : o.op = .call { callee := .builtin .append, args := #[s, x], argTypes := #[t, t] })
    (base : Nat) (e : TypeId) (size bytes : Nat) (T : ElT t e size bytes)
    (v : Value) (hs : a.eval s = v) (hown : w.ownsRow base e size v 0 [])
    (ao : Option Addr) (m c : Nat) (news : List Value) (hx : a.eval x = .slice ao m c) (hsrc : Src w ao m c size news)
    (h63 : m ≤ maxLen) (hbytes : m * bytes ≤ 140737488355328) (hbase : base ≤ w.heap.size)
    (h : ∀ v' w', w'.ownsRow base e size v' m news → w.grownBy w' v.ownBlock → (v'.ownBlock = v.ownBlock ∨ v'.ownBlock = some w.heap.size) → wpList Tryz.prog ops Q rest (a.put o.dst v') w') : wpList Tryz.prog ops Q (o :: rest) a w := by
  refine wpList_plain hgd fun K hK => ?_
  have hw : Region.wanted o (yielded ops a.tmps) = true := by simp [Region.wanted, hgd]
  have h2 := step_copy (w := w) (ops := ops) (o := o) (a := a) (K := K) (Q := Q) (E := True) hgd s x t ho base e size bytes T v hs hown ao m c news hx hsrc h63 hbytes hbase (fun v' w' h1 h2 h3 => hK _ _ (h v' w' h1 h2 h3))
  rw [if_pos hw] at h2
  exact h2

/-- element type, its cells, the slice, its length, what it holds -/
abbrev LRow := Nat × Nat × Value × Nat × List Value
def Live (w : World) (base : Nat) (L : List LRow) : Prop := (∀ x ∈ L, w.ownsRow base x.1 x.2.1 x.2.2.1 x.2.2.2.1 x.2.2.2.2) ∧ L.Pairwise (fun x y => Apt x.2.2.1 y.2.2.1)
theorem live_nil (w : World) (base : Nat) : Live w base [] := ⟨fun x hx => absurd hx (by simp), List.Pairwise.nil⟩
theorem Live.bel {w w' : World} {base : Nat} {L : List LRow} (h : Live w base L) (hb : Below w.heap.size w w') : Live w' base L := ⟨fun x hx => owns_below (h.1 x hx) hb, h.2⟩
theorem pair_mid {α : Type} {R : α → α → Prop} (hs : ∀ x y, R x y → R y x) {A C : List α} {x : α} : (A ++ x :: C).Pairwise R ↔ (A ++ C).Pairwise R ∧ ∀ y, y ∈ A ++ C → R x y := by
  rw [List.pairwise_append, List.pairwise_cons, List.pairwise_append]
  constructor
  · rintro ⟨h1, ⟨h2, h3⟩, h4⟩
    refine ⟨⟨h1, h3, fun a ha b hb => h4 a ha b (List.mem_cons_of_mem _ hb)⟩, fun y hy => ?_⟩
    rcases List.mem_append.1 hy with hy | hy
    · exact hs _ _ (h4 y hy x List.mem_cons_self)
    · exact h2 y hy
  · rintro ⟨⟨h1, h3, h4⟩, h5⟩
    refine ⟨h1, ⟨fun y hy => h5 y (List.mem_append_right _ hy), h3⟩, fun a ha b hb => ?_⟩
    rcases List.mem_cons.1 hb with rfl | hb
    · exact hs _ _ (h5 a (List.mem_append_left _ ha))
    · exact h4 a ha b hb
theorem live_pair {w : World} {base : Nat} {A C : List LRow} {x : LRow} : Live w base (A ++ x :: C) ↔ Live w base (A ++ C) ∧ w.ownsRow base x.1 x.2.1 x.2.2.1 x.2.2.2.1 x.2.2.2.2 ∧ ∀ y, y ∈ A ++ C → Apt x.2.2.1 y.2.2.1 := by
  unfold Live
  rw [pair_mid (R := fun x y : LRow => Apt x.2.2.1 y.2.2.1) (fun x y h => h.symm)]
  constructor
  · rintro ⟨h1, h2, h3⟩
    exact ⟨⟨fun y hy => h1 y (by rcases List.mem_append.1 hy with h | h; exact List.mem_append_left _ h; exact List.mem_append_right _ (List.mem_cons_of_mem _ h)), h2⟩, h1 x (List.mem_append_right _ List.mem_cons_self), h3⟩
  · rintro ⟨⟨h1, h2⟩, h3, h4⟩
    refine ⟨fun y hy => ?_, h2, h4⟩
    rcases List.mem_append.1 hy with h | h
    · exact h1 y (List.mem_append_left _ h)
    · rcases List.mem_cons.1 h with rfl | h
      · exact h3
      · exact h1 y (List.mem_append_right _ h)
/-- a new list, empty so far -/
theorem live_new {w w' : World} {base : Nat} {A C : List LRow} {T n : Nat} {v : Value} {m : Nat} {cs : List Value} (h : Live w base (A ++ C)) (hb : Below w.heap.size w w') (ho : w'.ownsRow base T n v m cs) (hv : ∀ k, v.ownBlock = some k → w.heap.size ≤ k) : Live w' base (A ++ (T, n, v, m, cs) :: C) := by
  refine live_pair.2 ⟨h.bel hb, ho, fun y hy b hbk e => ?_⟩
  have h1 := hv b hbk
  have h2 := ((h.1 y hy).lt b e.symm).2
  omega
/-- one of them grows -/
theorem live_grow {w w' : World} {base : Nat} {A C : List LRow} {T n : Nat} {v v' : Value} {m m' : Nat} {cs cs' : List Value} (h : Live w base (A ++ (T, n, v, m, cs) :: C)) (hg : w.grownBy w' v.ownBlock) (ho : w'.ownsRow base T n v' m' cs')
    (hv : v'.ownBlock = v.ownBlock ∨ v'.ownBlock = some w.heap.size) : Live w' base (A ++ (T, n, v', m', cs') :: C) := by
  obtain ⟨h1, h2, h3⟩ := live_pair.1 h
  have hk : ∀ y, y ∈ A ++ C → y.2.2.1.ownBlock = none ∨ y.2.2.1.ownBlock ≠ v.ownBlock := fun y hy => by
    rcases e : y.2.2.1.ownBlock with _ | b
    · exact .inl rfl
    · exact .inr fun e2 => h3 y hy b e2.symm (by rw [e])
  refine live_pair.2 ⟨⟨fun y hy => (h1.1 y hy).kept hg (hk y hy), h1.2⟩, ho, fun y hy b hbk e => ?_⟩
  rcases hv with hv | hv
  · exact h3 y hy b (by rw [← hv]; exact hbk) e
  · have h4 := ((h1.1 y hy).lt b e.symm).2
    rw [hbk] at hv
    cases hv
    exact absurd h4 (Nat.lt_irrefl _)
end Go.Proofs.YtmlbphmbffkdnaaGreat
