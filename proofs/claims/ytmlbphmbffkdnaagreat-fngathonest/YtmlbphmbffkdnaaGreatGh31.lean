/-
  Texts of the proof, what it needs of them: Inv, Mkg, Hous, Live.
-/
import Derived.Deep.AppendLies
import Derived.Deep.RegionHeld3
import Derived.Laws.AppendOwnNone
import Derived.Test.YtmlbphmbffkdnaaGreatGh09
import Derived.Test.YtmlbphmbffkdnaaGreatGh29
import Derived.Test.YtmlbphmbffkdnaaGreatGh30
namespace Go.Proofs.YtmlbphmbffkdnaaGreat
open Go.RowKit
set_option linter.unusedVariables false

def openR (rs : List Nat) (listed : Array Bool) : Nat := (rs.filter (fun i => !(listed.getD i false))).length
theorem openR_set {rs : List Nat} {listed : Array Bool} {i : Nat} (hn : rs.Nodup) (hi : i ∈ rs) (hl : i < listed.size) (h0 : listed.getD i false = false) : openR rs listed = openR rs (listed.setIfInBounds i true) + 1 := by
  unfold openR
  induction rs with
  | nil => cases hi
  | cons x t ih =>
    obtain ⟨hx, ht⟩ := List.nodup_cons.1 hn
    rcases List.mem_cons.1 hi with rfl | hi
    · have e1 : (listed.setIfInBounds i true).getD i false = true := by simp [hl]
      have e2 : t.filter (fun j => !((listed.setIfInBounds i true).getD j false)) = t.filter (fun j => !(listed.getD j false)) := by
        apply List.filter_congr
        intro j hj
        rw [getD_set_ne false (fun e => hx (by rw [e]; exact hj))]
      rw [List.filter_cons_of_pos (by rw [h0]; rfl), List.filter_cons_of_neg (by rw [e1]; simp), e2]
      rfl
    · have hne : i ≠ x := fun e => hx (by rw [← e]; exact hi)
      rw [List.filter_cons, List.filter_cons, getD_set_ne false hne]
      cases listed.getD x false
      · simp only [Bool.not_false, if_true, List.length_cons]
        rw [ih ht hi]
      · simp only [Bool.not_true, Bool.false_eq_true, if_false]
        exact ih ht hi
section
variable {P : Program} {ops : Array Oper} {Q : Exit → Act → World → Prop} {md : Region.Mode} {S : World → Prop}
end
section
variable {P : Program} {ops : Array Oper} {Q : Exit → Act → World → Prop} {md : Region.Mode} {S : World → Prop}
/-- what an operation waits for has come up -/
def depsB (md : Region.Mode) (o : Oper) (listed : Array Bool) : Bool := o.after.toList.all (fun e => !(Region.binds md e) || listed.getD e.on false)
/-- each of these operations keeps what holds -/
def StepsI (P : Program) (md : Region.Mode) (ops : Array Oper) (Q : Exit → Act → World → Prop) (S : World → Prop) (I : Array Bool → Act → World → Prop) (rs : List Nat) : Prop :=
  ∀ i, i ∈ rs → ∀ o, ops[i]? = some o → ∀ listed a w, I listed a w → listed.getD i true = false → depsB md o listed = true → wpOp P ops Q i (fun a' w' => S w' ∧ I (listed.setIfInBounds i true) a' w') a w
theorem StepsI.nil {I : Array Bool → Act → World → Prop} : StepsI P md ops Q S I [] := fun i hi => absurd hi (by simp)
theorem StepsI.cons {I : Array Bool → Act → World → Prop} {i : Nat} {o : Oper} {rs : List Nat} (ho : ops[i]? = some o)
    (h : ∀ listed a w, I listed a w → listed.getD i true = false → depsB md o listed = true → ∀ K' : Act → World → Prop, Shut (∀ a w, S w → I (listed.setIfInBounds i true) a w → K' a w) → if Region.wanted o (yielded ops a.tmps) = true then Oper.wp P o a w K' Q else K' (a.put o.dst undef) w)
    (t : StepsI P md ops Q S I rs) : StepsI P md ops Q S I (i :: rs) := fun j hj => by
  rcases List.mem_cons.1 hj with rfl | hj
  · intro o' ho' listed a w hI hun hd
    rw [ho] at ho'
    cases ho'
    exact wpOp_step ho (fun K' hK => h listed a w hI hun hd K' (fun a w hS hI' => hK a w ⟨hS, hI'⟩))
  · exact t j hj
end
end Go.Proofs.YtmlbphmbffkdnaaGreat
namespace Go.Proofs.YtmlbphmbffkdnaaGreat
open Go.RowKit
set_option linter.unusedVariables false
set_option maxRecDepth 100000

/-- the mark of an element -/
def mkgE (c j : Nat) : Tm.Ent := (4 * (j : Int) + (c : Int), 4 * (j : Int) + (c : Int) + 1, 4 * (j : Int) + (c : Int) + 1 + 1, 4 * (j : Int) + (c : Int) + 1 + 1 + 1)
/-- the mark of an element -/
def mkgD (c j : Nat) : Tm.Deal := (5 * (j : Int) + (c : Int), 5 * (j : Int) + (c : Int) + 1, 5 * (j : Int) + (c : Int) + 1 + 1, 5 * (j : Int) + (c : Int) + 1 + 1 + 1, 5 * (j : Int) + (c : Int) + 1 + 1 + 1 + 1)
/-- the marks from c on of a list, the first so many; behind them what was there -/
def markedg (c : Nat) (zs : List Int) (k : Nat) : List Int := (List.range k).map (fun j => ((j + c : Nat) : Int)) ++ zs.drop k
end Go.Proofs.YtmlbphmbffkdnaaGreat
namespace Go.Proofs.YtmlbphmbffkdnaaGreat
open Go.RowKit
set_option linter.unusedVariables false
set_option maxRecDepth 100000

structure House where
  es : List Tm.Ent
  pu : List Int
  ds : List Tm.Deal
  cl : Int
  nu : List Int
  sa : List Int
/-- where its slices lie -/
structure HP where
  a0 : Option Addr
  k0 : Nat
  a1 : Option Addr
  k1 : Nat
  a2 : Option Addr
  k2 : Nat
  a4 : Option Addr
  k4 : Nat
  a5 : Option Addr
  k5 : Nat
abbrev hV (q : HP) (h : House) : Value := .agg #[.slice q.a0 h.es.length q.k0, .slice q.a1 h.pu.length q.k1, .slice q.a2 h.ds.length q.k2, .int .i64 h.cl, .slice q.a4 h.nu.length q.k4, .slice q.a5 h.sa.length q.k5]
def Small (h : House) : Prop := h.es.length ≤ 1048576 ∧ h.pu.length ≤ 1048576 ∧ h.ds.length ≤ 1048576 ∧ h.nu.length ≤ 1048576 ∧ h.sa.length ≤ 1048576
def HRow (w : World) (q : HP) (h : House) : Prop := ERow w q.a0 h.es ∧ Row w q.a1 h.pu ∧ DRow w q.a2 h.ds ∧ Row w q.a4 h.nu ∧ Row w q.a5 h.sa
theorem HRow.bel {w w' : World} {q : HP} {h : House} (r : HRow w q h) (hb : Below w.heap.size w w') : HRow w' q h := ⟨r.1.bel hb, r.2.1.bel hb, r.2.2.1.bel hb, r.2.2.2.1.bel hb, r.2.2.2.2.bel hb⟩
theorem box_kpt {W w : World} {g : Nat} {vs : List Value} {row : Option Nat} (h : Box W g vs) (hg : W.grownBy w row) (hne : some g ≠ row) : Box w g vs := fun j v hv => by
  have hc := (h j v hv).1
  have hl := World.block_lt_of_cell? W _ hc
  have hb := hg.block g hl hne
  exact ⟨(World.cell?_of_block (a := ⟨g, j, none⟩) hb).trans hc, (World.frozen?_of_block (a := ⟨g, j, none⟩) hb).trans (h j v hv).2⟩
/-- two slices that lie apart -/
def Apt (v u : Value) : Prop := ∀ b, v.ownBlock = some b → some b ≠ u.ownBlock
theorem Apt.symm {v u : Value} (h : Apt v u) : Apt u v := fun b hb e => h b e.symm hb.symm
def Apart5 (v0 v1 v2 v4 v5 : Value) : Prop := Apt v0 v1 ∧ Apt v0 v2 ∧ Apt v0 v4 ∧ Apt v0 v5 ∧ Apt v1 v2 ∧ Apt v1 v4 ∧ Apt v1 v5 ∧ Apt v2 v4 ∧ Apt v2 v5 ∧ Apt v4 v5
/-- how far the marks come -/
def hk1 (h : House) : Nat := 4 * h.es.length + 1
def hk2 (h : House) : Nat := h.pu.length + hk1 h
def hk3 (h : House) : Nat := 5 * h.ds.length + hk2 h
def hk4 (h : House) : Nat := h.nu.length + hk3 h
end Go.Proofs.YtmlbphmbffkdnaaGreat
namespace Go.Proofs.YtmlbphmbffkdnaaGreat
open Go.RowKit
set_option linter.unusedVariables false

theorem run_append_zero {P : Program} {w : World} (base : Nat) (t ty e : TypeId) (i : TypeInfo) (size : Nat) (ht : P.underlying t = some (.slice e)) (hi : P.info? e = some i)
    (v : Value) (n : Nat) (xs : List Value) (hown : w.ownsRow base e size v n xs) (ao : Option Addr) (c : Nat) :
    (Builtin.append_ #[t, t] ty #[v, .slice ao 0 c]).run P w = .ok v w := by
  rcases hown.2 with ⟨rfl, rfl⟩ | ⟨g, cap, cur, rfl, _, _, hnc, _⟩
  · cases ao <;> simp [Builtin.append_, run_underlying ht, sizeOf, typeInfo, hi, Builtin.lenOf, Builtin.firstCells, loadCells, loadCellsFrom]
  · cases ao <;> simp [Builtin.append_, run_underlying ht, sizeOf, typeInfo, hi, Builtin.lenOf, Builtin.firstCells, hnc, storeCells, loadCells, loadCellsFrom]

/-- a slice type and its elements' -/
structure ElT (t e size bytes : Nat) : Prop where
  ht : Tryz.prog.underlying t = some (.slice e)
  hi : ∃ i z, Tryz.prog.info? e = some i ∧ i.zero = some z ∧ i.size = size ∧ i.bytes = bytes ∧ z.cells.size = size
  hp : 0 < size
/-- a list to be copied, in memory -/
def Src (w : World) (ao : Option Addr) (m c size : Nat) (news : List Value) : Prop :=
  news.length = m * size ∧ (∀ u ∈ news, u.oneCell' = true) ∧ (m = 0 ∨ ∃ ad, ao = some ad ∧ ∀ j u, news[j]? = some u → w.cell? (ad.add j) = some u)
theorem Src.bel {w w' : World} {ao : Option Addr} {m c size : Nat} {news : List Value} (h : Src w ao m c size news) (hb : Below w.heap.size w w') : Src w' ao m c size news :=
  ⟨h.1, h.2.1, h.2.2.imp id fun ⟨ad, e, hc⟩ => ⟨ad, e, fun j u hj => cell_bl hb (hc j u hj)⟩⟩
theorem step_copy {w : World} {ops : Array Oper} {o : Oper} {a : Act} {K : Act → World → Prop} {Q : Exit → Act → World → Prop} {E : Prop} (hgd : o.guard = none) (s x : Operand) (t : TypeId)
    (ho : o.op = .call { callee := .builtin .append, args := #[s, x], argTypes := #[t, t] })
    (base : Nat) (e : TypeId) (size bytes : Nat) (T : ElT t e size bytes)
    (v : Value) (hs : a.eval s = v) (hown : w.ownsRow base e size v 0 [])
    (ao : Option Addr) (m c : Nat) (news : List Value) (hx : a.eval x = .slice ao m c) (hsrc : Src w ao m c size news)
    (h63 : m ≤ maxLen) (hbytes : m * bytes ≤ 140737488355328) (hbase : base ≤ w.heap.size)
    (h : ∀ v' w', w'.ownsRow base e size v' m news → w.grownBy w' v.ownBlock → (v'.ownBlock = v.ownBlock ∨ v'.ownBlock = some w.heap.size) → K (a.put o.dst v') w') :
    if Region.wanted o (yielded ops a.tmps) = true then Oper.wp Tryz.prog o a w K Q else E := by
  obtain ⟨i, z, hi, hz, hsize, hby, hzs⟩ := T.hi
  obtain ⟨hl, h1, hc⟩ := hsrc
  rcases Nat.eq_zero_or_pos m with rfl | hm
  · have hn0 : news = [] := List.eq_nil_of_length_eq_zero (by rw [hl]; omega)
    subst hn0
    have hw : Region.wanted o (yielded ops a.tmps) = true := by simp [Region.wanted, hgd]
    rw [if_pos hw]
    have hrun := run_append_zero (P := Tryz.prog) (w := w) base t o.type e i size T.ht hi v 0 [] hown ao c
    unfold Oper.wp
    simp [execOp, ho, resolve, invoke, builtin, hs, hx, hrun, Result.andThen]
    exact h v w hown ⟨rfl, rfl, rfl, Nat.le_refl _, fun k _ _ => rfl⟩ (.inl rfl)
  · obtain ⟨ad, rfl, hcell⟩ := hc.resolve_left (by omega)
    refine step_append_lies w hgd s x t ho base e i z size bytes T.ht hi hz hsize hby hzs T.hp v 0 [] hs hown ad m c news hx hl hcell h1 hm (by omega) (by rw [Nat.zero_add]; exact hbytes) hbase _ rfl ?_
    intro g cap w' h2 h3 h4 h5
    rw [Nat.zero_add, List.nil_append] at h2
    rw [Nat.zero_add]
    exact h _ w' h2 h3 (h4.imp (fun hh => by rw [hh]; rfl) (fun hh => by rw [hh]; rfl))

theorem wpList_copy {w : World} {ops : Array Oper} {rest : List Oper} {o : Oper} {a : Act} {Q : Exit → Act → World → Prop} (hgd : o.guard = none) (s x : Operand) (t : TypeId)
    (ho : o.op = .call { callee := .builtin .append, args := #[s, x], argTypes := #[t, t] })
    (base : Nat) (e : TypeId) (size bytes : Nat) (T : ElT t e size bytes)
    (v : Value) (hs : a.eval s = v) (hown : w.ownsRow base e size v 0 [])
    (ao : Option Addr) (m c : Nat) (news : List Value) (hx : a.eval x = .slice ao m c) (hsrc : Src w ao m c size news)
    (h63 : m ≤ maxLen) (hbytes : m * bytes ≤ 140737488355328) (hbase : base ≤ w.heap.size)
    (h : ∀ v' w', w'.ownsRow base e size v' m news → w.grownBy w' v.ownBlock → (v'.ownBlock = v.ownBlock ∨ v'.ownBlock = some w.heap.size) → wpList Tryz.prog ops Q rest (a.put o.dst v') w') : wpList Tryz.prog ops Q (o :: rest) a w := by
  refine wpList_plain hgd fun K hK => ?_
  have hw : Region.wanted o (yielded ops a.tmps) = true := by simp [Region.wanted, hgd]
  have h2 := step_copy (w := w) (ops := ops) (o := o) (a := a) (K := K) (Q := Q) (E := True) hgd s x t ho base e size bytes T v hs hown ao m c news hx hsrc h63 hbytes hbase (fun v' w' h1 h2 h3 => hK _ _ (h v' w' h1 h2 h3))
  rw [if_pos hw] at h2
  exact h2

/-- element type, its cells, the slice, its length, what it holds -/
abbrev LRow := Nat × Nat × Value × Nat × List Value
def Live (w : World) (base : Nat) (L : List LRow) : Prop := (∀ x ∈ L, w.ownsRow base x.1 x.2.1 x.2.2.1 x.2.2.2.1 x.2.2.2.2) ∧ L.Pairwise (fun x y => Apt x.2.2.1 y.2.2.1)
theorem live_nil (w : World) (base : Nat) : Live w base [] := ⟨fun x hx => absurd hx (by simp), List.Pairwise.nil⟩
theorem Live.bel {w w' : World} {base : Nat} {L : List LRow} (h : Live w base L) (hb : Below w.heap.size w w') : Live w' base L := ⟨fun x hx => owns_below (h.1 x hx) hb, h.2⟩
theorem pair_mid {α : Type} {R : α → α → Prop} (hs : ∀ x y, R x y → R y x) {A C : List α} {x : α} : (A ++ x :: C).Pairwise R ↔ (A ++ C).Pairwise R ∧ ∀ y, y ∈ A ++ C → R x y := by
  rw [List.pairwise_append, List.pairwise_cons, List.pairwise_append]
  constructor
  · rintro ⟨h1, ⟨h2, h3⟩, h4⟩
    refine ⟨⟨h1, h3, fun a ha b hb => h4 a ha b (List.mem_cons_of_mem _ hb)⟩, fun y hy => ?_⟩
    rcases List.mem_append.1 hy with hy | hy
    · exact hs _ _ (h4 y hy x List.mem_cons_self)
    · exact h2 y hy
  · rintro ⟨⟨h1, h3, h4⟩, h5⟩
    refine ⟨h1, ⟨fun y hy => h5 y (List.mem_append_right _ hy), h3⟩, fun a ha b hb => ?_⟩
    rcases List.mem_cons.1 hb with rfl | hb
    · exact hs _ _ (h5 a (List.mem_append_left _ ha))
    · exact h4 a ha b hb
theorem live_pair {w : World} {base : Nat} {A C : List LRow} {x : LRow} : Live w base (A ++ x :: C) ↔ Live w base (A ++ C) ∧ w.ownsRow base x.1 x.2.1 x.2.2.1 x.2.2.2.1 x.2.2.2.2 ∧ ∀ y, y ∈ A ++ C → Apt x.2.2.1 y.2.2.1 := by
  unfold Live
  rw [pair_mid (R := fun x y : LRow => Apt x.2.2.1 y.2.2.1) (fun x y h => h.symm)]
  constructor
  · rintro ⟨h1, h2, h3⟩
    exact ⟨⟨fun y hy => h1 y (by rcases List.mem_append.1 hy with h | h; exact List.mem_append_left _ h; exact List.mem_append_right _ (List.mem_cons_of_mem _ h)), h2⟩, h1 x (List.mem_append_right _ List.mem_cons_self), h3⟩
  · rintro ⟨⟨h1, h2⟩, h3, h4⟩
    refine ⟨fun y hy => ?_, h2, h4⟩
    rcases List.mem_append.1 hy with h | h
    · exact h1 y (List.mem_append_left _ h)
    · rcases List.mem_cons.1 h with rfl | h
      · exact h3
      · exact h1 y (List.mem_append_right _ h)
/-- a new list, empty so far -/
theorem live_new {w w' : World} {base : Nat} {A C : List LRow} {T n : Nat} {v : Value} {m : Nat} {cs : List Value} (h : Live w base (A ++ C)) (hb : Below w.heap.size w w') (ho : w'.ownsRow base T n v m cs) (hv : ∀ k, v.ownBlock = some k → w.heap.size ≤ k) : Live w' base (A ++ (T, n, v, m, cs) :: C) := by
  refine live_pair.2 ⟨h.bel hb, ho, fun y hy b hbk e => ?_⟩
  have h1 := hv b hbk
  have h2 := ((h.1 y hy).lt b e.symm).2
  omega
/-- one of them grows -/
theorem live_grow {w w' : World} {base : Nat} {A C : List LRow} {T n : Nat} {v v' : Value} {m m' : Nat} {cs cs' : List Value} (h : Live w base (A ++ (T, n, v, m, cs) :: C)) (hg : w.grownBy w' v.ownBlock) (ho : w'.ownsRow base T n v' m' cs')
    (hv : v'.ownBlock = v.ownBlock ∨ v'.ownBlock = some w.heap.size) : Live w' base (A ++ (T, n, v', m', cs') :: C) := by
  obtain ⟨h1, h2, h3⟩ := live_pair.1 h
  have hk : ∀ y, y ∈ A ++ C → y.2.2.1.ownBlock = none ∨ y.2.2.1.ownBlock ≠ v.ownBlock := fun y hy => by
    rcases e : y.2.2.1.ownBlock with _ | b
    · exact .inl rfl
    · exact .inr fun e2 => h3 y hy b e2.symm (by rw [e])
  refine live_pair.2 ⟨⟨fun y hy => (h1.1 y hy).kept hg (hk y hy), h1.2⟩, ho, fun y hy b hbk e => ?_⟩
  rcases hv with hv | hv
  · exact h3 y hy b (by rw [← hv]; exact hbk) e
  · have h4 := ((h1.1 y hy).lt b e.symm).2
    rw [hbk] at hv
    cases hv
    exact absurd h4 (Nat.lt_irrefl _)
end Go.Proofs.YtmlbphmbffkdnaaGreat
