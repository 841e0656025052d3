/-
  Texts of the proof, what it needs of them: Hous.
-/
import Derived.Test.YtmlbphmbffkdnaaGw12
import Derived.Test.YtmlbphmbffkdnaaGw14
namespace Go.Proofs.Ytmlbphmbffkdnaa
open Go.RowKit
set_option linter.unusedVariables false
set_option maxRecDepth 100000

structure House where
  es : List Tm.Ent
  pu : List Int
  ds : List Tm.Deal
  cl : Int
  nu : List Int
  sa : List Int
/-- where its slices lie -/
structure HP where
  a0 : Option Addr
  k0 : Nat
  a1 : Option Addr
  k1 : Nat
  a2 : Option Addr
  k2 : Nat
  a4 : Option Addr
  k4 : Nat
  a5 : Option Addr
  k5 : Nat
abbrev hV (q : HP) (h : House) : Value := .agg #[.slice q.a0 h.es.length q.k0, .slice q.a1 h.pu.length q.k1, .slice q.a2 h.ds.length q.k2, .int .i64 h.cl, .slice q.a4 h.nu.length q.k4, .slice q.a5 h.sa.length q.k5]
def Small (h : House) : Prop := h.es.length ≤ 1048576 ∧ h.pu.length ≤ 1048576 ∧ h.ds.length ≤ 1048576 ∧ h.nu.length ≤ 1048576 ∧ h.sa.length ≤ 1048576
def HRow (w : World) (q : HP) (h : House) : Prop := ERow w q.a0 h.es ∧ Row w q.a1 h.pu ∧ DRow w q.a2 h.ds ∧ Row w q.a4 h.nu ∧ Row w q.a5 h.sa
theorem HRow.bel {w w' : World} {q : HP} {h : House} (r : HRow w q h) (hb : Below w.heap.size w w') : HRow w' q h := ⟨r.1.bel hb, r.2.1.bel hb, r.2.2.1.bel hb, r.2.2.2.1.bel hb, r.2.2.2.2.bel hb⟩
/-- two slices that lie apart -/
def Apt (v u : Value) : Prop := ∀ b, v.ownBlock = some b → some b ≠ u.ownBlock
theorem Apt.symm {v u : Value} (h : Apt v u) : Apt u v := fun b hb e => h b e.symm hb.symm
def Apart5 (v0 v1 v2 v4 v5 : Value) : Prop := Apt v0 v1 ∧ Apt v0 v2 ∧ Apt v0 v4 ∧ Apt v0 v5 ∧ Apt v1 v2 ∧ Apt v1 v4 ∧ Apt v1 v5 ∧ Apt v2 v4 ∧ Apt v2 v5 ∧ Apt v4 v5
def HOwn (w : World) (base : Nat) (q : HP) (h : House) : Prop :=
  EOwn w base (.slice q.a0 h.es.length q.k0) h.es ∧ Own w base (.slice q.a1 h.pu.length q.k1) h.pu ∧ DOwn w base (.slice q.a2 h.ds.length q.k2) h.ds ∧ Own w base (.slice q.a4 h.nu.length q.k4) h.nu ∧ Own w base (.slice q.a5 h.sa.length q.k5) h.sa ∧
  Apart5 (.slice q.a0 h.es.length q.k0) (.slice q.a1 h.pu.length q.k1) (.slice q.a2 h.ds.length q.k2) (.slice q.a4 h.nu.length q.k4) (.slice q.a5 h.sa.length q.k5)
theorem HOwn.bel {w w' : World} {base : Nat} {q : HP} {h : House} (o : HOwn w base q h) (hb : Below w.heap.size w w') : HOwn w' base q h := ⟨o.1.bel hb, o.2.1.bel hb, o.2.2.1.bel hb, o.2.2.2.1.bel hb, o.2.2.2.2.1.bel hb, o.2.2.2.2.2⟩
theorem HOwn.rd {w : World} {base : Nat} {q : HP} {h : House} (o : HOwn w base q h) : HRow w q h := by
  refine ⟨o.1.rd rfl, own_rowI o.2.1, ?_, own_rowI o.2.2.2.1, own_rowI o.2.2.2.2.1⟩
  exact ⟨o.2.2.1.1, owns_row dCells_len rfl o.2.2.1.2⟩
/-- how far the marks come -/
def hk1 (h : House) : Nat := 4 * h.es.length + 1
def hk2 (h : House) : Nat := h.pu.length + hk1 h
def hk3 (h : House) : Nat := 5 * h.ds.length + hk2 h
def hk4 (h : House) : Nat := h.nu.length + hk3 h
def HHld (w : World) (base : Nat) (q : HP) (h : House) : Prop :=
  w.ownsRow base 134 4 (.slice q.a0 h.es.length q.k0) h.es.length (((List.range h.es.length).map (mkgE 1)).flatMap eCells) ∧
  Own w base (.slice q.a1 h.pu.length q.k1) (markedg (hk1 h) h.pu h.pu.length) ∧
  w.ownsRow base 42 5 (.slice q.a2 h.ds.length q.k2) h.ds.length (((List.range h.ds.length).map (mkgD (hk2 h))).flatMap dCells) ∧
  Own w base (.slice q.a4 h.nu.length q.k4) (markedg (hk3 h) h.nu h.nu.length) ∧ Own w base (.slice q.a5 h.sa.length q.k5) (markedg (hk4 h) h.sa h.sa.length)
theorem HHld.bel {w w' : World} {base : Nat} {q : HP} {h : House} (o : HHld w base q h) (hb : Below w.heap.size w w') : HHld w' base q h := ⟨owns_below o.1 hb, o.2.1.bel hb, owns_below o.2.2.1 hb, o.2.2.2.1.bel hb, o.2.2.2.2.bel hb⟩
theorem DOwn.kpt {w w' : World} {base : Nat} {v : Value} {xs : List Tm.Deal} {row : Option Nat} (h : DOwn w base v xs) (hg : w.grownBy w' row) (hne : ∀ b, v.ownBlock = some b → some b ≠ row) : DOwn w' base v xs := ⟨h.1, ownsK h.2 hg hne⟩

theorem HOwn.kptB {w w' : World} {base g : Nat} {q : HP} {h : House} (o : HOwn w base q h) (hg : w.grownBy w' (some g)) (hl : g < base) : HOwn w' base q h := by
  refine ⟨o.1.kpt hg (fun b hb e => ?_), o.2.1.kpt hg (fun b hb e => ?_), o.2.2.1.kpt hg (fun b hb e => ?_), o.2.2.2.1.kpt hg (fun b hb e => ?_), o.2.2.2.2.1.kpt hg (fun b hb e => ?_), o.2.2.2.2.2⟩
  · cases e; have := (o.1.2.lt _ hb).1; omega
  · cases e; have := (o.2.1.2.lt _ hb).1; omega
  · cases e; have := (o.2.2.1.2.lt _ hb).1; omega
  · cases e; have := (o.2.2.2.1.2.lt _ hb).1; omega
  · cases e; have := (o.2.2.2.2.1.2.lt _ hb).1; omega
end Go.Proofs.Ytmlbphmbffkdnaa
