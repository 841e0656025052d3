/-
  Texts of the proof, what it needs of them: Inv, Mkg, Hous.
-/
import Derived.Deep.AppendLies
import Derived.Deep.RegionHeld3
import Derived.Laws.AppendOwnNone
import Derived.Test.YtmlbphmbffkdnaaGreatGz09
import Derived.Test.YtmlbphmbffkdnaaGreatGz30
import Derived.Test.YtmlbphmbffkdnaaGreatGz32
namespace Go.Proofs.YtmlbphmbffkdnaaGreat
open Go.RowKit
set_option linter.unusedVariables false

def openR (rs : List Nat) (listed : Array Bool) : Nat := (rs.filter (fun i => !(listed.getD i false))).length
theorem openR_set {rs : List Nat} {listed : Array Bool} {i : Nat} (hn : rs.Nodup) (hi : i ∈ rs) (hl : i < listed.size) (h0 : listed.getD i false = false) : openR rs listed = openR rs (listed.setIfInBounds i true) + 1 := by
  unfold openR
  induction rs with
  | nil => cases hi
  | cons x t ih =>
    obtain ⟨hx, ht⟩ := List.nodup_cons.1 hn
    rcases List.mem_cons.1 hi with rfl | hi
    · have e1 : (listed.setIfInBounds i true).getD i false = true := by simp [hl]
      have e2 : t.filter (fun j => !((listed.setIfInBounds i true).getD j false)) = t.filter (fun j => !(listed.getD j false)) := by
        apply List.filter_congr
        intro j hj
        rw [getD_set_ne false (fun e => hx (by rw [e]; exact hj))]
      rw [List.filter_cons_of_pos (by rw [h0]; rfl), List.filter_cons_of_neg (by rw [e1]; simp), e2]
      rfl
    · have hne : i ≠ x := fun e => hx (by rw [← e]; exact hi)
      rw [List.filter_cons, List.filter_cons, getD_set_ne false hne]
      cases listed.getD x false
      · simp only [Bool.not_false, if_true, List.length_cons]
        rw [ih ht hi]
      · simp only [Bool.not_true, Bool.false_eq_true, if_false]
        exact ih ht hi
section
variable {P : Program} {ops : Array Oper} {Q : Exit → Act → World → Prop} {md : Region.Mode} {S : World → Prop}
end
section
variable {P : Program} {ops : Array Oper} {Q : Exit → Act → World → Prop} {md : Region.Mode} {S : World → Prop}
/-- what an operation waits for has come up -/
def depsB (md : Region.Mode) (o : Oper) (listed : Array Bool) : Bool := o.after.toList.all (fun e => !(Region.binds md e) || listed.getD e.on false)
/-- each of these operations keeps what holds -/
def StepsI (P : Program) (md : Region.Mode) (ops : Array Oper) (Q : Exit → Act → World → Prop) (S : World → Prop) (I : Array Bool → Act → World → Prop) (rs : List Nat) : Prop :=
  ∀ i, i ∈ rs → ∀ o, ops[i]? = some o → ∀ listed a w, I listed a w → listed.getD i true = false → depsB md o listed = true → wpOp P ops Q i (fun a' w' => S w' ∧ I (listed.setIfInBounds i true) a' w') a w
theorem StepsI.nil {I : Array Bool → Act → World → Prop} : StepsI P md ops Q S I [] := fun i hi => absurd hi (by simp)
theorem StepsI.cons {I : Array Bool → Act → World → Prop} {i : Nat} {o : Oper} {rs : List Nat} (ho : ops[i]? = some o)
    (h : ∀ listed a w, I listed a w → listed.getD i true = false → depsB md o listed = true → ∀ K' : Act → World → Prop, Shut (∀ a w, S w → I (listed.setIfInBounds i true) a w → K' a w) → if Region.wanted o (yielded ops a.tmps) = true then Oper.wp P o a w K' Q else K' (a.put o.dst undef) w)
    (t : StepsI P md ops Q S I rs) : StepsI P md ops Q S I (i :: rs) := fun j hj => by
  rcases List.mem_cons.1 hj with rfl | hj
  · intro o' ho' listed a w hI hun hd
    rw [ho] at ho'
    cases ho'
    exact wpOp_step ho (fun K' hK => h listed a w hI hun hd K' (fun a w hS hI' => hK a w ⟨hS, hI'⟩))
  · exact t j hj
end
end Go.Proofs.YtmlbphmbffkdnaaGreat
namespace Go.Proofs.YtmlbphmbffkdnaaGreat
open Go.RowKit
set_option linter.unusedVariables false
set_option maxRecDepth 100000

/-- the mark of an element -/
def mkgE (c j : Nat) : Tm.Ent := (4 * (j : Int) + (c : Int), 4 * (j : Int) + (c : Int) + 1, 4 * (j : Int) + (c : Int) + 1 + 1, 4 * (j : Int) + (c : Int) + 1 + 1 + 1)
/-- the mark of an element -/
def mkgD (c j : Nat) : Tm.Deal := (5 * (j : Int) + (c : Int), 5 * (j : Int) + (c : Int) + 1, 5 * (j : Int) + (c : Int) + 1 + 1, 5 * (j : Int) + (c : Int) + 1 + 1 + 1, 5 * (j : Int) + (c : Int) + 1 + 1 + 1 + 1)
/-- the marks from c on of a list, the first so many; behind them what was there -/
def markedg (c : Nat) (zs : List Int) (k : Nat) : List Int := (List.range k).map (fun j => ((j + c : Nat) : Int)) ++ zs.drop k
end Go.Proofs.YtmlbphmbffkdnaaGreat
namespace Go.Proofs.YtmlbphmbffkdnaaGreat
open Go.RowKit
set_option linter.unusedVariables false
set_option maxRecDepth 100000

structure House where
  es : List Tm.Ent
  pu : List Int
  ds : List Tm.Deal
  cl : Int
  nu : List Int
  sa : List Int
/-- where its slices lie -/
structure HP where
  a0 : Option Addr
  k0 : Nat
  a1 : Option Addr
  k1 : Nat
  a2 : Option Addr
  k2 : Nat
  a4 : Option Addr
  k4 : Nat
  a5 : Option Addr
  k5 : Nat
abbrev hV (q : HP) (h : House) : Value := .agg #[.slice q.a0 h.es.length q.k0, .slice q.a1 h.pu.length q.k1, .slice q.a2 h.ds.length q.k2, .int .i64 h.cl, .slice q.a4 h.nu.length q.k4, .slice q.a5 h.sa.length q.k5]
def Small (h : House) : Prop := h.es.length ≤ 1048576 ∧ h.pu.length ≤ 1048576 ∧ h.ds.length ≤ 1048576 ∧ h.nu.length ≤ 1048576 ∧ h.sa.length ≤ 1048576
def HRow (w : World) (q : HP) (h : House) : Prop := ERow w q.a0 h.es ∧ Row w q.a1 h.pu ∧ DRow w q.a2 h.ds ∧ Row w q.a4 h.nu ∧ Row w q.a5 h.sa
theorem HRow.bel {w w' : World} {q : HP} {h : House} (r : HRow w q h) (hb : Below w.heap.size w w') : HRow w' q h := ⟨r.1.bel hb, r.2.1.bel hb, r.2.2.1.bel hb, r.2.2.2.1.bel hb, r.2.2.2.2.bel hb⟩
theorem box_kpt {W w : World} {g : Nat} {vs : List Value} {row : Option Nat} (h : Box W g vs) (hg : W.grownBy w row) (hne : some g ≠ row) : Box w g vs := fun j v hv => by
  have hc := (h j v hv).1
  have hl := World.block_lt_of_cell? W _ hc
  have hb := hg.block g hl hne
  exact ⟨(World.cell?_of_block (a := ⟨g, j, none⟩) hb).trans hc, (World.frozen?_of_block (a := ⟨g, j, none⟩) hb).trans (h j v hv).2⟩
/-- two slices that lie apart -/
def Apt (v u : Value) : Prop := ∀ b, v.ownBlock = some b → some b ≠ u.ownBlock
theorem Apt.symm {v u : Value} (h : Apt v u) : Apt u v := fun b hb e => h b e.symm hb.symm
def Apart5 (v0 v1 v2 v4 v5 : Value) : Prop := Apt v0 v1 ∧ Apt v0 v2 ∧ Apt v0 v4 ∧ Apt v0 v5 ∧ Apt v1 v2 ∧ Apt v1 v4 ∧ Apt v1 v5 ∧ Apt v2 v4 ∧ Apt v2 v5 ∧ Apt v4 v5
/-- how far the marks come -/
def hk1 (h : House) : Nat := 4 * h.es.length + 1
def hk2 (h : House) : Nat := h.pu.length + hk1 h
def hk3 (h : House) : Nat := 5 * h.ds.length + hk2 h
def hk4 (h : House) : Nat := h.nu.length + hk3 h
end Go.Proofs.YtmlbphmbffkdnaaGreat
