/-
  Texts of the proof, what it needs of them: Inv.
-/
import Derived.Deep.AppendLies
import Derived.Deep.RegionHeld3
import Derived.Laws.AppendOwnNone
import Derived.Test.YtmlbphmbffkdnaaGw01
namespace Go.Proofs.Ytmlbphmbffkdnaa
open Go.RowKit
set_option linter.unusedVariables false

def openR (rs : List Nat) (listed : Array Bool) : Nat := (rs.filter (fun i => !(listed.getD i false))).length
theorem openR_set {rs : List Nat} {listed : Array Bool} {i : Nat} (hn : rs.Nodup) (hi : i ∈ rs) (hl : i < listed.size) (h0 : listed.getD i false = false) : openR rs listed = openR rs (listed.setIfInBounds i true) + 1 := by
  unfold openR
  induction rs with
  | nil => cases hi
  | cons x t ih =>
    obtain ⟨hx, ht⟩ := List.nodup_cons.1 hn
    rcases List.mem_cons.1 hi with rfl | hi
    · have e1 : (listed.setIfInBounds i true).getD i false = true := by simp [hl]
      have e2 : t.filter (fun j => !((listed.setIfInBounds i true).getD j false)) = t.filter (fun j => !(listed.getD j false)) := by
        apply List.filter_congr
        intro j hj
        rw [getD_set_ne false (fun e => hx (by rw [e]; exact hj))]
      rw [List.filter_cons_of_pos (by rw [h0]; rfl), List.filter_cons_of_neg (by rw [e1]; simp), e2]
      rfl
    · have hne : i ≠ x := fun e => hx (by rw [← e]; exact hi)
      rw [List.filter_cons, List.filter_cons, getD_set_ne false hne]
      cases listed.getD x false
      · simp only [Bool.not_false, if_true, List.length_cons]
        rw [ih ht hi]
      · simp only [Bool.not_true, Bool.false_eq_true, if_false]
        exact ih ht hi
section
variable {P : Program} {ops : Array Oper} {Q : Exit → Act → World → Prop} {md : Region.Mode} {S : World → Prop}
end
section
variable {P : Program} {ops : Array Oper} {Q : Exit → Act → World → Prop} {md : Region.Mode} {S : World → Prop}
/-- what an operation waits for has come up -/
def depsB (md : Region.Mode) (o : Oper) (listed : Array Bool) : Bool := o.after.toList.all (fun e => !(Region.binds md e) || listed.getD e.on false)
/-- each of these operations keeps what holds -/
def StepsI (P : Program) (md : Region.Mode) (ops : Array Oper) (Q : Exit → Act → World → Prop) (S : World → Prop) (I : Array Bool → Act → World → Prop) (rs : List Nat) : Prop :=
  ∀ i, i ∈ rs → ∀ o, ops[i]? = some o → ∀ listed a w, I listed a w → listed.getD i true = false → depsB md o listed = true → wpOp P ops Q i (fun a' w' => S w' ∧ I (listed.setIfInBounds i true) a' w') a w
theorem StepsI.nil {I : Array Bool → Act → World → Prop} : StepsI P md ops Q S I [] := fun i hi => absurd hi (by simp)
theorem StepsI.cons {I : Array Bool → Act → World → Prop} {i : Nat} {o : Oper} {rs : List Nat} (ho : ops[i]? = some o)
    (h : ∀ listed a w, I listed a w → listed.getD i true = false → depsB md o listed = true → ∀ K' : Act → World → Prop, Shut (∀ a w, S w → I (listed.setIfInBounds i true) a w → K' a w) → if Region.wanted o (yielded ops a.tmps) = true then Oper.wp P o a w K' Q else K' (a.put o.dst undef) w)
    (t : StepsI P md ops Q S I rs) : StepsI P md ops Q S I (i :: rs) := fun j hj => by
  rcases List.mem_cons.1 hj with rfl | hj
  · intro o' ho' listed a w hI hun hd
    rw [ho] at ho'
    cases ho'
    exact wpOp_step ho (fun K' hK => h listed a w hI hun hd K' (fun a w hS hI' => hK a w ⟨hS, hI'⟩))
  · exact t j hj
end
end Go.Proofs.Ytmlbphmbffkdnaa
