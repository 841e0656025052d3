/-
  At every argument the law FnExactOwnLeaf answers true: OwnLeaf answers as its model. No condition.
-/
import Derived.Test.YtchmjimfpamoeaaRows
import Derived.Test.YtchmjimfpamoeaaFa
import Derived.Test.YtchmjimfpamoeaaLawsU
import Derived.Test.YtchmjimfpamoeaaOpens
import Derived.WalkKit
import Derived.ProofKit
import Derived.OpenShut
import Derived.ShutString
import Derived.ChangeOld
import Derived.Below
namespace Go.Proofs.Ytchmjimfpamoeaa.fnExactOwnLeaf
open Go.ChangeShapes Go.WideShapes Go.ChangeAt Go.RowKit
open Go.ChangeMaps (open_string shut_string)
set_option linter.unusedVariables false

theorem own : ownKnob Try.prog.godebug = none := by kernel_rfl
theorem laidOut : laidOutB Try.prog = true := by kernel_rfl

theorem walk (a0 : Int) (b1k b1t : Int) (b1u : Bool) (w : World) (w0 : (Lit.int .i64 a0).wf = true) (w1 : FitR (b1k, b1t, b1u)) :
    Calls Try.prog 23 #[.int .i64 a0, rowV b1k b1t b1u] w fun e w' => e = .returned (.bool true) ∧ Below w.heap.size w w' := by
  exact law23 a0 _ _ _ w w1

set_option maxRecDepth 100000 in
theorem lifted (os : Os) (started : os.Started) (H : Type) (enc : TypeId × Value → H) :
    ReturnsInHanded {} Try.checked os 23 .any (Rows.fnExactOwnLeafSpec.pre6 enc Try.prog Try.f23 Rows.fnExactOwnLeafRow.domain false) (Rows.fnExactOwnLeafSpec.post enc Try.prog Try.f23 false true false false) := by
  refine returnsInHanded_of_change (C := Try.checked) own started (by kernel_rfl) Try.func23
    (ChangeSpec.witness6 (enc := enc) (C := Try.checked) false ⟨#[], #[.int .i64 0, .agg #[.int .i64 0, .int .i64 0, .bool false]], []⟩ 8 (by kernel_rfl) (by kernel_rfl) (by kernel_rfl) (by kernel_rfl)) ?_
  intro W base args ds gs before hval0 hW hcnd _
  have hval : ∀ (j : Nat) t v, Try.f23.params[j]? = some t → args[j]? = some v → Value.okWide Try.prog W .any base t v := hval0
  have hW' := hW
  obtain ⟨p, q, hA0, hV, rfl, hfz, hnd⟩ := hW
  have hA : DataW.TrodAll enc Try.prog W 0 (fun _ => true) true Try.f23.params.toList args.toList ds p := hA0
  rw [Try.params23] at hA hval
  obtain ⟨v0, vs0, d0, ds0, p0, q0, hargs, rfl, rfl, h0, r0⟩ := trodAll_cons hA
  obtain ⟨v1, vs1, d1, ds1, p1, q1, rfl, rfl, rfl, h1, r1⟩ := trodAll_cons r0
  obtain ⟨rfl, rfl, rfl⟩ := trodAll_nil r1
  obtain rfl : args = #[v0, v1] := by cases args; simp_all
  obtain ⟨rfl, rfl⟩ := trodVars_none hV
  obtain ⟨a0, rfl, rfl, rfl, w0⟩ := open_int Try.underlying3 (hval 0 3 v0 rfl rfl) h0
  have k1 := h1
  have lt1 : ∀ x ∈ p1, x.block < W.heap.size := by obtain ⟨m, hm⟩ := k1; exact DataW.trod_lt m _ _ _ hm
  obtain ⟨b1k, b1t, b1u, rfl, w1⟩ := open_R (hval 1 85 v1 rfl rfl) h1
  clear hA0 hval0
  refine (walk a0 b1k b1t b1u W w0 w1).mono fun e W' ⟨he, bel⟩ => ?_
  subst he
  exact ⟨_, rfl, _, _, _, [], _, [], hW', trodAll_mk1 (shut_bool Try.underlying4 _), (trodAll_cons_mk (shut_int Try.underlying3 w0) (trodAll_cons_mk (Below.trod laidOut (by kernel_rfl) (of_decide_eq_true (by kernel_rfl)) k1 bel lt1) trodAll_mk0)), rfl, bel.frame _, fun h => by cases h⟩

theorem closed : joinedFacts Try.prog 23 Try.f23 Rows.fnExactOwnLeafSpec Rows.fnExactOwnLeafRow = true := by
  unfold joinedFacts
  rw [fa_enter, fa_lifts, fa_make]
  kernel_rfl

theorem over : Rows.fnExactOwnLeafRow.holds Try.pinned (OpenSpec.ofChange Rows.fnExactOwnLeafSpec) :=
  OpenClaim.holds_of_wide 23 Try.f23 rfl rfl rfl rfl rfl rfl rfl ⟨rfl, rfl, rfl, rfl, rfl⟩ rfl rfl rfl rfl rfl (by kernel_rfl) Try.func23 closed
    (of_decide_eq_true (by kernel_rfl)) (by unfold Func.isWrapper; first | (rw [if_pos (by decide +kernel)]; kernel_rfl) | (rw [if_neg (by decide +kernel)]; exact ⟨rfl, rfl⟩))
    (fun os started H enc _ => lifted os started H enc)

theorem proved : Rows.FnExactOwnLeafSaid := over
end Go.Proofs.Ytchmjimfpamoeaa.fnExactOwnLeaf

namespace Go.Proofs.Ytchmjimfpamoeaa
theorem fnExactOwnLeaf_holds : Rows.FnExactOwnLeafSaid := fnExactOwnLeaf.proved
#print axioms fnExactOwnLeaf_holds
end Go.Proofs.Ytchmjimfpamoeaa
