/-
  At every argument the law FnExactHedOk answers true: HedOk answers as its model. No condition.
-/
import Derived.Test.YtimaidcjccakeaaRows
import Derived.Test.YtimaidcjccakeaaFa
import Derived.Test.YtimaidcjccakeaaLawshb
import Derived.WalkKit
import Derived.ProofKit
import Derived.OpenShut
import Derived.ShutString
import Derived.ChangeOld
import Derived.Below
namespace Go.Proofs.Ytimaidcjccakeaa.fnExactHedOk
open Go.ChangeShapes Go.WideShapes Go.ChangeAt Go.RowKit
open Go.ChangeMaps (open_string shut_string)
set_option linter.unusedVariables false

theorem own : ownKnob Try.prog.godebug = none := by kernel_rfl
theorem laidOut : laidOutB Try.prog = true := by kernel_rfl

theorem walk (b0s b0l b0o : Int) (w : World) (w0 : True) :
    Calls Try.prog 17 #[hedV b0s b0l b0o] w fun e w' => e = .returned (.bool true) ∧ Below w.heap.size w w' := by
  exact law17 _ _ _ w

set_option maxRecDepth 100000 in
theorem lifted (os : Os) (started : os.Started) (H : Type) (enc : TypeId × Value → H) :
    ReturnsInHanded {} Try.checked os 17 .any (Rows.fnExactHedOkSpec.pre6 enc Try.prog Try.f17 Rows.fnExactHedOkRow.domain false) (Rows.fnExactHedOkSpec.post enc Try.prog Try.f17 false true false false) := by
  refine returnsInHanded_of_change (C := Try.checked) own started (by kernel_rfl) Try.func17
    (ChangeSpec.witness6 (enc := enc) (C := Try.checked) false ⟨#[], #[.agg #[.int .i64 0, .int .i64 0, .int .i64 0]], []⟩ 8 (by kernel_rfl) (by kernel_rfl) (by kernel_rfl) (by kernel_rfl)) ?_
  intro W base args ds gs before hval0 hW hcnd _
  have hval : ∀ (j : Nat) t v, Try.f17.params[j]? = some t → args[j]? = some v → Value.okWide Try.prog W .any base t v := hval0
  have hW' := hW
  obtain ⟨p, q, hA0, hV, rfl, hfz, hnd⟩ := hW
  have hA : DataW.TrodAll enc Try.prog W 0 (fun _ => true) true Try.f17.params.toList args.toList ds p := hA0
  rw [Try.params17] at hA hval
  obtain ⟨v0, vs0, d0, ds0, p0, q0, hargs, rfl, rfl, h0, r0⟩ := trodAll_cons hA
  obtain ⟨rfl, rfl, rfl⟩ := trodAll_nil r0
  obtain rfl : args = #[v0] := by cases args; simp_all
  obtain ⟨rfl, rfl⟩ := trodVars_none hV
  have k0 := h0
  have lt0 : ∀ x ∈ p0, x.block < W.heap.size := by obtain ⟨m, hm⟩ := k0; exact DataW.trod_lt m _ _ _ hm
  obtain ⟨b0s, b0l, b0o, rfl, w0⟩ := open_H (hval 0 87 v0 rfl rfl) h0
  clear hA0 hval0
  refine (walk b0s b0l b0o W w0).mono fun e W' ⟨he, bel⟩ => ?_
  subst he
  exact ⟨_, rfl, _, _, _, [], _, [], hW', trodAll_mk1 (shut_bool Try.underlying4 _), (trodAll_cons_mk (Below.trod laidOut (by kernel_rfl) (of_decide_eq_true (by kernel_rfl)) k0 bel lt0) trodAll_mk0), rfl, bel.frame _, fun h => by cases h⟩

theorem closed : joinedFacts Try.prog 17 Try.f17 Rows.fnExactHedOkSpec Rows.fnExactHedOkRow = true := by
  unfold joinedFacts
  rw [fa_enter, fa_lifts, fa_make]
  kernel_rfl

theorem over : Rows.fnExactHedOkRow.holds Try.pinned (OpenSpec.ofChange Rows.fnExactHedOkSpec) :=
  OpenClaim.holds_of_wide 17 Try.f17 rfl rfl rfl rfl rfl rfl rfl ⟨rfl, rfl, rfl, rfl, rfl⟩ rfl rfl rfl rfl rfl (by kernel_rfl) Try.func17 closed
    (of_decide_eq_true (by kernel_rfl)) (by unfold Func.isWrapper; first | (rw [if_pos (by decide +kernel)]; kernel_rfl) | (rw [if_neg (by decide +kernel)]; exact ⟨rfl, rfl⟩))
    (fun os started H enc _ => lifted os started H enc)

theorem proved : Rows.FnExactHedOkSaid := over
end Go.Proofs.Ytimaidcjccakeaa.fnExactHedOk

namespace Go.Proofs.Ytimaidcjccakeaa
theorem fnExactHedOk_holds : Rows.FnExactHedOkSaid := fnExactHedOk.proved
#print axioms fnExactHedOk_holds
end Go.Proofs.Ytimaidcjccakeaa
