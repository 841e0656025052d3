/-
  MktTick answers as its model, at every market; it writes into no argument, and its answer owns its memory. No condition beyond the statement's own.
-/
import Derived.Test.YtmlbphmbffkdnaaRows
import Derived.Test.YtmlbphmbffkdnaaFa
import Derived.Test.YtmlbphmbffkdnaaGt50
import Derived.WalkKit
import Derived.ProofKit
import Derived.OpenShut
import Derived.ShutString
import Derived.ChangeOld
import Derived.Below
namespace Go.Proofs.Ytmlbphmbffkdnaa.fnExactMktTick
open Go.ChangeShapes Go.WideShapes Go.ChangeAt Go.RowKit
open Go.ChangeMaps (open_string shut_string)
set_option linter.unusedVariables false

theorem own : ownKnob Try.prog.godebug = none := by kernel_rfl
theorem laidOut : laidOutB Try.prog = true := by kernel_rfl

theorem walk (mq0 : HP) (mh0 : House) (w : World) (w0 : HRow w mq0 mh0 ∧ HLen mh0) :
    Calls Try.prog 15 #[hV mq0 mh0] w fun e w' => e = .returned (.bool true) ∧ Below w.heap.size w w' := by
  exact law15 mh0 mq0 w w0.1 w0.2

set_option maxRecDepth 100000 in
theorem lifted (os : Os) (started : os.Started) (H : Type) (enc : TypeId × Value → H) :
    ReturnsInHanded {} Try.checked os 15 .any (Rows.fnExactMktTickSpec.pre6 enc Try.prog Try.f15 Rows.fnExactMktTickRow.domain false) (Rows.fnExactMktTickSpec.post enc Try.prog Try.f15 false true false false) := by
  refine returnsInHanded_of_change (C := Try.checked) own started (by kernel_rfl) Try.func15
    (ChangeSpec.witness6 (enc := enc) (C := Try.checked) false ⟨#[], #[.agg #[.slice none 0 0, .slice none 0 0, .slice none 0 0, .int .i64 0, .slice none 0 0, .slice none 0 0]], []⟩ 8 (by kernel_rfl) (by kernel_rfl) (by kernel_rfl) (by kernel_rfl)) ?_
  intro W base args ds gs before hval0 hW hcnd _
  have hval : ∀ (j : Nat) t v, Try.f15.params[j]? = some t → args[j]? = some v → Value.okWide Try.prog W .any base t v := hval0
  have hW' := hW
  obtain ⟨p, q, hA0, hV, rfl, hfz, hnd⟩ := hW
  have hA : DataW.TrodAll enc Try.prog W 0 (fun _ => true) true Try.f15.params.toList args.toList ds p := hA0
  rw [Try.params15] at hA hval
  obtain ⟨v0, vs0, d0, ds0, p0, q0, hargs, rfl, rfl, h0, r0⟩ := trodAll_cons hA
  obtain ⟨rfl, rfl, rfl⟩ := trodAll_nil r0
  obtain rfl : args = #[v0] := by cases args; simp_all
  obtain ⟨rfl, rfl⟩ := trodVars_none hV
  have k0 := h0
  have lt0 : ∀ x ∈ p0, x.block < W.heap.size := by obtain ⟨m, hm⟩ := k0; exact DataW.trod_lt m _ _ _ hm
  obtain ⟨mq0, mh0, rfl, w0⟩ := open_M (hval 0 96 v0 rfl rfl) h0
  clear hA0 hval0
  refine (walk mq0 mh0 W w0).mono fun e W' ⟨he, bel⟩ => ?_
  subst he
  exact ⟨_, rfl, _, _, _, [], _, [], hW', trodAll_mk1 (shut_bool Try.underlying4 _), (trodAll_cons_mk (Below.trod laidOut (by kernel_rfl) (of_decide_eq_true (by kernel_rfl)) k0 bel lt0) trodAll_mk0), rfl, bel.frame _, fun h => by cases h⟩

theorem closed : joinedFacts Try.prog 15 Try.f15 Rows.fnExactMktTickSpec Rows.fnExactMktTickRow = true := by
  unfold joinedFacts
  rw [fa_enter, fa_lifts, fa_make]
  kernel_rfl

theorem over : Rows.fnExactMktTickRow.holds Try.pinned (OpenSpec.ofChange Rows.fnExactMktTickSpec) :=
  OpenClaim.holds_of_wide 15 Try.f15 rfl rfl rfl rfl rfl rfl rfl ⟨rfl, rfl, rfl, rfl, rfl⟩ rfl rfl rfl rfl rfl (by kernel_rfl) Try.func15 closed
    (of_decide_eq_true (by kernel_rfl)) (by unfold Func.isWrapper; first | (rw [if_pos (by decide +kernel)]; kernel_rfl) | (rw [if_neg (by decide +kernel)]; exact ⟨rfl, rfl⟩))
    (fun os started H enc _ => lifted os started H enc)

theorem proved : Rows.FnExactMktTickSaid := over
end Go.Proofs.Ytmlbphmbffkdnaa.fnExactMktTick

namespace Go.Proofs.Ytmlbphmbffkdnaa
theorem fnExactMktTick_holds : Rows.FnExactMktTickSaid := fnExactMktTick.proved
#print axioms fnExactMktTick_holds
end Go.Proofs.Ytmlbphmbffkdnaa
