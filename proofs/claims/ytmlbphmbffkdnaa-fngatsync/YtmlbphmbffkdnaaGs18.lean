/-
  Texts of the proof, what it needs of them: Hbas, Heda.
-/
import Derived.Laws.StructEq
import Derived.Test.YtmlbphmbffkdnaaGs17
import Derived.WideKeyRuns
namespace Go.Proofs.Ytmlbphmbffkdnaa
open Go.RowKit
set_option linter.unusedVariables false
set_option maxRecDepth 100000

theorem Box.bel {W w : World} {g : Nat} {vs : List Value} (h : Box W g vs) (hb : Below W.heap.size W w) : Box w g vs := h.below hb
theorem dnB {P : Program} {f : FuncId} {ar : Array Value} {w : World} {A : Ending → Prop} (h : Calls P f ar w fun e w' => A e ∧ ∃ q, w' = w.drewN q) : Calls P f ar w fun e w' => A e ∧ Below w.heap.size w w' :=
  h.mono fun e w' h2 => ⟨h2.1, by obtain ⟨q, rfl⟩ := h2.2; exact below_dn (Below.refl _ _) q⟩
end Go.Proofs.Ytmlbphmbffkdnaa
namespace Go.Proofs.Ytmlbphmbffkdnaa
open Go.RowKit
set_option linter.unusedVariables false
set_option maxRecDepth 100000

/-- a head as a value -/
abbrev hedV (s l o : Int) : Value := .agg #[.int .i64 s, .int .i64 l, .int .i64 o]
/-- a head is ok -/
def hedOk (s l o : Int) : Bool := decide (0 ≤ s ∧ s ≤ 40) && (Tm.okB l && Tm.okB o)

theorem eqHed (d : Nat) (a b c a' b' c' : Int) (w : World) : (Op.equalIn (d + 2) 61 (hedV a b c) (hedV a' b' c')).run Try.prog w = .ok (decide ((a, b, c) = (a', b', c'))) w := by
  have u3 := Try.underlying3
  have a3 := Try.isAgg3
  have z3 := Try.sizeOf3
  have hS : Try.prog.underlying 61 = some (.struct (Try.prog.fieldsOf 61)) := by kernel_rfl
  have hp : Try.prog.stoodInHeld 61 = false := by kernel_rfl
  rw [run_equalIn_agg w (d + 1) 61 _ _ hS hp]
  simp only [Program.fieldsOf, Try.underlying61]
  go_simp
  by_cases h1 : a = a' <;> by_cases h2 : b = b' <;> by_cases h3 : c = c' <;> simp [h1, h2, h3]
theorem keyHed (e : Bool) (n : Nat) (a b c : Int) (w : World) : (Instr.checkKey e (n + 2) 61 (hedV a b c)).run Try.prog w = .ok () w := by
  have u3 := Try.underlying3
  have a3 := Try.isAgg3
  have z3 := Try.sizeOf3
  rw [Instr.checkKey]
  simp only [Sem.run_bind, run_underlying Try.underlying61, Result.andThen_ok]
  go_simp
  simp [Instr.checkKey, run_underlying u3]
theorem findHed (a b c a' b' c' : Int) (v : Value) (born : Nat) (w : World) : (Instr.findKey 61 (hedV a b c) [{ key := hedV a' b' c', val := v, born := born }]).run Try.prog w = .ok (if (a, b, c) = (a', b', c') then some (0, v) else none) w := by
  rw [run_findKey_eq w (by rw [Try.underlying61])]
  simp only [Instr.findAsking, Op.equal, Op.maxDepth, Sem.run_bind, eqHed, Result.andThen_ok]
  by_cases h : (a, b, c) = (a', b', c')
  · simp [h]
  · simp [h]

set_option maxHeartbeats 800000 in
theorem c142 (s l o : Int) (w : World) : Calls Try.prog 142 #[hedV s l o] w fun e w' => e = .returned (.bool (hedOk s l o)) ∧ Below w.heap.size w w' := by
  by_cases h1 : 0 ≤ s ∧ s ≤ 40
  · have d1 : decide (0 ≤ s ∧ s ≤ 40) = true := decide_eq_true h1
    rcases h2 : Tm.okB l with _ | _
    · have HU : Hid (hedOk s l o = false) := by unfold Hid hedOk; rw [h2]; simp
      clear h1
      go_enter Try.func142, Try.ntmps142
      go_wp2_with (first | (go_at_call 110; refine (c110 _ _ _ _).mono ?_; rintro e w' ⟨rfl, rfl⟩) | (go_at_call 113; refine (c113 _ _).mono ?_; rintro e w' ⟨rfl, rfl⟩))
      go_ret
      exact ⟨ret_bool (unhide HU).symm, below_a _⟩
    · have HU : Hid (hedOk s l o = Tm.okB o) := by unfold Hid hedOk; rw [h2, d1]; simp
      clear h1
      go_enter Try.func142, Try.ntmps142
      go_wp2_with (first | (go_at_call 110; refine (c110 _ _ _ _).mono ?_; rintro e w' ⟨rfl, rfl⟩) | (go_at_call 113; refine (c113 _ _).mono ?_; rintro e w' ⟨rfl, rfl⟩))
      go_ret
      exact ⟨ret_bool (unhide HU).symm, below_a _⟩
  · have d1 : decide (0 ≤ s ∧ s ≤ 40) = false := decide_eq_false h1
    have HU : Hid (hedOk s l o = false) := by unfold Hid hedOk; rw [d1]; simp
    clear h1
    go_enter Try.func142, Try.ntmps142
    go_wp2_with (first | (go_at_call 110; refine (c110 _ _ _ _).mono ?_; rintro e w' ⟨rfl, rfl⟩) | (go_at_call 113; refine (c113 _ _).mono ?_; rintro e w' ⟨rfl, rfl⟩))
    go_ret
    exact ⟨ret_bool (unhide HU).symm, below_a _⟩

set_option maxHeartbeats 800000 in
theorem c73 (s l o : Int) (w : World) : Calls Try.prog 73 #[hedV s l o] w fun e w' => e = .returned (.bool (hedOk s l o)) ∧ Below w.heap.size w w' := by
  by_cases h1 : 0 ≤ s ∧ s ≤ 40
  · have d1 : decide (0 ≤ s ∧ s ≤ 40) = true := decide_eq_true h1
    rcases h2 : Tm.okB l with _ | _
    · have HU : Hid (hedOk s l o = false) := by unfold Hid hedOk; rw [h2]; simp
      clear h1
      go_enter Try.func73, Try.ntmps73
      go_wp2_with (first | (go_at_call 109; refine (c109 _ _ _ _).mono ?_; rintro e w' ⟨rfl, rfl⟩) | (go_at_call 158; refine (c158 _ _).mono ?_; rintro e w' ⟨rfl, rfl⟩))
      go_ret
      exact ⟨ret_bool (unhide HU).symm, below_a _⟩
    · have HU : Hid (hedOk s l o = Tm.okB o) := by unfold Hid hedOk; rw [h2, d1]; simp
      clear h1
      go_enter Try.func73, Try.ntmps73
      go_wp2_with (first | (go_at_call 109; refine (c109 _ _ _ _).mono ?_; rintro e w' ⟨rfl, rfl⟩) | (go_at_call 158; refine (c158 _ _).mono ?_; rintro e w' ⟨rfl, rfl⟩))
      go_ret
      exact ⟨ret_bool (unhide HU).symm, below_a _⟩
  · have d1 : decide (0 ≤ s ∧ s ≤ 40) = false := decide_eq_false h1
    have HU : Hid (hedOk s l o = false) := by unfold Hid hedOk; rw [d1]; simp
    clear h1
    go_enter Try.func73, Try.ntmps73
    go_wp2_with (first | (go_at_call 109; refine (c109 _ _ _ _).mono ?_; rintro e w' ⟨rfl, rfl⟩) | (go_at_call 158; refine (c158 _ _).mono ?_; rintro e w' ⟨rfl, rfl⟩))
    go_ret
    exact ⟨ret_bool (unhide HU).symm, below_a _⟩

/-- the map with one head in it -/
theorem run_insHed (w : World) (r : Nat) (a b c : Int) (v : Value) (hb : Mp w r #[] 0) :
    (Instr.mapUpdate 193 (.map (some r)) (hedV a b c) v).run Try.prog w = .ok () (putMap w r #[{ key := hedV a b c, val := v, born := 0 }] 1) := by
  have hf : (Instr.findKey 61 (hedV a b c) []).run Try.prog w = .ok none w := by
    rw [run_findKey_eq w (by rw [Try.underlying61])]
    simp [Instr.findAsking]
  simp [Instr.mapUpdate, run_underlying Try.underlying193, MapKept.run_getObj_map hb, keyHed, hf, MapKept.run_setObj_map _ hb, Result.andThen, putMap]
theorem run_lookHed (w : World) (r clock : Nat) (a b c a' b' c' : Int) (hb : Mp w r #[{ key := hedV a b c, val := .int .i64 1, born := 0 }] clock) :
    (Instr.lookup 193 (.map (some r)) (hedV a' b' c') false).run Try.prog w = .ok (.int .i64 (if (a', b', c') = (a, b, c) then 1 else 0)) w := by
  have hz : (zeroValue 3).run Try.prog w = .ok (.int .i64 0) w := by first | exact Try.zeroValue3 _ | (go_simp; done)
  simp only [Instr.lookup, Sem.run_bind, run_underlying Try.underlying193, MapKept.run_getObj_map hb, keyHed, findHed, Result.andThen_ok, Sem.run_pure]
  by_cases h : (a', b', c') = (a, b, c)
  · simp [h]
  · simp [h, hz]
end Go.Proofs.Ytmlbphmbffkdnaa
