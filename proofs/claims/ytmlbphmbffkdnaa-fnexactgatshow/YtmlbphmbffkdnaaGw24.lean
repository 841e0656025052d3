/-
  Texts of the proof, what it needs of them: Hbas, Heda.
-/
import Derived.Laws.StructEq
import Derived.Test.YtmlbphmbffkdnaaGw23
import Derived.WideKeyRuns
namespace Go.Proofs.Ytmlbphmbffkdnaa
open Go.RowKit
set_option linter.unusedVariables false
set_option maxRecDepth 100000

theorem Box.bel {W w : World} {g : Nat} {vs : List Value} (h : Box W g vs) (hb : Below W.heap.size W w) : Box w g vs := h.below hb
end Go.Proofs.Ytmlbphmbffkdnaa
namespace Go.Proofs.Ytmlbphmbffkdnaa
open Go.RowKit
set_option linter.unusedVariables false
set_option maxRecDepth 100000

/-- a head as a value -/
abbrev hedV (s l o : Int) : Value := .agg #[.int .i64 s, .int .i64 l, .int .i64 o]
/-- a head is ok -/
def hedOk (s l o : Int) : Bool := decide (0 ≤ s ∧ s ≤ 40) && (Tm.okB l && Tm.okB o)

set_option maxHeartbeats 800000 in
theorem c142 (s l o : Int) (w : World) : Calls Try.prog 142 #[hedV s l o] w fun e w' => e = .returned (.bool (hedOk s l o)) ∧ Below w.heap.size w w' := by
  by_cases h1 : 0 ≤ s ∧ s ≤ 40
  · have d1 : decide (0 ≤ s ∧ s ≤ 40) = true := decide_eq_true h1
    rcases h2 : Tm.okB l with _ | _
    · have HU : Hid (hedOk s l o = false) := by unfold Hid hedOk; rw [h2]; simp
      clear h1
      go_enter Try.func142, Try.ntmps142
      go_wp2_with (first | (go_at_call 110; refine (c110 _ _ _ _).mono ?_; rintro e w' ⟨rfl, rfl⟩) | (go_at_call 113; refine (c113 _ _).mono ?_; rintro e w' ⟨rfl, rfl⟩))
      go_ret
      exact ⟨ret_bool (unhide HU).symm, below_a _⟩
    · have HU : Hid (hedOk s l o = Tm.okB o) := by unfold Hid hedOk; rw [h2, d1]; simp
      clear h1
      go_enter Try.func142, Try.ntmps142
      go_wp2_with (first | (go_at_call 110; refine (c110 _ _ _ _).mono ?_; rintro e w' ⟨rfl, rfl⟩) | (go_at_call 113; refine (c113 _ _).mono ?_; rintro e w' ⟨rfl, rfl⟩))
      go_ret
      exact ⟨ret_bool (unhide HU).symm, below_a _⟩
  · have d1 : decide (0 ≤ s ∧ s ≤ 40) = false := decide_eq_false h1
    have HU : Hid (hedOk s l o = false) := by unfold Hid hedOk; rw [d1]; simp
    clear h1
    go_enter Try.func142, Try.ntmps142
    go_wp2_with (first | (go_at_call 110; refine (c110 _ _ _ _).mono ?_; rintro e w' ⟨rfl, rfl⟩) | (go_at_call 113; refine (c113 _ _).mono ?_; rintro e w' ⟨rfl, rfl⟩))
    go_ret
    exact ⟨ret_bool (unhide HU).symm, below_a _⟩

set_option maxHeartbeats 800000 in
theorem c73 (s l o : Int) (w : World) : Calls Try.prog 73 #[hedV s l o] w fun e w' => e = .returned (.bool (hedOk s l o)) ∧ Below w.heap.size w w' := by
  by_cases h1 : 0 ≤ s ∧ s ≤ 40
  · have d1 : decide (0 ≤ s ∧ s ≤ 40) = true := decide_eq_true h1
    rcases h2 : Tm.okB l with _ | _
    · have HU : Hid (hedOk s l o = false) := by unfold Hid hedOk; rw [h2]; simp
      clear h1
      go_enter Try.func73, Try.ntmps73
      go_wp2_with (first | (go_at_call 109; refine (c109 _ _ _ _).mono ?_; rintro e w' ⟨rfl, rfl⟩) | (go_at_call 158; refine (c158 _ _).mono ?_; rintro e w' ⟨rfl, rfl⟩))
      go_ret
      exact ⟨ret_bool (unhide HU).symm, below_a _⟩
    · have HU : Hid (hedOk s l o = Tm.okB o) := by unfold Hid hedOk; rw [h2, d1]; simp
      clear h1
      go_enter Try.func73, Try.ntmps73
      go_wp2_with (first | (go_at_call 109; refine (c109 _ _ _ _).mono ?_; rintro e w' ⟨rfl, rfl⟩) | (go_at_call 158; refine (c158 _ _).mono ?_; rintro e w' ⟨rfl, rfl⟩))
      go_ret
      exact ⟨ret_bool (unhide HU).symm, below_a _⟩
  · have d1 : decide (0 ≤ s ∧ s ≤ 40) = false := decide_eq_false h1
    have HU : Hid (hedOk s l o = false) := by unfold Hid hedOk; rw [d1]; simp
    clear h1
    go_enter Try.func73, Try.ntmps73
    go_wp2_with (first | (go_at_call 109; refine (c109 _ _ _ _).mono ?_; rintro e w' ⟨rfl, rfl⟩) | (go_at_call 158; refine (c158 _ _).mono ?_; rintro e w' ⟨rfl, rfl⟩))
    go_ret
    exact ⟨ret_bool (unhide HU).symm, below_a _⟩

set_option maxHeartbeats 400000 in
theorem c77 (s l o : Int) (w : World) : Calls Try.prog 77 #[hedV s l o] w fun e w' => e = .returned (hedV s l o) ∧ Below w.heap.size w w' := by
  go_enter Try.func77, Try.ntmps77
  go_wp2_with fail
  exact bodyPost_ret (v := hedV s l o) (by simp [results, Try.results77, go_sem]) rfl ⟨rfl, below_al (below_al (below_a _))⟩

set_option maxHeartbeats 800000 in
theorem c79 (x0 x1 x2 y0 y1 y2 : Int) (w : World) : Calls Try.prog 79 #[hedV x0 x1 x2, hedV y0 y1 y2] w fun e w' => e = .returned (.bool (decide ((x0, x1, x2) = (y0, y1, y2)))) ∧ Below w.heap.size w w' := by
  by_cases q0 : x0 = y0
  case neg =>
    have HE : Hid (decide ((x0, x1, x2) = (y0, y1, y2)) = false) := by unfold Hid; rw [decide_eq_false_iff_not]; intro h; simp only [Prod.mk.injEq] at h; exact q0 h.1
    have b0 : (x0 != y0) = true := by rw [bne_iff_ne]; exact q0
    clear q0
    go_enter Try.func79, Try.ntmps79
    go_wp2_with fail
    go_ret
    exact ⟨ret_bool (unhide HE).symm, below_al (below_a _)⟩
  by_cases q1 : x1 = y1
  case neg =>
    have HE : Hid (decide ((x0, x1, x2) = (y0, y1, y2)) = false) := by unfold Hid; rw [decide_eq_false_iff_not]; intro h; simp only [Prod.mk.injEq] at h; exact q1 h.2.1
    have b1 : (x1 != y1) = true := by rw [bne_iff_ne]; exact q1
    have c0 : (x0 != y0) = false := by rw [bne_eq_false_iff_eq]; exact q0
    clear q0
    clear q1
    go_enter Try.func79, Try.ntmps79
    go_wp2_with fail
    go_ret
    exact ⟨ret_bool (unhide HE).symm, below_al (below_a _)⟩
  by_cases q2 : x2 = y2
  case neg =>
    have HE : Hid (decide ((x0, x1, x2) = (y0, y1, y2)) = false) := by unfold Hid; rw [decide_eq_false_iff_not]; intro h; simp only [Prod.mk.injEq] at h; exact q2 h.2.2
    have b2 : (x2 != y2) = true := by rw [bne_iff_ne]; exact q2
    have c0 : (x0 != y0) = false := by rw [bne_eq_false_iff_eq]; exact q0
    have c1 : (x1 != y1) = false := by rw [bne_eq_false_iff_eq]; exact q1
    clear q0
    clear q1
    clear q2
    go_enter Try.func79, Try.ntmps79
    go_wp2_with fail
    go_ret
    exact ⟨ret_bool (unhide HE).symm, below_al (below_a _)⟩
  have HE : Hid (decide ((x0, x1, x2) = (y0, y1, y2)) = true) := by unfold Hid; rw [decide_eq_true_iff, q0, q1, q2]
  have c0 : (x0 != y0) = false := by rw [bne_eq_false_iff_eq]; exact q0
  have c1 : (x1 != y1) = false := by rw [bne_eq_false_iff_eq]; exact q1
  have c2 : (x2 != y2) = false := by rw [bne_eq_false_iff_eq]; exact q2
  clear q0 q1 q2
  go_enter Try.func79, Try.ntmps79
  go_wp2_with fail
  go_ret
  exact ⟨ret_bool (unhide HE).symm, below_al (below_a _)⟩

end Go.Proofs.Ytmlbphmbffkdnaa
