/-
  Requests: which are ok, as the program says it and as the model does; the exact law; what is told of a request that came in.
-/
import Derived.ProofKit
import Derived.OpenShut
import Derived.Deep.Slices
import Derived.Lib.SmallJoins
import Derived.Test.YtnppgfnlfdnkpaaMona
import Derived.Test.YtnppgfnlfdnkpaaEnta
import Derived.Test.YtnppgfnlfdnkpaaDraw
import Derived.Test.YtnppgfnlfdnkpaaRoots
namespace Go.Proofs.Ytnppgfnlfdnkpaa
open Go.RowKit Go.ChangeShapes Go.WideShapes Go.ChangeAt
set_option linter.unusedVariables false
set_option maxRecDepth 100000

abbrev reqV (u n k t h p : Int) : Value := .agg #[.int .i64 u, .int .i64 n, .int .i64 k, .int .i64 t, .int .i64 h, .int .i64 p]
/-- a request has just what its kind has -/
def reqOk (u n k t h p : Int) : Bool := decide ((1 ≤ u ∧ u ≤ 5) ∧ (1 ≤ n ∧ n ≤ 99999) ∧ (0 ≤ t ∧ t ≤ 7) ∧
  ((k = 1 ∧ (1 ≤ h ∧ h ≤ 5) ∧ 1 ≤ p ∧ p ≤ 50) ∨ (k = 2 ∧ h = 0 ∧ 1 ≤ p ∧ p ≤ 999) ∨ ((3 ≤ k ∧ k ≤ 6) ∧ h = 0 ∧ p = 0)))
theorem reqOk_f {u n k t h p : Int} (x : ¬ ((1 ≤ u ∧ u ≤ 5) ∧ (1 ≤ n ∧ n ≤ 99999) ∧ (0 ≤ t ∧ t ≤ 7) ∧
  ((k = 1 ∧ (1 ≤ h ∧ h ≤ 5) ∧ 1 ≤ p ∧ p ≤ 50) ∨ (k = 2 ∧ h = 0 ∧ 1 ≤ p ∧ p ≤ 999) ∨ ((3 ≤ k ∧ k ≤ 6) ∧ h = 0 ∧ p = 0)))) : reqOk u n k t h p = false := by
  unfold reqOk; exact decide_eq_false x
theorem reqOk_b {u n k t h p : Int} {b : Bool} (x : ((1 ≤ u ∧ u ≤ 5) ∧ (1 ≤ n ∧ n ≤ 99999) ∧ (0 ≤ t ∧ t ≤ 7) ∧
  ((k = 1 ∧ (1 ≤ h ∧ h ≤ 5) ∧ 1 ≤ p ∧ p ≤ 50) ∨ (k = 2 ∧ h = 0 ∧ 1 ≤ p ∧ p ≤ 999) ∨ ((3 ≤ k ∧ k ≤ 6) ∧ h = 0 ∧ p = 0))) ↔ b = true) : reqOk u n k t h p = b := by
  unfold reqOk; rw [Bool.eq_iff_iff, decide_eq_true_iff]; exact x

set_option maxHeartbeats 800000 in
theorem c64 (u n k t h p : Int) (w : World) : Calls Try.prog 64 #[reqV u n k t h p] w fun e w' => e = .returned (reqV u n k t h p) ∧ Below w.heap.size w w' := by
  go_enter Try.func64, Try.ntmps64
  go_wp2_with fail
  exact bodyPost_ret (v := reqV u n k t h p) (by simp [results, Try.results64, go_sem]) rfl ⟨rfl, below_al (below_al (below_a _))⟩

set_option maxHeartbeats 1600000 in
theorem c50 (u n k t h p : Int) (w : World) : Calls Try.prog 50 #[reqV u n k t h p] w fun e w' => e = .returned (.bool (reqOk u n k t h p)) ∧ Below w.heap.size w w' := by
  by_cases xu : (1 ≤ u ∧ u ≤ 5)
  case neg =>
    have du : decide (1 ≤ u ∧ u ≤ 5) = false := by simpa using xu
    have HE := hide (reqOk_f (u := u) (n := n) (k := k) (t := t) (h := h) (p := p) (by omega)); clear xu
    go_enter Try.func50, Try.ntmps50
    go_wp2_with (first | (go_at_call 96; refine (c96 _ _).mono ?_; rintro e w' ⟨rfl, rfl⟩) | (go_at_call 95; refine (c95 _ _).mono ?_; rintro e w' ⟨rfl, rfl⟩) | (go_at_call 73; refine (c73 _ _ _ _).mono ?_; rintro e w' ⟨rfl, rfl⟩))
    go_ret
    exact ⟨ret_bool (by first | exact (unhide HE).symm | (rw [unhide HE]; first | rfl | (simp; done))), below_a _⟩
  have du : decide (1 ≤ u ∧ u ≤ 5) = true := by simpa using xu
  by_cases xn : (1 ≤ n ∧ n ≤ 99999)
  case neg =>
    have dn : decide (1 ≤ n ∧ n ≤ 99999) = false := by simpa using xn
    have HE := hide (reqOk_f (u := u) (n := n) (k := k) (t := t) (h := h) (p := p) (by omega)); clear xu xn
    go_enter Try.func50, Try.ntmps50
    go_wp2_with (first | (go_at_call 96; refine (c96 _ _).mono ?_; rintro e w' ⟨rfl, rfl⟩) | (go_at_call 95; refine (c95 _ _).mono ?_; rintro e w' ⟨rfl, rfl⟩) | (go_at_call 73; refine (c73 _ _ _ _).mono ?_; rintro e w' ⟨rfl, rfl⟩))
    go_ret
    exact ⟨ret_bool (by first | exact (unhide HE).symm | (rw [unhide HE]; first | rfl | (simp; done))), below_a _⟩
  have dn : decide (1 ≤ n ∧ n ≤ 99999) = true := by simpa using xn
  by_cases xt : (0 ≤ t ∧ t ≤ 7)
  case neg =>
    have dt : decide (0 ≤ t ∧ t ≤ 7) = false := by simpa using xt
    have HE := hide (reqOk_f (u := u) (n := n) (k := k) (t := t) (h := h) (p := p) (by omega)); clear xu xn xt
    go_enter Try.func50, Try.ntmps50
    go_wp2_with (first | (go_at_call 96; refine (c96 _ _).mono ?_; rintro e w' ⟨rfl, rfl⟩) | (go_at_call 95; refine (c95 _ _).mono ?_; rintro e w' ⟨rfl, rfl⟩) | (go_at_call 73; refine (c73 _ _ _ _).mono ?_; rintro e w' ⟨rfl, rfl⟩))
    go_ret
    exact ⟨ret_bool (by first | exact (unhide HE).symm | (rw [unhide HE]; first | rfl | (simp; done))), below_a _⟩
  have dt : decide (0 ≤ t ∧ t ≤ 7) = true := by simpa using xt
  by_cases k1 : k = 1
  · subst k1
    by_cases xh : (1 ≤ h ∧ h ≤ 5)
    · have dh : decide (1 ≤ h ∧ h ≤ 5) = true := by simpa using xh
      have HE := hide (reqOk_b (u := u) (n := n) (k := 1) (t := t) (h := h) (p := p) (b := decide (1 ≤ p ∧ p ≤ 50)) (by first | (rw [decide_eq_true_iff]; omega) | (simp only [beq_iff_eq]; omega) | (simp; done) | (simp; omega))); clear xu xn xt xh
      go_enter Try.func50, Try.ntmps50
      go_wp2_with (first | (go_at_call 96; refine (c96 _ _).mono ?_; rintro e w' ⟨rfl, rfl⟩) | (go_at_call 95; refine (c95 _ _).mono ?_; rintro e w' ⟨rfl, rfl⟩) | (go_at_call 73; refine (c73 _ _ _ _).mono ?_; rintro e w' ⟨rfl, rfl⟩))
      go_ret
      exact ⟨ret_bool (by first | exact (unhide HE).symm | (rw [unhide HE]; first | rfl | (simp; done))), below_a _⟩
    · have dh : decide (1 ≤ h ∧ h ≤ 5) = false := by simpa using xh
      have HE := hide (reqOk_f (u := u) (n := n) (k := 1) (t := t) (h := h) (p := p) (by omega)); clear xu xn xt xh
      go_enter Try.func50, Try.ntmps50
      go_wp2_with (first | (go_at_call 96; refine (c96 _ _).mono ?_; rintro e w' ⟨rfl, rfl⟩) | (go_at_call 95; refine (c95 _ _).mono ?_; rintro e w' ⟨rfl, rfl⟩) | (go_at_call 73; refine (c73 _ _ _ _).mono ?_; rintro e w' ⟨rfl, rfl⟩))
      go_ret
      exact ⟨ret_bool (by first | exact (unhide HE).symm | (rw [unhide HE]; first | rfl | (simp; done))), below_a _⟩
  by_cases k2 : k = 2
  · subst k2
    by_cases xh : h = 0
    · subst xh
      have HE := hide (reqOk_b (u := u) (n := n) (k := 2) (t := t) (h := 0) (p := p) (b := decide (1 ≤ p ∧ p ≤ 999)) (by first | (rw [decide_eq_true_iff]; omega) | (simp only [beq_iff_eq]; omega) | (simp; done) | (simp; omega))); clear xu xn xt k1
      go_enter Try.func50, Try.ntmps50
      go_wp2_with (first | (go_at_call 96; refine (c96 _ _).mono ?_; rintro e w' ⟨rfl, rfl⟩) | (go_at_call 95; refine (c95 _ _).mono ?_; rintro e w' ⟨rfl, rfl⟩) | (go_at_call 73; refine (c73 _ _ _ _).mono ?_; rintro e w' ⟨rfl, rfl⟩))
      go_ret
      exact ⟨ret_bool (by first | exact (unhide HE).symm | (rw [unhide HE]; first | rfl | (simp; done))), below_a _⟩
    · have dh : (h == 0) = false := by simpa using xh
      have HE := hide (reqOk_f (u := u) (n := n) (k := 2) (t := t) (h := h) (p := p) (by omega)); clear xu xn xt xh k1
      go_enter Try.func50, Try.ntmps50
      go_wp2_with (first | (go_at_call 96; refine (c96 _ _).mono ?_; rintro e w' ⟨rfl, rfl⟩) | (go_at_call 95; refine (c95 _ _).mono ?_; rintro e w' ⟨rfl, rfl⟩) | (go_at_call 73; refine (c73 _ _ _ _).mono ?_; rintro e w' ⟨rfl, rfl⟩))
      go_ret
      exact ⟨ret_bool (by first | exact (unhide HE).symm | (rw [unhide HE]; first | rfl | (simp; done))), below_a _⟩
  by_cases k3 : k = 3
  · subst k3
    by_cases xh : h = 0
    · subst xh
      have HE := hide (reqOk_b (u := u) (n := n) (k := 3) (t := t) (h := 0) (p := p) (b := (p == 0)) (by first | (rw [decide_eq_true_iff]; omega) | (simp only [beq_iff_eq]; omega) | (simp; done) | (simp; omega))); clear xu xn xt k1 k2
      go_enter Try.func50, Try.ntmps50
      go_wp2_with (first | (go_at_call 96; refine (c96 _ _).mono ?_; rintro e w' ⟨rfl, rfl⟩) | (go_at_call 95; refine (c95 _ _).mono ?_; rintro e w' ⟨rfl, rfl⟩) | (go_at_call 73; refine (c73 _ _ _ _).mono ?_; rintro e w' ⟨rfl, rfl⟩))
      go_ret
      exact ⟨ret_bool (by first | exact (unhide HE).symm | (rw [unhide HE]; first | rfl | (simp; done))), below_a _⟩
    · have dh : (h == 0) = false := by simpa using xh
      have HE := hide (reqOk_f (u := u) (n := n) (k := 3) (t := t) (h := h) (p := p) (by omega)); clear xu xn xt xh k1 k2
      go_enter Try.func50, Try.ntmps50
      go_wp2_with (first | (go_at_call 96; refine (c96 _ _).mono ?_; rintro e w' ⟨rfl, rfl⟩) | (go_at_call 95; refine (c95 _ _).mono ?_; rintro e w' ⟨rfl, rfl⟩) | (go_at_call 73; refine (c73 _ _ _ _).mono ?_; rintro e w' ⟨rfl, rfl⟩))
      go_ret
      exact ⟨ret_bool (by first | exact (unhide HE).symm | (rw [unhide HE]; first | rfl | (simp; done))), below_a _⟩
  by_cases k4 : k = 4
  · subst k4
    by_cases xh : h = 0
    · subst xh
      have HE := hide (reqOk_b (u := u) (n := n) (k := 4) (t := t) (h := 0) (p := p) (b := (p == 0)) (by first | (rw [decide_eq_true_iff]; omega) | (simp only [beq_iff_eq]; omega) | (simp; done) | (simp; omega))); clear xu xn xt k1 k2 k3
      go_enter Try.func50, Try.ntmps50
      go_wp2_with (first | (go_at_call 96; refine (c96 _ _).mono ?_; rintro e w' ⟨rfl, rfl⟩) | (go_at_call 95; refine (c95 _ _).mono ?_; rintro e w' ⟨rfl, rfl⟩) | (go_at_call 73; refine (c73 _ _ _ _).mono ?_; rintro e w' ⟨rfl, rfl⟩))
      go_ret
      exact ⟨ret_bool (by first | exact (unhide HE).symm | (rw [unhide HE]; first | rfl | (simp; done))), below_a _⟩
    · have dh : (h == 0) = false := by simpa using xh
      have HE := hide (reqOk_f (u := u) (n := n) (k := 4) (t := t) (h := h) (p := p) (by omega)); clear xu xn xt xh k1 k2 k3
      go_enter Try.func50, Try.ntmps50
      go_wp2_with (first | (go_at_call 96; refine (c96 _ _).mono ?_; rintro e w' ⟨rfl, rfl⟩) | (go_at_call 95; refine (c95 _ _).mono ?_; rintro e w' ⟨rfl, rfl⟩) | (go_at_call 73; refine (c73 _ _ _ _).mono ?_; rintro e w' ⟨rfl, rfl⟩))
      go_ret
      exact ⟨ret_bool (by first | exact (unhide HE).symm | (rw [unhide HE]; first | rfl | (simp; done))), below_a _⟩
  by_cases k5 : k = 5
  · subst k5
    by_cases xh : h = 0
    · subst xh
      have HE := hide (reqOk_b (u := u) (n := n) (k := 5) (t := t) (h := 0) (p := p) (b := (p == 0)) (by first | (rw [decide_eq_true_iff]; omega) | (simp only [beq_iff_eq]; omega) | (simp; done) | (simp; omega))); clear xu xn xt k1 k2 k3 k4
      go_enter Try.func50, Try.ntmps50
      go_wp2_with (first | (go_at_call 96; refine (c96 _ _).mono ?_; rintro e w' ⟨rfl, rfl⟩) | (go_at_call 95; refine (c95 _ _).mono ?_; rintro e w' ⟨rfl, rfl⟩) | (go_at_call 73; refine (c73 _ _ _ _).mono ?_; rintro e w' ⟨rfl, rfl⟩))
      go_ret
      exact ⟨ret_bool (by first | exact (unhide HE).symm | (rw [unhide HE]; first | rfl | (simp; done))), below_a _⟩
    · have dh : (h == 0) = false := by simpa using xh
      have HE := hide (reqOk_f (u := u) (n := n) (k := 5) (t := t) (h := h) (p := p) (by omega)); clear xu xn xt xh k1 k2 k3 k4
      go_enter Try.func50, Try.ntmps50
      go_wp2_with (first | (go_at_call 96; refine (c96 _ _).mono ?_; rintro e w' ⟨rfl, rfl⟩) | (go_at_call 95; refine (c95 _ _).mono ?_; rintro e w' ⟨rfl, rfl⟩) | (go_at_call 73; refine (c73 _ _ _ _).mono ?_; rintro e w' ⟨rfl, rfl⟩))
      go_ret
      exact ⟨ret_bool (by first | exact (unhide HE).symm | (rw [unhide HE]; first | rfl | (simp; done))), below_a _⟩
  by_cases k6 : k = 6
  · subst k6
    by_cases xh : h = 0
    · subst xh
      have HE := hide (reqOk_b (u := u) (n := n) (k := 6) (t := t) (h := 0) (p := p) (b := (p == 0)) (by first | (rw [decide_eq_true_iff]; omega) | (simp only [beq_iff_eq]; omega) | (simp; done) | (simp; omega))); clear xu xn xt k1 k2 k3 k4 k5
      go_enter Try.func50, Try.ntmps50
      go_wp2_with (first | (go_at_call 96; refine (c96 _ _).mono ?_; rintro e w' ⟨rfl, rfl⟩) | (go_at_call 95; refine (c95 _ _).mono ?_; rintro e w' ⟨rfl, rfl⟩) | (go_at_call 73; refine (c73 _ _ _ _).mono ?_; rintro e w' ⟨rfl, rfl⟩))
      go_ret
      exact ⟨ret_bool (by first | exact (unhide HE).symm | (rw [unhide HE]; first | rfl | (simp; done))), below_a _⟩
    · have dh : (h == 0) = false := by simpa using xh
      have HE := hide (reqOk_f (u := u) (n := n) (k := 6) (t := t) (h := h) (p := p) (by omega)); clear xu xn xt xh k1 k2 k3 k4 k5
      go_enter Try.func50, Try.ntmps50
      go_wp2_with (first | (go_at_call 96; refine (c96 _ _).mono ?_; rintro e w' ⟨rfl, rfl⟩) | (go_at_call 95; refine (c95 _ _).mono ?_; rintro e w' ⟨rfl, rfl⟩) | (go_at_call 73; refine (c73 _ _ _ _).mono ?_; rintro e w' ⟨rfl, rfl⟩))
      go_ret
      exact ⟨ret_bool (by first | exact (unhide HE).symm | (rw [unhide HE]; first | rfl | (simp; done))), below_a _⟩
  have b1 : (k == 1) = false := by simpa using k1
  have b2 : (k == 2) = false := by simpa using k2
  have b3 : (k == 3) = false := by simpa using k3
  have b4 : (k == 4) = false := by simpa using k4
  have b5 : (k == 5) = false := by simpa using k5
  have b6 : (k == 6) = false := by simpa using k6
  have HE := hide (reqOk_f (u := u) (n := n) (k := k) (t := t) (h := h) (p := p) (by omega)); clear xu xn xt k1 k2 k3 k4 k5 k6
  go_enter Try.func50, Try.ntmps50
  go_wp2_with (first | (go_at_call 96; refine (c96 _ _).mono ?_; rintro e w' ⟨rfl, rfl⟩) | (go_at_call 95; refine (c95 _ _).mono ?_; rintro e w' ⟨rfl, rfl⟩) | (go_at_call 73; refine (c73 _ _ _ _).mono ?_; rintro e w' ⟨rfl, rfl⟩))
  go_ret
  exact ⟨ret_bool (by first | exact (unhide HE).symm | (rw [unhide HE]; first | rfl | (simp; done))), below_a _⟩

set_option maxHeartbeats 1600000 in
theorem c51 (u n k t h p : Int) (w : World) : Calls Try.prog 51 #[reqV u n k t h p] w fun e w' => e = .returned (.bool (reqOk u n k t h p)) ∧ Below w.heap.size w w' := by
  by_cases xu : (1 ≤ u ∧ u ≤ 5)
  case neg =>
    have du : decide (1 ≤ u ∧ u ≤ 5) = false := by simpa using xu
    have HE := hide (reqOk_f (u := u) (n := n) (k := k) (t := t) (h := h) (p := p) (by omega)); clear xu
    go_enter Try.func51, Try.ntmps51
    go_wp2_with (go_at_call 72; refine (c72 _ _ _ _).mono ?_; rintro e w' ⟨rfl, rfl⟩)
    go_ret
    exact ⟨ret_bool (by first | exact (unhide HE).symm | (rw [unhide HE]; first | rfl | (simp; done))), below_a _⟩
  have du : decide (1 ≤ u ∧ u ≤ 5) = true := by simpa using xu
  by_cases xn : (1 ≤ n ∧ n ≤ 99999)
  case neg =>
    have dn : decide (1 ≤ n ∧ n ≤ 99999) = false := by simpa using xn
    have HE := hide (reqOk_f (u := u) (n := n) (k := k) (t := t) (h := h) (p := p) (by omega)); clear xu xn
    go_enter Try.func51, Try.ntmps51
    go_wp2_with (go_at_call 72; refine (c72 _ _ _ _).mono ?_; rintro e w' ⟨rfl, rfl⟩)
    go_ret
    exact ⟨ret_bool (by first | exact (unhide HE).symm | (rw [unhide HE]; first | rfl | (simp; done))), below_a _⟩
  have dn : decide (1 ≤ n ∧ n ≤ 99999) = true := by simpa using xn
  by_cases xk : (1 ≤ k ∧ k ≤ 6)
  case neg =>
    have dk : decide (1 ≤ k ∧ k ≤ 6) = false := by simpa using xk
    have HE := hide (reqOk_f (u := u) (n := n) (k := k) (t := t) (h := h) (p := p) (by omega)); clear xu xn xk
    go_enter Try.func51, Try.ntmps51
    go_wp2_with (go_at_call 72; refine (c72 _ _ _ _).mono ?_; rintro e w' ⟨rfl, rfl⟩)
    go_ret
    exact ⟨ret_bool (by first | exact (unhide HE).symm | (rw [unhide HE]; first | rfl | (simp; done))), below_a _⟩
  have dk : decide (1 ≤ k ∧ k ≤ 6) = true := by simpa using xk
  by_cases xt : (0 ≤ t ∧ t ≤ 7)
  case neg =>
    have dt : decide (0 ≤ t ∧ t ≤ 7) = false := by simpa using xt
    have HE := hide (reqOk_f (u := u) (n := n) (k := k) (t := t) (h := h) (p := p) (by omega)); clear xu xn xk xt
    go_enter Try.func51, Try.ntmps51
    go_wp2_with (go_at_call 72; refine (c72 _ _ _ _).mono ?_; rintro e w' ⟨rfl, rfl⟩)
    go_ret
    exact ⟨ret_bool (by first | exact (unhide HE).symm | (rw [unhide HE]; first | rfl | (simp; done))), below_a _⟩
  have dt : decide (0 ≤ t ∧ t ≤ 7) = true := by simpa using xt
  by_cases k1 : k = 1
  · subst k1
    by_cases xh : (1 ≤ h ∧ h ≤ 5)
    · have dh : decide (1 ≤ h ∧ h ≤ 5) = true := by simpa using xh
      have HE := hide (reqOk_b (u := u) (n := n) (k := 1) (t := t) (h := h) (p := p) (b := decide (1 ≤ p ∧ p ≤ 50)) (by first | (rw [decide_eq_true_iff]; omega) | (simp only [beq_iff_eq]; omega) | (simp; done) | (simp; omega))); clear xu xn xk xt xh
      go_enter Try.func51, Try.ntmps51
      go_wp2_with (go_at_call 72; refine (c72 _ _ _ _).mono ?_; rintro e w' ⟨rfl, rfl⟩)
      go_ret
      exact ⟨ret_bool (by first | exact (unhide HE).symm | (rw [unhide HE]; first | rfl | (simp; done))), below_a _⟩
    · have dh : decide (1 ≤ h ∧ h ≤ 5) = false := by simpa using xh
      have HE := hide (reqOk_f (u := u) (n := n) (k := 1) (t := t) (h := h) (p := p) (by omega)); clear xu xn xk xt xh
      go_enter Try.func51, Try.ntmps51
      go_wp2_with (go_at_call 72; refine (c72 _ _ _ _).mono ?_; rintro e w' ⟨rfl, rfl⟩)
      go_ret
      exact ⟨ret_bool (by first | exact (unhide HE).symm | (rw [unhide HE]; first | rfl | (simp; done))), below_a _⟩
  have b1 : (k == 1) = false := by simpa using k1
  by_cases xh : h = 0
  case neg =>
    have dh : (h == 0) = false := by simpa using xh
    have HE := hide (reqOk_f (u := u) (n := n) (k := k) (t := t) (h := h) (p := p) (by omega)); clear xu xn xk xt xh k1
    go_enter Try.func51, Try.ntmps51
    go_wp2_with (go_at_call 72; refine (c72 _ _ _ _).mono ?_; rintro e w' ⟨rfl, rfl⟩)
    go_ret
    exact ⟨ret_bool (by first | exact (unhide HE).symm | (rw [unhide HE]; first | rfl | (simp; done))), below_a _⟩
  subst xh
  by_cases k2 : k = 2
  · subst k2
    by_cases xp : (1 ≤ p ∧ p ≤ 999)
    · have dp : decide (1 ≤ p ∧ p ≤ 999) = true := by simpa using xp
      have HE := hide (reqOk_b (u := u) (n := n) (k := 2) (t := t) (h := 0) (p := p) (b := true) (by first | (rw [decide_eq_true_iff]; omega) | (simp; done) | (simp; omega))); clear xu xn xk xt k1 xp
      go_enter Try.func51, Try.ntmps51
      go_wp2_with (go_at_call 72; refine (c72 _ _ _ _).mono ?_; rintro e w' ⟨rfl, rfl⟩)
      go_ret
      exact ⟨ret_bool (by first | exact (unhide HE).symm | (rw [unhide HE]; first | rfl | (simp; done))), below_a _⟩
    · have dp : decide (1 ≤ p ∧ p ≤ 999) = false := by simpa using xp
      have HE := hide (reqOk_f (u := u) (n := n) (k := 2) (t := t) (h := 0) (p := p) (by omega)); clear xu xn xk xt k1 xp
      go_enter Try.func51, Try.ntmps51
      go_wp2_with (go_at_call 72; refine (c72 _ _ _ _).mono ?_; rintro e w' ⟨rfl, rfl⟩)
      go_ret
      exact ⟨ret_bool (by first | exact (unhide HE).symm | (rw [unhide HE]; first | rfl | (simp; done))), below_a _⟩
  · have b2 : (k == 2) = false := by simpa using k2
    have b2' : (k != 2) = true := by simpa using k2
    have HE := hide (reqOk_b (u := u) (n := n) (k := k) (t := t) (h := 0) (p := p) (b := (p == 0)) (by first | (rw [decide_eq_true_iff]; omega) | (simp only [beq_iff_eq]; omega) | (simp; done) | (simp; omega))); clear xu xn xk xt k1 k2
    go_enter Try.func51, Try.ntmps51
    go_wp2_with (go_at_call 72; refine (c72 _ _ _ _).mono ?_; rintro e w' ⟨rfl, rfl⟩)
    go_ret
    exact ⟨ret_bool (by first | exact (unhide HE).symm | (rw [unhide HE]; first | rfl | (simp; done))), below_a _⟩

set_option maxHeartbeats 1600000 in
theorem law14 (u n k t h p : Int) (w : World) : Calls Try.prog 14 #[reqV u n k t h p] w (Holds w) := by
  go_enter Try.func14, Try.ntmps14
  go_wp2_with fail
  refine (c64 u n k t h p _).mono ?_
  rintro e w1 ⟨rfl, hb1⟩
  have HX1 := hide ((box_new w [.int .i64 u, .int .i64 n, .int .i64 k, .int .i64 t, .int .i64 h, .int .i64 p] 73 (by simp [Value.oneCell'])).below hb1)
  have HB1 := hide (below_tr (below_a _) hb1)
  clear hb1
  go_wp2_with fail
  refine (c51 u n k t h p _).mono ?_
  rintro e w2 ⟨rfl, hb2⟩
  have HX2 := hide ((unhide HX1).below hb2)
  have HB2 := hide (below_tr (unhide HB1) hb2)
  clear hb2 HX1 HB1
  have g0 := (unhide HX2).cell 0 rfl
  have g1 := (unhide HX2).cell 1 rfl
  have g2 := (unhide HX2).cell 2 rfl
  have g3 := (unhide HX2).cell 3 rfl
  have g4 := (unhide HX2).cell 4 rfl
  have g5 := (unhide HX2).cell 5 rfl
  go_wp2_with fail
  refine (c64 u n k t h p _).mono ?_
  rintro e w3 ⟨rfl, hb3⟩
  have HB3 := hide (below_tr (unhide HB2) hb3)
  clear hb3 HB2 HX2 g0 g1 g2 g3 g4 g5
  go_wp2_with fail
  refine (c50 u n k t h p _).mono ?_
  rintro e w4 ⟨rfl, hb4⟩
  have HB4 := hide (below_tr (unhide HB3) hb4)
  clear hb4 HB3
  go_wp2_with fail
  go_ret
  exact ⟨rfl, unhide HB4⟩

section
variable {H : Type} {enc : TypeId × Value → H} {w : World} {base : Nat} {spare : Nat → Bool} {held : Bool}
theorem open_Q {r : Reach} {b0 : Nat} {v : Value} {d : DataW H} {p : List MemPlace} (hv : Value.okWide Try.prog w r b0 73 v) (h : DataW.Trod enc Try.prog w base spare held 73 v d p) :
    ∃ a0 a1 a2 a3 a4 a5, v = reqV a0 a1 a2 a3 a4 a5 ∧ True := by
  obtain ⟨cs, rfl, hsz⟩ := okWide_struct Try.underlying73 hv
  obtain ⟨fuel, hf⟩ := h
  obtain ⟨xs, n, _, hx, hl, hlen, hfld⟩ := DataW.trod_struct Try.underlying73 hf
  have hC : Try.prog.cellsOf 73 = 6 := by kernel_rfl
  have hc3 : Try.prog.cellsOf 3 = 1 := by kernel_rfl
  rw [hC] at hsz
  match xs, hlen with
  | [y0, y1, y2, y3, y4, y5], _ =>
    have h0 := hfld 0 _ rfl
    have h1 := hfld 1 _ rfl
    have h2 := hfld 2 _ rfl
    have h3 := hfld 3 _ rfl
    have h4 := hfld 4 _ rfl
    have h5 := hfld 5 _ rfl
    obtain ⟨l⟩ := cs
    match l, hsz with
    | [c0, c1, c2, c3, c4, c5], _ =>
      simp [hc3, Value.cells] at h0 h1 h2 h3 h4 h5
      obtain ⟨a0, e0, -, w0⟩ := DataW.trod_int Try.underlying3 h0
      obtain ⟨a1, e1, -, w1⟩ := DataW.trod_int Try.underlying3 h1
      obtain ⟨a2, e2, -, w2⟩ := DataW.trod_int Try.underlying3 h2
      obtain ⟨a3, e3, -, w3⟩ := DataW.trod_int Try.underlying3 h3
      obtain ⟨a4, e4, -, w4⟩ := DataW.trod_int Try.underlying3 h4
      obtain ⟨a5, e5, -, w5⟩ := DataW.trod_int Try.underlying3 h5
      simp at e0 e1 e2 e3 e4 e5
      subst e0 e1 e2 e3 e4 e5
      exact ⟨a0, a1, a2, a3, a4, a5, rfl, trivial⟩
end
end Go.Proofs.Ytnppgfnlfdnkpaa

