/-
  Texts of the proof, what it needs of them: Enta.
-/
import Derived.Test.YtmlbphmbffkdnaaGreatGh01
namespace Go.Proofs.YtmlbphmbffkdnaaGreat
open Go.RowKit
set_option linter.unusedVariables false

set_option maxHeartbeats 400000 in
theorem c122 (f : Int) (w : World) : Calls Tryz.prog 122 #[.int .i64 f] w fun e w' => e = .returned (.int .i64 (Tm.cap f)) ∧ w' = w := by
  by_cases h0 : 1 ≤ f ∧ f ≤ 50
  · have Hf : Hid (Tm.cap f = f + f / 5) := Tm.cap_of h0
    obtain ⟨h1, h2⟩ := h0
    have d1 : decide (f < 1) = false := by simpa using h1
    go_enter Tryz.func122, Tryz.ntmps122
    go_wp2_with fail
    go_ret
    exact ⟨ret_int Hf.out.symm, rfl⟩
  · have Hf : Hid (Tm.cap f = 0) := Tm.cap_no h0
    by_cases h1 : f < 1
    · clear h0
      go_enter Tryz.func122, Tryz.ntmps122
      go_wp2_with fail
      go_ret
      exact ⟨ret_int Hf.out.symm, rfl⟩
    · have d1 : decide (f < 1) = false := by simpa using h1
      have h2 : 50 < f := by omega
      clear h0
      go_enter Tryz.func122, Tryz.ntmps122
      go_wp2_with fail
      go_ret
      exact ⟨ret_int Hf.out.symm, rfl⟩

set_option maxHeartbeats 400000 in
theorem c67 (f : Int) (w : World) : Calls Tryz.prog 67 #[.int .i64 f] w fun e w' => e = .returned (.int .i64 (Tm.cap f)) ∧ w' = w := by
  by_cases h0 : 1 ≤ f ∧ f ≤ 50
  · have Hf : Hid (Tm.cap f = f + f / 5) := Tm.cap_of h0
    obtain ⟨h1, h2⟩ := h0
    go_enter Tryz.func67, Tryz.ntmps67
    go_wp2_with (go_at_call 40; refine (c40 _ _ _ _).mono ?_; rintro e w' ⟨rfl, rfl⟩)
    go_ret
    exact ⟨ret_int Hf.out.symm, rfl⟩
  · have Hf : Hid (Tm.cap f = 0) := Tm.cap_no h0
    have hd : decide (1 ≤ f ∧ f ≤ 50) = false := by simpa using h0
    clear h0
    go_enter Tryz.func67, Tryz.ntmps67
    go_wp2_with (go_at_call 40; refine (c40 _ _ _ _).mono ?_; rintro e w' ⟨rfl, rfl⟩)
    go_ret
    exact ⟨ret_int Hf.out.symm, rfl⟩

set_option maxHeartbeats 400000 in
theorem c47 (t : Int) (w : World) : Calls Tryz.prog 47 #[.int .i64 t] w fun e w' => e = .returned (.bool (decide (0 ≤ t ∧ t ≤ 7))) ∧ w' = w := by
  by_cases h0 : 0 ≤ t
  · go_enter Tryz.func47, Tryz.ntmps47
    go_wp2_with fail
    go_ret
    exact ⟨ret_bool (by first | rfl | (simp; done) | (simp; omega) | (rw [Bool.eq_iff_iff]; simp; done) | (rw [Bool.eq_iff_iff]; simp; omega)), rfl⟩
  · have h1 : decide (0 ≤ t) = false := by simpa using h0
    go_enter Tryz.func47, Tryz.ntmps47
    go_wp2_with fail
    go_ret
    exact ⟨ret_bool (by first | rfl | (simp; done) | (simp; omega) | (rw [Bool.eq_iff_iff]; simp; done) | (rw [Bool.eq_iff_iff]; simp; omega)), rfl⟩
set_option maxHeartbeats 400000 in
theorem c34 (t : Int) (w : World) : Calls Tryz.prog 34 #[.int .i64 t] w fun e w' => e = .returned (.bool (decide (1 ≤ t ∧ t ≤ 5))) ∧ w' = w := by
  by_cases h0 : 1 ≤ t
  · go_enter Tryz.func34, Tryz.ntmps34
    go_wp2_with fail
    go_ret
    exact ⟨ret_bool (by first | rfl | (simp; done) | (simp; omega) | (rw [Bool.eq_iff_iff]; simp; done) | (rw [Bool.eq_iff_iff]; simp; omega)), rfl⟩
  · have h1 : decide (1 ≤ t) = false := by simpa using h0
    go_enter Tryz.func34, Tryz.ntmps34
    go_wp2_with fail
    go_ret
    exact ⟨ret_bool (by first | rfl | (simp; done) | (simp; omega) | (rw [Bool.eq_iff_iff]; simp; done) | (rw [Bool.eq_iff_iff]; simp; omega)), rfl⟩

/-- an entry as a value -/
abbrev entV (k t u p : Int) : Value := .agg #[.int .i64 k, .int .i64 t, .int .i64 u, .int .i64 p]
theorem below_a {w : World} (o : Obj) : Below w.heap.size w (w.alloc o) := (Below.refl _ _).alloc (Nat.le_refl _) _
theorem below_al {A W : World} {o : Obj} (h : Below A.heap.size A W) : Below A.heap.size A (W.alloc o) := h.alloc h.size _
theorem below_dn {A W : World} (h : Below A.heap.size A W) (n : Nat) : Below A.heap.size A (W.drewN n) := ⟨h.os, h.tape, h.output, h.size, h.block⟩
theorem below_tr {A W V : World} (h : Below A.heap.size A W) (k : Below W.heap.size W V) : Below A.heap.size A V := h.trans (k.mono h.size)

set_option maxHeartbeats 400000 in
theorem c157 (k t u p : Int) (w : World) : Calls Tryz.prog 157 #[entV k t u p] w fun e w' => e = .returned (.bool (decide (1 ≤ p ∧ p ≤ 50))) ∧ Below w.heap.size w w' := by
  by_cases h0 : 1 ≤ p
  · go_enter Tryz.func157, Tryz.ntmps157
    go_wp2_with fail
    go_ret
    exact ⟨ret_bool (by first | rfl | (simp; done) | (simp; omega) | (rw [Bool.eq_iff_iff]; simp; done) | (rw [Bool.eq_iff_iff]; simp; omega)), below_a _⟩
  · have h1 : decide (1 ≤ p) = false := by simpa using h0
    go_enter Tryz.func157, Tryz.ntmps157
    go_wp2_with fail
    go_ret
    exact ⟨ret_bool (by first | rfl | (simp; done) | (simp; omega) | (rw [Bool.eq_iff_iff]; simp; done) | (rw [Bool.eq_iff_iff]; simp; omega)), below_a _⟩
end Go.Proofs.YtmlbphmbffkdnaaGreat
namespace Go.Proofs.YtmlbphmbffkdnaaGreat
open Go.RowKit
set_option linter.unusedVariables false

theorem below_an {w : World} (o : Obj) (n : Nat) : Below w.heap.size w ((w.alloc o).drewN n) := (below_a o).trans ⟨rfl, rfl, rfl, Nat.le_refl _, fun _ _ => rfl⟩

set_option maxHeartbeats 400000 in
theorem c158 (k t u p : Int) (w : World) : Calls Tryz.prog 158 #[entV k t u p] w fun e w' => e = .returned (.bool (decide (1 ≤ p ∧ p ≤ 60))) ∧ Below w.heap.size w w' := by
  have hcap : Tm.cap 50 = 60 := by decide
  by_cases h0 : 1 ≤ p
  · go_enter Tryz.func158, Tryz.ntmps158
    go_wp2_with fail
    go_quiet ((go_at_call 122; exact Calls.quiet_of_same (c122 _ _)))
    go_wp2_with fail
    go_ret
    exact ⟨ret_bool (by first | rfl | (simp; done) | (simp; omega) | (rw [Bool.eq_iff_iff]; simp; done) | (rw [Bool.eq_iff_iff]; simp; omega)), below_an _ _⟩
  · have h1 : decide (1 ≤ p) = false := by simpa using h0
    go_enter Tryz.func158, Tryz.ntmps158
    go_wp2_with fail
    go_quiet (fail)
    go_wp2_with fail
    go_ret
    exact ⟨ret_bool (by first | rfl | (simp; done) | (simp; omega) | (rw [Bool.eq_iff_iff]; simp; done) | (rw [Bool.eq_iff_iff]; simp; omega)), below_an _ _⟩

set_option maxHeartbeats 400000 in
theorem c159 (k t u p : Int) (w : World) : Calls Tryz.prog 159 #[entV k t u p] w fun e w' => e = .returned (.bool (decide (p = 0))) ∧ Below w.heap.size w w' := by
  go_enter Tryz.func159, Tryz.ntmps159
  go_wp2_with fail
  go_ret
  exact ⟨ret_bool (by first | rfl | (simp; done) | (simp; omega) | (rw [Bool.eq_iff_iff]; simp; done) | (rw [Bool.eq_iff_iff]; simp; omega)), below_a _⟩

/-- an entry as one of its kind -/
def kindV (k t u p : Int) : Value := if k = 1 then .iface 135 (entV k t u p) else if k = 2 then .iface 136 (entV k t u p) else if k = 3 then .iface 137 (entV k t u p) else .nilIface

set_option maxHeartbeats 400000 in
theorem c108 (k t u p : Int) (w : World) : Calls Tryz.prog 108 #[entV k t u p] w fun e w' => e = .returned (kindV k t u p) ∧ Below w.heap.size w w' := by
  by_cases h1 : k = 1
  · subst h1
    go_enter Tryz.func108, Tryz.ntmps108
    go_wp2_with fail
    go_ret
    exact ⟨rfl, below_a _⟩
  by_cases h2 : k = 2
  · subst h2
    go_enter Tryz.func108, Tryz.ntmps108
    go_wp2_with fail
    go_ret
    exact ⟨rfl, below_a _⟩
  by_cases h3 : k = 3
  · subst h3
    go_enter Tryz.func108, Tryz.ntmps108
    go_wp2_with fail
    go_ret
    exact ⟨rfl, below_a _⟩
  · have b1 : (k == 1) = false := by simpa using h1
    have b2 : (k == 2) = false := by simpa using h2
    have b3 : (k == 3) = false := by simpa using h3
    have HK : Hid (kindV k t u p = .nilIface) := by unfold Hid kindV; rw [if_neg h1, if_neg h2, if_neg h3]
    clear h1 h2 h3
    go_enter Tryz.func108, Tryz.ntmps108
    go_wp2_with fail
    go_ret
    exact ⟨by rw [HK.out]; rfl, below_a _⟩

theorem kind1 (t u p : Int) (w : World) : Calls Tryz.prog 108 #[entV 1 t u p] w fun e w' => e = .returned (.iface 135 (entV 1 t u p)) ∧ Below w.heap.size w w' := c108 1 t u p w
theorem kind2 (t u p : Int) (w : World) : Calls Tryz.prog 108 #[entV 2 t u p] w fun e w' => e = .returned (.iface 136 (entV 2 t u p)) ∧ Below w.heap.size w w' := c108 2 t u p w
theorem kind3 (t u p : Int) (w : World) : Calls Tryz.prog 108 #[entV 3 t u p] w fun e w' => e = .returned (.iface 137 (entV 3 t u p)) ∧ Below w.heap.size w w' := c108 3 t u p w
theorem kind0 (k t u p : Int) (w : World) (h : k ≠ 1 ∧ k ≠ 2 ∧ k ≠ 3) : Calls Tryz.prog 108 #[entV k t u p] w fun e w' => e = .returned .nilIface ∧ Below w.heap.size w w' := by
  have h1 : kindV k t u p = .nilIface := by unfold kindV; rw [if_neg h.1, if_neg h.2.1, if_neg h.2.2]
  have h2 := c108 k t u p w
  rw [h1] at h2
  exact h2
end Go.Proofs.YtmlbphmbffkdnaaGreat
namespace Go.Proofs.YtmlbphmbffkdnaaGreat
open Go.RowKit
set_option linter.unusedVariables false

theorem entOk_t {k t u p : Int} (h : ¬ (0 ≤ t ∧ t ≤ 7)) : Tm.entOk (k, t, u, p) = false := by
  rw [← Bool.not_eq_true, Tm.entOk_iff]; simp only; omega
theorem entOk_u {k t u p : Int} (h : ¬ (1 ≤ u ∧ u ≤ 5)) : Tm.entOk (k, t, u, p) = false := by
  rw [← Bool.not_eq_true, Tm.entOk_iff]; simp only; omega
theorem entOk_k {k t u p : Int} (h : k ≠ 1 ∧ k ≠ 2 ∧ k ≠ 3) : Tm.entOk (k, t, u, p) = false := by
  rw [← Bool.not_eq_true, Tm.entOk_iff]; simp only; omega
theorem entOk_1 {t u p : Int} (h1 : 0 ≤ t ∧ t ≤ 7) (h2 : 1 ≤ u ∧ u ≤ 5) : Tm.entOk (1, t, u, p) = decide (1 ≤ p ∧ p ≤ 50) := by
  rw [Bool.eq_iff_iff, Tm.entOk_iff, decide_eq_true_iff]
  constructor
  · intro h; dsimp only at h; omega
  · intro h; dsimp only; omega
theorem entOk_2 {t u p : Int} (h1 : 0 ≤ t ∧ t ≤ 7) (h2 : 1 ≤ u ∧ u ≤ 5) : Tm.entOk (2, t, u, p) = decide (1 ≤ p ∧ p ≤ 60) := by
  rw [Bool.eq_iff_iff, Tm.entOk_iff, decide_eq_true_iff]
  constructor
  · intro h; dsimp only at h; omega
  · intro h; dsimp only; omega
theorem entOk_3 {t u p : Int} (h1 : 0 ≤ t ∧ t ≤ 7) (h2 : 1 ≤ u ∧ u ≤ 5) : Tm.entOk (3, t, u, p) = decide (p = 0) := by
  rw [Bool.eq_iff_iff, Tm.entOk_iff, decide_eq_true_iff]
  constructor
  · intro h; dsimp only at h; omega
  · intro h; dsimp only; omega

/-- a method of an interface value, found in the program's table -/
theorem upon_meth {α : Type} {P : Program} {o : Oper} {a : Act} {next : Act → World → Prop} {Q : Exit → Act → World → Prop} {w : World} {m : Sem α} {k : α → World → Result Next} (x : α)
    (h : Sem.run P m w = .ok x w) (h2 : Oper.upon P o a next Q (k x w)) : Oper.upon P o a next Q ((Sem.run P m w).andThen k) := by
  rw [h]; exact h2

set_option maxRecDepth 100000 in
set_option maxHeartbeats 400000 in
theorem c88 (k t u p : Int) (w : World) : Calls Tryz.prog 88 #[entV k t u p] w fun e w' => e = .returned (.bool (Tm.entOk (k, t, u, p))) ∧ Below w.heap.size w w' := by
  by_cases h1 : 0 ≤ t ∧ t ≤ 7
  case neg =>
    have HE := hide (entOk_t (k := k) (u := u) (p := p) h1)
    have d1 : decide (0 ≤ t ∧ t ≤ 7) = false := by simpa using h1
    clear h1
    go_enter Tryz.func88, Tryz.ntmps88
    go_wp2_with (go_at_call 47; refine (c47 _ _).mono ?_; rintro e w' ⟨rfl, rfl⟩)
    go_ret
    exact ⟨ret_bool (unhide HE).symm, below_a _⟩
  by_cases h2 : 1 ≤ u ∧ u ≤ 5
  case neg =>
    have HE := hide (entOk_u (k := k) (t := t) (p := p) h2)
    have d1 : decide (0 ≤ t ∧ t ≤ 7) = true := by simpa using h1
    have d2 : decide (1 ≤ u ∧ u ≤ 5) = false := by simpa using h2
    clear h1 h2
    go_enter Tryz.func88, Tryz.ntmps88
    go_wp2_with (first | (go_at_call 47; refine (c47 _ _).mono ?_; rintro e w' ⟨rfl, rfl⟩) | (go_at_call 34; refine (c34 _ _).mono ?_; rintro e w' ⟨rfl, rfl⟩))
    go_ret
    exact ⟨ret_bool (unhide HE).symm, below_a _⟩
  have d1 : decide (0 ≤ t ∧ t ≤ 7) = true := by simpa using h1
  have d2 : decide (1 ≤ u ∧ u ≤ 5) = true := by simpa using h2
  have H1 := hide h1
  have H2 := hide h2
  clear h1 h2
  by_cases k1 : k = 1
  · subst k1
    have HE := hide (entOk_1 (p := p) (unhide H1) (unhide H2))
    go_enter Tryz.func88, Tryz.ntmps88
    go_wp2_with (first | (go_at_call 47; refine (c47 _ _).mono ?_; rintro e w' ⟨rfl, rfl⟩) | (go_at_call 34; refine (c34 _ _).mono ?_; rintro e w' ⟨rfl, rfl⟩))
    refine (kind1 t u p _).mono ?_
    rintro e w1 ⟨rfl, hb1⟩
    have HB := hide (below_tr (below_a _) hb1)
    clear hb1
    go_wp2_with fail
    refine upon_meth (157, entV 1 t u p) (by kernel_rfl) ?_
    go_wp2_with fail
    refine (c157 1 t u p _).mono ?_
    rintro e w2 ⟨rfl, hb2⟩
    have HB2 := hide (below_tr (unhide HB) hb2)
    clear hb2
    generalize hx : decide (1 ≤ p ∧ p ≤ 50) = x at *
    clear hx
    go_wp2_with fail
    go_ret
    exact ⟨ret_bool (unhide HE).symm, unhide HB2⟩
  by_cases k2 : k = 2
  · subst k2
    have HE := hide (entOk_2 (p := p) (unhide H1) (unhide H2))
    clear k1
    go_enter Tryz.func88, Tryz.ntmps88
    go_wp2_with (first | (go_at_call 47; refine (c47 _ _).mono ?_; rintro e w' ⟨rfl, rfl⟩) | (go_at_call 34; refine (c34 _ _).mono ?_; rintro e w' ⟨rfl, rfl⟩))
    refine (kind2 t u p _).mono ?_
    rintro e w1 ⟨rfl, hb1⟩
    have HB := hide (below_tr (below_a _) hb1)
    clear hb1
    go_wp2_with fail
    refine upon_meth (158, entV 2 t u p) (by kernel_rfl) ?_
    go_wp2_with fail
    refine (c158 2 t u p _).mono ?_
    rintro e w2 ⟨rfl, hb2⟩
    have HB2 := hide (below_tr (unhide HB) hb2)
    clear hb2
    generalize hx : decide (1 ≤ p ∧ p ≤ 60) = x at *
    clear hx
    go_wp2_with fail
    go_ret
    exact ⟨ret_bool (unhide HE).symm, unhide HB2⟩
  by_cases k3 : k = 3
  · subst k3
    have HE := hide (entOk_3 (p := p) (unhide H1) (unhide H2))
    clear k1 k2
    go_enter Tryz.func88, Tryz.ntmps88
    go_wp2_with (first | (go_at_call 47; refine (c47 _ _).mono ?_; rintro e w' ⟨rfl, rfl⟩) | (go_at_call 34; refine (c34 _ _).mono ?_; rintro e w' ⟨rfl, rfl⟩))
    refine (kind3 t u p _).mono ?_
    rintro e w1 ⟨rfl, hb1⟩
    have HB := hide (below_tr (below_a _) hb1)
    clear hb1
    go_wp2_with fail
    refine upon_meth (159, entV 3 t u p) (by kernel_rfl) ?_
    go_wp2_with fail
    refine (c159 3 t u p _).mono ?_
    rintro e w2 ⟨rfl, hb2⟩
    have HB2 := hide (below_tr (unhide HB) hb2)
    clear hb2
    generalize hx : decide (p = 0) = x at *
    clear hx
    go_wp2_with fail
    go_ret
    exact ⟨ret_bool (unhide HE).symm, unhide HB2⟩
  · have HE := hide (entOk_k (t := t) (u := u) (p := p) ⟨k1, k2, k3⟩)
    have HK := hide (And.intro k1 (And.intro k2 k3))
    clear k1 k2 k3
    go_enter Tryz.func88, Tryz.ntmps88
    go_wp2_with (first | (go_at_call 47; refine (c47 _ _).mono ?_; rintro e w' ⟨rfl, rfl⟩) | (go_at_call 34; refine (c34 _ _).mono ?_; rintro e w' ⟨rfl, rfl⟩))
    refine (kind0 k t u p _ (unhide HK)).mono ?_
    rintro e w1 ⟨rfl, hb1⟩
    have HB := hide (below_tr (below_a _) hb1)
    clear hb1
    go_wp2_with fail
    go_ret
    exact ⟨ret_bool (unhide HE).symm, unhide HB⟩

set_option maxHeartbeats 400000 in
theorem c116 (k t u p : Int) (w : World) : Calls Tryz.prog 116 #[entV k t u p] w fun e w' => e = .returned (.bool (Tm.entOk (k, t, u, p))) ∧ Below w.heap.size w w' := by
  by_cases h1 : 0 ≤ t ∧ t ≤ 7
  case neg =>
    have HE := hide (entOk_t (k := k) (u := u) (p := p) h1)
    have d1 : decide (0 ≤ t ∧ t ≤ 7) = false := by simpa using h1
    clear h1
    go_enter Tryz.func116, Tryz.ntmps116
    go_wp2_with (go_at_call 40; refine (c40 _ _ _ _).mono ?_; rintro e w' ⟨rfl, rfl⟩)
    go_ret
    exact ⟨ret_bool (unhide HE).symm, below_a _⟩
  by_cases h2 : 1 ≤ u ∧ u ≤ 5
  case neg =>
    have HE := hide (entOk_u (k := k) (t := t) (p := p) h2)
    have d1 : decide (0 ≤ t ∧ t ≤ 7) = true := by simpa using h1
    have d2 : decide (1 ≤ u ∧ u ≤ 5) = false := by simpa using h2
    clear h1 h2
    go_enter Tryz.func116, Tryz.ntmps116
    go_wp2_with (go_at_call 40; refine (c40 _ _ _ _).mono ?_; rintro e w' ⟨rfl, rfl⟩)
    go_ret
    exact ⟨ret_bool (unhide HE).symm, below_a _⟩
  have d1 : decide (0 ≤ t ∧ t ≤ 7) = true := by simpa using h1
  have d2 : decide (1 ≤ u ∧ u ≤ 5) = true := by simpa using h2
  have H1 := hide h1
  have H2 := hide h2
  clear h1 h2
  by_cases k1 : k = 1
  · subst k1
    have HE := hide (entOk_1 (p := p) (unhide H1) (unhide H2))
    go_enter Tryz.func116, Tryz.ntmps116
    go_wp2_with (go_at_call 40; refine (c40 _ _ _ _).mono ?_; rintro e w' ⟨rfl, rfl⟩)
    go_ret
    exact ⟨ret_bool (by rw [unhide HE]; first | rfl | (simp; done)), below_a _⟩
  by_cases k2 : k = 2
  · subst k2
    have HE := hide (entOk_2 (p := p) (unhide H1) (unhide H2))
    have hcap : Tm.cap 50 = 60 := by decide
    clear k1
    go_enter Tryz.func116, Tryz.ntmps116
    go_wp2_with (go_at_call 40; refine (c40 _ _ _ _).mono ?_; rintro e w' ⟨rfl, rfl⟩)
    go_quiet ((first | (go_at_call 67; exact Calls.quiet_of_same (c67 _ _)) | (go_at_call 40; exact Calls.quiet_of_same (c40 _ _ _ _))))
    go_wp2_with fail
    go_ret
    exact ⟨ret_bool (by first | exact (unhide HE).symm | (rw [unhide HE]; rfl) | (rw [unhide HE, hcap])), below_an _ _⟩
  by_cases k3 : k = 3
  · subst k3
    have HE := hide (entOk_3 (p := p) (unhide H1) (unhide H2))
    clear k1 k2
    go_enter Tryz.func116, Tryz.ntmps116
    go_wp2_with (go_at_call 40; refine (c40 _ _ _ _).mono ?_; rintro e w' ⟨rfl, rfl⟩)
    go_ret
    exact ⟨ret_bool (by rw [unhide HE]; first | rfl | (simp; done)), below_a _⟩
  · have HE := hide (entOk_k (t := t) (u := u) (p := p) ⟨k1, k2, k3⟩)
    have b1 : (k == 1) = false := by simpa using k1
    have b2 : (k == 2) = false := by simpa using k2
    have b3 : (k == 3) = false := by simpa using k3
    clear k1 k2 k3
    go_enter Tryz.func116, Tryz.ntmps116
    go_wp2_with (go_at_call 40; refine (c40 _ _ _ _).mono ?_; rintro e w' ⟨rfl, rfl⟩)
    go_ret
    exact ⟨ret_bool (unhide HE).symm, below_a _⟩

def FitsE (k t u p : Int) : Prop := (-9223372036854775808 ≤ k ∧ k ≤ 9223372036854775807) ∧ (-9223372036854775808 ≤ t ∧ t ≤ 9223372036854775807) ∧ (-9223372036854775808 ≤ u ∧ u ≤ 9223372036854775807) ∧ (-9223372036854775808 ≤ p ∧ p ≤ 9223372036854775807)
/-- a literal list of four numbers, just made -/
theorem row_new4 (w : World) (a b c d : Int) (h : FitsE a b c d) (t : TypeId) : Row (w.alloc (.cells #[.int .i64 a, .int .i64 b, .int .i64 c, .int .i64 d] t)) (some ⟨w.heap.size, 0, none⟩) [a, b, c, d] := by
  refine ⟨fun z hz => ?_, fun _ => ⟨w.heap.size, 0, rfl, fun k hk => ?_⟩⟩
  · obtain ⟨h1, h2, h3, h4⟩ := h
    simp at hz
    rcases hz with rfl | rfl | rfl | rfl <;> assumption
  · simp only [List.length_cons, List.length_nil] at hk
    rw [World.cell?_alloc_new]
    obtain rfl | rfl | rfl | rfl : k = 0 ∨ k = 1 ∨ k = 2 ∨ k = 3 := by omega
    all_goals rfl

set_option maxHeartbeats 400000 in
theorem c84 (k t u p : Int) (w : World) (hf : FitsE k t u p) : Calls Tryz.prog 84 #[entV k t u p] w fun e w' => e = .returned (.int .i64 (Tm.leaf [k, t, u, p])) ∧ Below w.heap.size w w' := by
  have HF := hide hf
  clear hf
  go_enter Tryz.func84, Tryz.ntmps84
  go_wp2_with fail
  refine (c62 [k, t, u, p] _ _ _ _ rfl (by simp) (by first | exact row_new4 _ k t u p (unhide HF) _ | (have := row_new4 (w.alloc (.cells #[.int .i64 k, .int .i64 t, .int .i64 u, .int .i64 p] 80)) k t u p (unhide HF) 3; simpa using this))).mono ?_
  rintro e w1 ⟨rfl, rfl⟩
  go_wp2_with fail
  go_ret
  exact ⟨rfl, below_al (below_a _)⟩

set_option maxHeartbeats 400000 in
theorem c87 (k t u p : Int) (w : World) (hf : FitsE k t u p) : Calls Tryz.prog 87 #[entV k t u p] w fun e w' => e = .returned (.int .i64 (Tm.leaf [k, t, u, p])) ∧ Below w.heap.size w w' := by
  have HF := hide hf
  clear hf
  go_enter Tryz.func87, Tryz.ntmps87
  go_wp2_with fail
  refine (c107 [k, t, u, p] _ _ _ _ rfl (by simp) (by first | exact row_new4 _ k t u p (unhide HF) _ | (have := row_new4 (w.alloc (.cells #[.int .i64 k, .int .i64 t, .int .i64 u, .int .i64 p] 80)) k t u p (unhide HF) 3; simpa using this))).mono ?_
  rintro e w1 ⟨rfl, rfl⟩
  go_wp2_with fail
  go_ret
  exact ⟨rfl, below_al (below_a _)⟩
end Go.Proofs.YtmlbphmbffkdnaaGreat
