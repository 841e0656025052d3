/-
  Texts of the proof, what it needs of them: Mokd.
-/
import Derived.Test.YtmlbphmbffkdnaaGt15
import Derived.Test.YtmlbphmbffkdnaaGt27
import Derived.Test.YtmlbphmbffkdnaaGt28
namespace Go.Proofs.Ytmlbphmbffkdnaa
open Go.RowKit
set_option linter.unusedVariables false
set_option maxRecDepth 100000

/-- what a deal asks of its ticket -/
def dealBase (r : Tm.Rw) (d : Tm.Deal) : Bool := decide (d.2.1 = r.1) && (!r.2.2 && decide (1 ≤ d.2.2.1 ∧ d.2.2.1 ≤ Tm.cap r.2.1))
/-- what is asked of who has put the price down, and until when -/
def dealWait (c : Int) (d : Tm.Deal) : Bool := if d.2.2.2.1 = 0 then decide (d.2.2.2.2 = 0) else decide (1 ≤ d.2.2.2.1 ∧ d.2.2.2.1 ≤ 5) && (!decide (d.2.2.2.1 = d.2.1) && decide (c ≤ d.2.2.2.2 ∧ d.2.2.2.2 ≤ c + 5))
def dealOk (r : Tm.Rw) (c : Int) (d : Tm.Deal) : Bool := dealBase r d && dealWait c d
theorem dk_1 {r0 r1 c x0 x1 x2 x3 x4 : Int} {r2 : Bool} (h : ¬ x1 = r0) : dealOk (r0, r1, r2) c (x0, x1, x2, x3, x4) = false := by simp [dealOk, dealBase, h]
theorem dk_2 {r0 r1 c x0 x1 x2 x3 x4 : Int} : dealOk (r0, r1, true) c (x0, x1, x2, x3, x4) = false := by simp [dealOk, dealBase]
theorem dk_3 {r0 r1 c x0 x1 x2 x3 x4 : Int} {r2 : Bool} (h : decide (1 ≤ x2 ∧ x2 ≤ Tm.cap r1) = false) : dealOk (r0, r1, r2) c (x0, x1, x2, x3, x4) = false := by simp only [dealOk, dealBase, h, Bool.and_false, Bool.false_and]
theorem dk_on {r0 r1 c x0 x1 x2 x3 x4 : Int} (h : x1 = r0) (h2 : decide (1 ≤ x2 ∧ x2 ≤ Tm.cap r1) = true) : dealOk (r0, r1, false) c (x0, x1, x2, x3, x4) = dealWait c (x0, x1, x2, x3, x4) := by simp only [dealOk, dealBase, h, h2, decide_true, Bool.not_false, Bool.true_and]
theorem dw_0 {c x0 x1 x2 x4 : Int} : dealWait c (x0, x1, x2, 0, x4) = decide (x4 = 0) := by simp [dealWait]
theorem dw_1 {c x0 x1 x2 x3 x4 : Int} (h : ¬ x3 = 0) (h2 : decide (1 ≤ x3 ∧ x3 ≤ 5) = false) : dealWait c (x0, x1, x2, x3, x4) = false := by unfold dealWait; rw [if_neg h, h2]; rfl
theorem dw_2 {c x0 x1 x2 x3 x4 : Int} (h : ¬ x3 = 0) (h2 : x3 = x1) : dealWait c (x0, x1, x2, x3, x4) = false := by unfold dealWait; rw [if_neg h]; simp [h2]
theorem dw_3 {c x0 x1 x2 x3 x4 : Int} (h : ¬ x3 = 0) (h2 : decide (1 ≤ x3 ∧ x3 ≤ 5) = true) (h3 : ¬ x3 = x1) : dealWait c (x0, x1, x2, x3, x4) = decide (c ≤ x4 ∧ x4 ≤ c + 5) := by unfold dealWait; rw [if_neg h, h2]; simp [h3]

set_option maxHeartbeats 2000000 in
theorem c114 (x0 x1 x2 x3 x4 : Int) (w : World) : Calls Try.prog 114 #[dealV x0 x1 x2 x3 x4] w fun e w' => e = .returned (.bool (!decide (x3 = 0))) ∧ Below w.heap.size w w' := by
  have HB := hide (Below.refl w.heap.size w)
  replace HB := hide (below_al (o := .cells #[.int .i64 x0, .int .i64 x1, .int .i64 x2, .int .i64 x3, .int .i64 x4] 42) (unhide HB))
  have HX := hide (box_new w [.int .i64 x0, .int .i64 x1, .int .i64 x2, .int .i64 x3, .int .i64 x4] 42 (by simp [Value.oneCell']))
  (try simp only [World.size_alloc] at HX)
  by_cases h : x3 = 0
  case pos =>
    have hb : (x3 != 0) = false := by rw [bne_eq_false_iff_eq]; exact h
    rw [decide_eq_true h]
    clear h
    have d0 := (unhide HX).cell 0 rfl
    have d1 := (unhide HX).cell 1 rfl
    have d2 := (unhide HX).cell 2 rfl
    have d3 := (unhide HX).cell 3 rfl
    have d4 := (unhide HX).cell 4 rfl
    go_enter Try.func114, Try.ntmps114
    go_wp2_with fail
    go_ret
    exact ⟨rfl, unhide HB⟩
  have hb : (x3 != 0) = true := by rw [bne_iff_ne]; exact h
  rw [decide_eq_false h]
  clear h
  have d0 := (unhide HX).cell 0 rfl
  have d1 := (unhide HX).cell 1 rfl
  have d2 := (unhide HX).cell 2 rfl
  have d3 := (unhide HX).cell 3 rfl
  have d4 := (unhide HX).cell 4 rfl
  go_enter Try.func114, Try.ntmps114
  go_wp2_with fail
  go_ret
  exact ⟨rfl, unhide HB⟩

set_option maxHeartbeats 8000000 in
theorem c172 (x0 x1 x2 x3 x4 r0 r1 c : Int) (r2 : Bool) (w : World) (hc : 0 ≤ c ∧ c ≤ 99999) : Calls Try.prog 172 #[dealV x0 x1 x2 x3 x4, rowV r0 r1 r2, .int .i64 c] w fun e w' => e = .returned (.bool (dealOk (r0, r1, r2) c (x0, x1, x2, x3, x4))) ∧ Below w.heap.size w w' := by
  have HB := hide (Below.refl w.heap.size w)
  replace HB := hide (below_al (o := .cells #[.int .i64 x0, .int .i64 x1, .int .i64 x2, .int .i64 x3, .int .i64 x4] 42) (unhide HB))
  have HX := hide (box_new w [.int .i64 x0, .int .i64 x1, .int .i64 x2, .int .i64 x3, .int .i64 x4] 42 (by simp [Value.oneCell']))
  (try simp only [World.size_alloc] at HX)
  replace HB := hide (below_al (o := .cells #[.int .i64 r0, .int .i64 r1, .bool r2] 112) (unhide HB))
  replace HX := hide ((unhide HX).bel (below_a (.cells #[.int .i64 r0, .int .i64 r1, .bool r2] 112)))
  have HR := hide (box_new (w.alloc (.cells #[.int .i64 x0, .int .i64 x1, .int .i64 x2, .int .i64 x3, .int .i64 x4] 42)) [.int .i64 r0, .int .i64 r1, .bool r2] 112 (by simp [Value.oneCell']))
  (try simp only [World.size_alloc] at HR)
  by_cases h1 : x1 = r0
  case neg =>
    have HU := hide (dk_1 (r1 := r1) (r2 := r2) (c := c) (x0 := x0) (x2 := x2) (x3 := x3) (x4 := x4) h1)
    have hb : (x1 != r0) = true := by rw [bne_iff_ne]; exact h1
    clear h1
    have d0 := (unhide HX).cell 0 rfl
    have d1 := (unhide HX).cell 1 rfl
    have d2 := (unhide HX).cell 2 rfl
    have d3 := (unhide HX).cell 3 rfl
    have d4 := (unhide HX).cell 4 rfl
    have e0 := (unhide HR).cell 0 rfl
    have e1 := (unhide HR).cell 1 rfl
    have e2 := (unhide HR).cell 2 rfl
    go_enter Try.func172, Try.ntmps172
    go_wp2_with fail
    generalize (w.alloc (.cells #[.int .i64 x0, .int .i64 x1, .int .i64 x2, .int .i64 x3, .int .i64 x4] 42)).alloc (.cells #[.int .i64 r0, .int .i64 r1, .bool r2] 112) = W1 at *
    (try clear d0 d1 d2 d3 d4 e0 e1 e2)
    refine wp_region_held_drew (S := fun w' => Below W1.heap.size W1 w') (by kernel_rfl) (below_drew W1) (fun hHeld => ?_)
    refine tk 0 (some 7) (v := ?_) ?_ ?_
    rotate_left
    · intro w hSw
      have hT := (unhide HX).below hSw; have d0 := hT.cell 0 rfl; have d1 := hT.cell 1 rfl; have d2 := hT.cell 2 rfl; have d3 := hT.cell 3 rfl; have d4 := hT.cell 4 rfl; clear hT; have hT := (unhide HR).below hSw; have e0 := hT.cell 0 rfl; have e1 := hT.cell 1 rfl; have e2 := hT.cell 2 rfl; clear hT
      first | (go_simp; done) | (go_simp; with_reducible rfl) | with_reducible rfl | rfl
    try simp only [Act.put, List.setIfInBounds_toArray, List.set_cons_zero, List.set_cons_succ]
    refine tk 1 (some 8) (v := ?_) ?_ ?_
    rotate_left
    · intro w hSw
      have hT := (unhide HX).below hSw; have d0 := hT.cell 0 rfl; have d1 := hT.cell 1 rfl; have d2 := hT.cell 2 rfl; have d3 := hT.cell 3 rfl; have d4 := hT.cell 4 rfl; clear hT; have hT := (unhide HR).below hSw; have e0 := hT.cell 0 rfl; have e1 := hT.cell 1 rfl; have e2 := hT.cell 2 rfl; clear hT
      first | (go_simp; done) | (go_simp; with_reducible rfl) | with_reducible rfl | rfl
    try simp only [Act.put, List.setIfInBounds_toArray, List.set_cons_zero, List.set_cons_succ]
    refine tk 2 (some 9) (v := ?_) ?_ ?_
    rotate_left
    · intro w hSw
      have hT := (unhide HX).below hSw; have d0 := hT.cell 0 rfl; have d1 := hT.cell 1 rfl; have d2 := hT.cell 2 rfl; have d3 := hT.cell 3 rfl; have d4 := hT.cell 4 rfl; clear hT; have hT := (unhide HR).below hSw; have e0 := hT.cell 0 rfl; have e1 := hT.cell 1 rfl; have e2 := hT.cell 2 rfl; clear hT
      first | (go_simp; done) | (go_simp; with_reducible rfl) | with_reducible rfl | rfl
    try simp only [Act.put, List.setIfInBounds_toArray, List.set_cons_zero, List.set_cons_succ]
    refine tk 3 (some 10) (v := ?_) ?_ ?_
    rotate_left
    · intro w hSw
      have hT := (unhide HX).below hSw; have d0 := hT.cell 0 rfl; have d1 := hT.cell 1 rfl; have d2 := hT.cell 2 rfl; have d3 := hT.cell 3 rfl; have d4 := hT.cell 4 rfl; clear hT; have hT := (unhide HR).below hSw; have e0 := hT.cell 0 rfl; have e1 := hT.cell 1 rfl; have e2 := hT.cell 2 rfl; clear hT
      first | (go_simp; done) | (go_simp; with_reducible rfl) | with_reducible rfl | rfl
    try simp only [Act.put, List.setIfInBounds_toArray, List.set_cons_zero, List.set_cons_succ]
    refine tk 4 (some 11) (v := ?_) ?_ ?_
    rotate_left
    · intro w hSw
      first | (go_simp; done) | (go_simp; with_reducible rfl) | with_reducible rfl | rfl
    try simp only [Act.put, List.setIfInBounds_toArray, List.set_cons_zero, List.set_cons_succ]
    refine tk 5 (some 12) (v := ?_) ?_ ?_
    rotate_left
    · intro w hSw
      first | (go_simp; done) | (go_simp; with_reducible rfl) | with_reducible rfl | rfl
    try simp only [Act.put, List.setIfInBounds_toArray, List.set_cons_zero, List.set_cons_succ]
    refine sk 6 (some 13) ?_
    try simp only [Act.put, List.setIfInBounds_toArray, List.set_cons_zero, List.set_cons_succ]
    refine sk 7 (some 14) ?_
    try simp only [Act.put, List.setIfInBounds_toArray, List.set_cons_zero, List.set_cons_succ]
    refine tk 8 (some 15) (v := ?_) ?_ ?_
    rotate_left
    · intro w hSw
      first | (go_simp; done) | (go_simp; with_reducible rfl) | with_reducible rfl | rfl
    try simp only [Act.put, List.setIfInBounds_toArray, List.set_cons_zero, List.set_cons_succ]
    refine tk 9 (some 16) (v := ?_) ?_ ?_
    rotate_left
    · intro w hSw
      first | (go_simp; done) | (go_simp; with_reducible rfl) | with_reducible rfl | rfl
    try simp only [Act.put, List.setIfInBounds_toArray, List.set_cons_zero, List.set_cons_succ]
    refine sk 10 (some 17) ?_
    try simp only [Act.put, List.setIfInBounds_toArray, List.set_cons_zero, List.set_cons_succ]
    refine sk 11 (some 18) ?_
    try simp only [Act.put, List.setIfInBounds_toArray, List.set_cons_zero, List.set_cons_succ]
    refine sk 12 (some 19) ?_
    try simp only [Act.put, List.setIfInBounds_toArray, List.set_cons_zero, List.set_cons_succ]
    refine sk 13 (some 20) ?_
    try simp only [Act.put, List.setIfInBounds_toArray, List.set_cons_zero, List.set_cons_succ]
    have HD := below_drew W1
    generalize W1.drew = V0 at *
    refine sk 14 (some 21) ?_
    try simp only [Act.put, List.setIfInBounds_toArray, List.set_cons_zero, List.set_cons_succ]
    refine sk 15 (some 22) ?_
    try simp only [Act.put, List.setIfInBounds_toArray, List.set_cons_zero, List.set_cons_succ]
    refine sk 16 (some 23) ?_
    try simp only [Act.put, List.setIfInBounds_toArray, List.set_cons_zero, List.set_cons_succ]
    refine tk 17 (some 24) (v := ?_) ?_ ?_
    rotate_left
    · intro w hSw
      first | (go_simp; done) | (go_simp; with_reducible rfl) | with_reducible rfl | rfl
    try simp only [Act.put, List.setIfInBounds_toArray, List.set_cons_zero, List.set_cons_succ]
    refine wpAnyH_done (by kernel_rfl) ?_ _
    replace HB := hide (below_tr (unhide HB) HD)
    replace HX := hide ((unhide HX).bel HD)
    replace HR := hide ((unhide HR).bel HD)
    clear HD 
    have d0 := (unhide HX).cell 0 rfl
    have d1 := (unhide HX).cell 1 rfl
    have d2 := (unhide HX).cell 2 rfl
    have d3 := (unhide HX).cell 3 rfl
    have d4 := (unhide HX).cell 4 rfl
    have e0 := (unhide HR).cell 0 rfl
    have e1 := (unhide HR).cell 1 rfl
    have e2 := (unhide HR).cell 2 rfl
    go_wp2_with fail
    go_ret
    exact ⟨ret_bool (unhide HU).symm, unhide HB⟩
  have hb : (x1 != r0) = false := by rw [bne_eq_false_iff_eq]; exact h1
  cases r2
  case true =>
    have HU := hide (dk_2 (r0 := r0) (r1 := r1) (c := c) (x0 := x0) (x1 := x1) (x2 := x2) (x3 := x3) (x4 := x4))
    clear h1
    have d0 := (unhide HX).cell 0 rfl
    have d1 := (unhide HX).cell 1 rfl
    have d2 := (unhide HX).cell 2 rfl
    have d3 := (unhide HX).cell 3 rfl
    have d4 := (unhide HX).cell 4 rfl
    have e0 := (unhide HR).cell 0 rfl
    have e1 := (unhide HR).cell 1 rfl
    have e2 := (unhide HR).cell 2 rfl
    go_enter Try.func172, Try.ntmps172
    go_wp2_with fail
    generalize (w.alloc (.cells #[.int .i64 x0, .int .i64 x1, .int .i64 x2, .int .i64 x3, .int .i64 x4] 42)).alloc (.cells #[.int .i64 r0, .int .i64 r1, .bool true] 112) = W1 at *
    (try clear d0 d1 d2 d3 d4 e0 e1 e2)
    refine wp_region_held_drew (S := fun w' => Below W1.heap.size W1 w') (by kernel_rfl) (below_drew W1) (fun hHeld => ?_)
    refine tk 0 (some 7) (v := ?_) ?_ ?_
    rotate_left
    · intro w hSw
      have hT := (unhide HX).below hSw; have d0 := hT.cell 0 rfl; have d1 := hT.cell 1 rfl; have d2 := hT.cell 2 rfl; have d3 := hT.cell 3 rfl; have d4 := hT.cell 4 rfl; clear hT; have hT := (unhide HR).below hSw; have e0 := hT.cell 0 rfl; have e1 := hT.cell 1 rfl; have e2 := hT.cell 2 rfl; clear hT
      first | (go_simp; done) | (go_simp; with_reducible rfl) | with_reducible rfl | rfl
    try simp only [Act.put, List.setIfInBounds_toArray, List.set_cons_zero, List.set_cons_succ]
    refine tk 1 (some 8) (v := ?_) ?_ ?_
    rotate_left
    · intro w hSw
      have hT := (unhide HX).below hSw; have d0 := hT.cell 0 rfl; have d1 := hT.cell 1 rfl; have d2 := hT.cell 2 rfl; have d3 := hT.cell 3 rfl; have d4 := hT.cell 4 rfl; clear hT; have hT := (unhide HR).below hSw; have e0 := hT.cell 0 rfl; have e1 := hT.cell 1 rfl; have e2 := hT.cell 2 rfl; clear hT
      first | (go_simp; done) | (go_simp; with_reducible rfl) | with_reducible rfl | rfl
    try simp only [Act.put, List.setIfInBounds_toArray, List.set_cons_zero, List.set_cons_succ]
    refine tk 2 (some 9) (v := ?_) ?_ ?_
    rotate_left
    · intro w hSw
      have hT := (unhide HX).below hSw; have d0 := hT.cell 0 rfl; have d1 := hT.cell 1 rfl; have d2 := hT.cell 2 rfl; have d3 := hT.cell 3 rfl; have d4 := hT.cell 4 rfl; clear hT; have hT := (unhide HR).below hSw; have e0 := hT.cell 0 rfl; have e1 := hT.cell 1 rfl; have e2 := hT.cell 2 rfl; clear hT
      first | (go_simp; done) | (go_simp; with_reducible rfl) | with_reducible rfl | rfl
    try simp only [Act.put, List.setIfInBounds_toArray, List.set_cons_zero, List.set_cons_succ]
    refine tk 3 (some 10) (v := ?_) ?_ ?_
    rotate_left
    · intro w hSw
      have hT := (unhide HX).below hSw; have d0 := hT.cell 0 rfl; have d1 := hT.cell 1 rfl; have d2 := hT.cell 2 rfl; have d3 := hT.cell 3 rfl; have d4 := hT.cell 4 rfl; clear hT; have hT := (unhide HR).below hSw; have e0 := hT.cell 0 rfl; have e1 := hT.cell 1 rfl; have e2 := hT.cell 2 rfl; clear hT
      first | (go_simp; done) | (go_simp; with_reducible rfl) | with_reducible rfl | rfl
    try simp only [Act.put, List.setIfInBounds_toArray, List.set_cons_zero, List.set_cons_succ]
    refine tk 4 (some 11) (v := ?_) ?_ ?_
    rotate_left
    · intro w hSw
      first | (go_simp; done) | (go_simp; with_reducible rfl) | with_reducible rfl | rfl
    try simp only [Act.put, List.setIfInBounds_toArray, List.set_cons_zero, List.set_cons_succ]
    refine tk 5 (some 12) (v := ?_) ?_ ?_
    rotate_left
    · intro w hSw
      first | (go_simp; done) | (go_simp; with_reducible rfl) | with_reducible rfl | rfl
    try simp only [Act.put, List.setIfInBounds_toArray, List.set_cons_zero, List.set_cons_succ]
    refine tk 6 (some 13) (v := ?_) ?_ ?_
    rotate_left
    · intro w hSw
      have hT := (unhide HX).below hSw; have d0 := hT.cell 0 rfl; have d1 := hT.cell 1 rfl; have d2 := hT.cell 2 rfl; have d3 := hT.cell 3 rfl; have d4 := hT.cell 4 rfl; clear hT; have hT := (unhide HR).below hSw; have e0 := hT.cell 0 rfl; have e1 := hT.cell 1 rfl; have e2 := hT.cell 2 rfl; clear hT
      first | (go_simp; done) | (go_simp; with_reducible rfl) | with_reducible rfl | rfl
    try simp only [Act.put, List.setIfInBounds_toArray, List.set_cons_zero, List.set_cons_succ]
    refine tk 7 (some 14) (v := ?_) ?_ ?_
    rotate_left
    · intro w hSw
      have hT := (unhide HX).below hSw; have d0 := hT.cell 0 rfl; have d1 := hT.cell 1 rfl; have d2 := hT.cell 2 rfl; have d3 := hT.cell 3 rfl; have d4 := hT.cell 4 rfl; clear hT; have hT := (unhide HR).below hSw; have e0 := hT.cell 0 rfl; have e1 := hT.cell 1 rfl; have e2 := hT.cell 2 rfl; clear hT
      first | (go_simp; done) | (go_simp; with_reducible rfl) | with_reducible rfl | rfl
    try simp only [Act.put, List.setIfInBounds_toArray, List.set_cons_zero, List.set_cons_succ]
    refine tk 8 (some 15) (v := ?_) ?_ ?_
    rotate_left
    · intro w hSw
      first | (go_simp; done) | (go_simp; with_reducible rfl) | with_reducible rfl | rfl
    try simp only [Act.put, List.setIfInBounds_toArray, List.set_cons_zero, List.set_cons_succ]
    refine tk 9 (some 16) (v := ?_) ?_ ?_
    rotate_left
    · intro w hSw
      first | (go_simp; done) | (go_simp; with_reducible rfl) | with_reducible rfl | rfl
    try simp only [Act.put, List.setIfInBounds_toArray, List.set_cons_zero, List.set_cons_succ]
    refine sk 10 (some 17) ?_
    try simp only [Act.put, List.setIfInBounds_toArray, List.set_cons_zero, List.set_cons_succ]
    refine sk 11 (some 18) ?_
    try simp only [Act.put, List.setIfInBounds_toArray, List.set_cons_zero, List.set_cons_succ]
    refine sk 12 (some 19) ?_
    try simp only [Act.put, List.setIfInBounds_toArray, List.set_cons_zero, List.set_cons_succ]
    refine sk 13 (some 20) ?_
    try simp only [Act.put, List.setIfInBounds_toArray, List.set_cons_zero, List.set_cons_succ]
    have HD := below_drew W1
    generalize W1.drew = V0 at *
    refine sk 14 (some 21) ?_
    try simp only [Act.put, List.setIfInBounds_toArray, List.set_cons_zero, List.set_cons_succ]
    refine sk 15 (some 22) ?_
    try simp only [Act.put, List.setIfInBounds_toArray, List.set_cons_zero, List.set_cons_succ]
    refine sk 16 (some 23) ?_
    try simp only [Act.put, List.setIfInBounds_toArray, List.set_cons_zero, List.set_cons_succ]
    refine tk 17 (some 24) (v := ?_) ?_ ?_
    rotate_left
    · intro w hSw
      first | (go_simp; done) | (go_simp; with_reducible rfl) | with_reducible rfl | rfl
    try simp only [Act.put, List.setIfInBounds_toArray, List.set_cons_zero, List.set_cons_succ]
    refine wpAnyH_done (by kernel_rfl) ?_ _
    replace HB := hide (below_tr (unhide HB) HD)
    replace HX := hide ((unhide HX).bel HD)
    replace HR := hide ((unhide HR).bel HD)
    clear HD 
    have d0 := (unhide HX).cell 0 rfl
    have d1 := (unhide HX).cell 1 rfl
    have d2 := (unhide HX).cell 2 rfl
    have d3 := (unhide HX).cell 3 rfl
    have d4 := (unhide HX).cell 4 rfl
    have e0 := (unhide HR).cell 0 rfl
    have e1 := (unhide HR).cell 1 rfl
    have e2 := (unhide HR).cell 2 rfl
    go_wp2_with fail
    go_ret
    exact ⟨ret_bool (unhide HU).symm, unhide HB⟩
  case false =>
    rcases hp : decide (1 ≤ x2 ∧ x2 ≤ Tm.cap r1) with _ | _
    case false =>
      have HU := hide (dk_3 (r0 := r0) (r2 := false) (c := c) (x0 := x0) (x1 := x1) (x3 := x3) (x4 := x4) hp)
      clear h1
      have d0 := (unhide HX).cell 0 rfl
      have d1 := (unhide HX).cell 1 rfl
      have d2 := (unhide HX).cell 2 rfl
      have d3 := (unhide HX).cell 3 rfl
      have d4 := (unhide HX).cell 4 rfl
      have e0 := (unhide HR).cell 0 rfl
      have e1 := (unhide HR).cell 1 rfl
      have e2 := (unhide HR).cell 2 rfl
      go_enter Try.func172, Try.ntmps172
      go_wp2_with fail
      generalize (w.alloc (.cells #[.int .i64 x0, .int .i64 x1, .int .i64 x2, .int .i64 x3, .int .i64 x4] 42)).alloc (.cells #[.int .i64 r0, .int .i64 r1, .bool false] 112) = W1 at *
      (try clear d0 d1 d2 d3 d4 e0 e1 e2)
      refine wp_region_held_drew (S := fun w' => Below W1.heap.size W1 w') (by kernel_rfl) (below_drew W1) (fun hHeld => ?_)
      refine tk 0 (some 7) (v := ?_) ?_ ?_
      rotate_left
      · intro w hSw
        have hT := (unhide HX).below hSw; have d0 := hT.cell 0 rfl; have d1 := hT.cell 1 rfl; have d2 := hT.cell 2 rfl; have d3 := hT.cell 3 rfl; have d4 := hT.cell 4 rfl; clear hT; have hT := (unhide HR).below hSw; have e0 := hT.cell 0 rfl; have e1 := hT.cell 1 rfl; have e2 := hT.cell 2 rfl; clear hT
        first | (go_simp; done) | (go_simp; with_reducible rfl) | with_reducible rfl | rfl
      try simp only [Act.put, List.setIfInBounds_toArray, List.set_cons_zero, List.set_cons_succ]
      refine tk 1 (some 8) (v := ?_) ?_ ?_
      rotate_left
      · intro w hSw
        have hT := (unhide HX).below hSw; have d0 := hT.cell 0 rfl; have d1 := hT.cell 1 rfl; have d2 := hT.cell 2 rfl; have d3 := hT.cell 3 rfl; have d4 := hT.cell 4 rfl; clear hT; have hT := (unhide HR).below hSw; have e0 := hT.cell 0 rfl; have e1 := hT.cell 1 rfl; have e2 := hT.cell 2 rfl; clear hT
        first | (go_simp; done) | (go_simp; with_reducible rfl) | with_reducible rfl | rfl
      try simp only [Act.put, List.setIfInBounds_toArray, List.set_cons_zero, List.set_cons_succ]
      refine tk 2 (some 9) (v := ?_) ?_ ?_
      rotate_left
      · intro w hSw
        have hT := (unhide HX).below hSw; have d0 := hT.cell 0 rfl; have d1 := hT.cell 1 rfl; have d2 := hT.cell 2 rfl; have d3 := hT.cell 3 rfl; have d4 := hT.cell 4 rfl; clear hT; have hT := (unhide HR).below hSw; have e0 := hT.cell 0 rfl; have e1 := hT.cell 1 rfl; have e2 := hT.cell 2 rfl; clear hT
        first | (go_simp; done) | (go_simp; with_reducible rfl) | with_reducible rfl | rfl
      try simp only [Act.put, List.setIfInBounds_toArray, List.set_cons_zero, List.set_cons_succ]
      refine tk 3 (some 10) (v := ?_) ?_ ?_
      rotate_left
      · intro w hSw
        have hT := (unhide HX).below hSw; have d0 := hT.cell 0 rfl; have d1 := hT.cell 1 rfl; have d2 := hT.cell 2 rfl; have d3 := hT.cell 3 rfl; have d4 := hT.cell 4 rfl; clear hT; have hT := (unhide HR).below hSw; have e0 := hT.cell 0 rfl; have e1 := hT.cell 1 rfl; have e2 := hT.cell 2 rfl; clear hT
        first | (go_simp; done) | (go_simp; with_reducible rfl) | with_reducible rfl | rfl
      try simp only [Act.put, List.setIfInBounds_toArray, List.set_cons_zero, List.set_cons_succ]
      refine tk 4 (some 11) (v := ?_) ?_ ?_
      rotate_left
      · intro w hSw
        first | (go_simp; done) | (go_simp; with_reducible rfl) | with_reducible rfl | rfl
      try simp only [Act.put, List.setIfInBounds_toArray, List.set_cons_zero, List.set_cons_succ]
      refine tk 5 (some 12) (v := ?_) ?_ ?_
      rotate_left
      · intro w hSw
        first | (go_simp; done) | (go_simp; with_reducible rfl) | with_reducible rfl | rfl
      try simp only [Act.put, List.setIfInBounds_toArray, List.set_cons_zero, List.set_cons_succ]
      refine tk 6 (some 13) (v := ?_) ?_ ?_
      rotate_left
      · intro w hSw
        have hT := (unhide HX).below hSw; have d0 := hT.cell 0 rfl; have d1 := hT.cell 1 rfl; have d2 := hT.cell 2 rfl; have d3 := hT.cell 3 rfl; have d4 := hT.cell 4 rfl; clear hT; have hT := (unhide HR).below hSw; have e0 := hT.cell 0 rfl; have e1 := hT.cell 1 rfl; have e2 := hT.cell 2 rfl; clear hT
        first | (go_simp; done) | (go_simp; with_reducible rfl) | with_reducible rfl | rfl
      try simp only [Act.put, List.setIfInBounds_toArray, List.set_cons_zero, List.set_cons_succ]
      refine tk 7 (some 14) (v := ?_) ?_ ?_
      rotate_left
      · intro w hSw
        have hT := (unhide HX).below hSw; have d0 := hT.cell 0 rfl; have d1 := hT.cell 1 rfl; have d2 := hT.cell 2 rfl; have d3 := hT.cell 3 rfl; have d4 := hT.cell 4 rfl; clear hT; have hT := (unhide HR).below hSw; have e0 := hT.cell 0 rfl; have e1 := hT.cell 1 rfl; have e2 := hT.cell 2 rfl; clear hT
        first | (go_simp; done) | (go_simp; with_reducible rfl) | with_reducible rfl | rfl
      try simp only [Act.put, List.setIfInBounds_toArray, List.set_cons_zero, List.set_cons_succ]
      refine tk 8 (some 15) (v := ?_) ?_ ?_
      rotate_left
      · intro w hSw
        first | (go_simp; done) | (go_simp; with_reducible rfl) | with_reducible rfl | rfl
      try simp only [Act.put, List.setIfInBounds_toArray, List.set_cons_zero, List.set_cons_succ]
      refine tk 9 (some 16) (v := ?_) ?_ ?_
      rotate_left
      · intro w hSw
        first | (go_simp; done) | (go_simp; with_reducible rfl) | with_reducible rfl | rfl
      try simp only [Act.put, List.setIfInBounds_toArray, List.set_cons_zero, List.set_cons_succ]
      refine tk 10 (some 17) (v := ?_) ?_ ?_
      rotate_left
      · intro w hSw
        have hT := (unhide HX).below hSw; have d0 := hT.cell 0 rfl; have d1 := hT.cell 1 rfl; have d2 := hT.cell 2 rfl; have d3 := hT.cell 3 rfl; have d4 := hT.cell 4 rfl; clear hT; have hT := (unhide HR).below hSw; have e0 := hT.cell 0 rfl; have e1 := hT.cell 1 rfl; have e2 := hT.cell 2 rfl; clear hT
        first | (go_simp; done) | (go_simp; with_reducible rfl) | with_reducible rfl | rfl
      try simp only [Act.put, List.setIfInBounds_toArray, List.set_cons_zero, List.set_cons_succ]
      refine tk 11 (some 18) (v := ?_) ?_ ?_
      rotate_left
      · intro w hSw
        have hT := (unhide HX).below hSw; have d0 := hT.cell 0 rfl; have d1 := hT.cell 1 rfl; have d2 := hT.cell 2 rfl; have d3 := hT.cell 3 rfl; have d4 := hT.cell 4 rfl; clear hT; have hT := (unhide HR).below hSw; have e0 := hT.cell 0 rfl; have e1 := hT.cell 1 rfl; have e2 := hT.cell 2 rfl; clear hT
        first | (go_simp; done) | (go_simp; with_reducible rfl) | with_reducible rfl | rfl
      try simp only [Act.put, List.setIfInBounds_toArray, List.set_cons_zero, List.set_cons_succ]
      refine tk 12 (some 19) (v := ?_) ?_ ?_
      rotate_left
      · intro w hSw
        have hT := (unhide HX).below hSw; have d0 := hT.cell 0 rfl; have d1 := hT.cell 1 rfl; have d2 := hT.cell 2 rfl; have d3 := hT.cell 3 rfl; have d4 := hT.cell 4 rfl; clear hT; have hT := (unhide HR).below hSw; have e0 := hT.cell 0 rfl; have e1 := hT.cell 1 rfl; have e2 := hT.cell 2 rfl; clear hT
        first | (go_simp; done) | (go_simp; with_reducible rfl) | with_reducible rfl | rfl
      try simp only [Act.put, List.setIfInBounds_toArray, List.set_cons_zero, List.set_cons_succ]
      refine tk 13 (some 20) (v := ?_) ?_ ?_
      rotate_left
      · intro w hSw
        have hT := (unhide HX).below hSw; have d0 := hT.cell 0 rfl; have d1 := hT.cell 1 rfl; have d2 := hT.cell 2 rfl; have d3 := hT.cell 3 rfl; have d4 := hT.cell 4 rfl; clear hT; have hT := (unhide HR).below hSw; have e0 := hT.cell 0 rfl; have e1 := hT.cell 1 rfl; have e2 := hT.cell 2 rfl; clear hT
        first | (go_simp; done) | (go_simp; with_reducible rfl) | with_reducible rfl | rfl
      try simp only [Act.put, List.setIfInBounds_toArray, List.set_cons_zero, List.set_cons_succ]
      have HD := below_drew W1
      generalize W1.drew = V0 at *
      refine wpAnyH_ready (rs := [14]) (by kernel_rfl) (by simp) ?_
      refine AllReadyH.cons (o := { dst := some 21, op := _, type := _, pos := _, after := _, guard := _ }) rfl (fun K hK => ?_) AllReadyH.nil
      go_simp
      go_at_call 211
      refine (c211 r1 _).mono ?_
      rintro e V1 ⟨rfl, hww⟩
      have hww := hww.symm
      subst hww
      try go_wp2_with fail
      refine hK.out _ _ HD (fun hHeld => ?_)
      clear hK K hHeld
      try simp only [Act.put, List.setIfInBounds_toArray, List.set_cons_zero, List.set_cons_succ]
      refine wpAnyH_ready (rs := [15]) (by kernel_rfl) (by simp) ?_
      refine AllReadyH.cons (o := { dst := some 22, op := _, type := _, pos := _, after := _, guard := _ }) rfl (fun K hK => ?_) AllReadyH.nil
      go_simp
      go_at_call 110
      refine (c110 x2 1 (Tm.cap r1) _).mono ?_
      rintro e V2 ⟨rfl, hww⟩
      have hww := hww.symm
      subst hww
      rw [hp]
      try go_wp2_with fail
      refine hK.out _ _ HD (fun hHeld => ?_)
      clear hK K hHeld
      try simp only [Act.put, List.setIfInBounds_toArray, List.set_cons_zero, List.set_cons_succ]
      refine tk 16 (some 23) (v := ?_) ?_ ?_
      rotate_left
      · intro w hSw
        first | (go_simp; done) | (go_simp; with_reducible rfl) | with_reducible rfl | rfl
      try simp only [Act.put, List.setIfInBounds_toArray, List.set_cons_zero, List.set_cons_succ]
      refine tk 17 (some 24) (v := ?_) ?_ ?_
      rotate_left
      · intro w hSw
        first | (go_simp; done) | (go_simp; with_reducible rfl) | with_reducible rfl | rfl
      try simp only [Act.put, List.setIfInBounds_toArray, List.set_cons_zero, List.set_cons_succ]
      refine wpAnyH_done (by kernel_rfl) ?_ _
      replace HB := hide (below_tr (unhide HB) HD)
      replace HX := hide ((unhide HX).bel HD)
      replace HR := hide ((unhide HR).bel HD)
      clear HD 
      have d0 := (unhide HX).cell 0 rfl
      have d1 := (unhide HX).cell 1 rfl
      have d2 := (unhide HX).cell 2 rfl
      have d3 := (unhide HX).cell 3 rfl
      have d4 := (unhide HX).cell 4 rfl
      have e0 := (unhide HR).cell 0 rfl
      have e1 := (unhide HR).cell 1 rfl
      have e2 := (unhide HR).cell 2 rfl
      go_wp2_with fail
      go_ret
      exact ⟨ret_bool (unhide HU).symm, unhide HB⟩
    have HN := hide (dk_on (c := c) (x0 := x0) (x3 := x3) (x4 := x4) h1 hp)
    clear h1
    by_cases h3 : x3 = 0
    case pos =>
      have hz : (!decide (x3 = 0)) = false := by rw [decide_eq_true h3]; rfl
      have HV : Hid (dealOk (r0, r1, false) c (x0, x1, x2, x3, x4) = decide (x4 = 0)) := (unhide HN).trans (by rw [h3]; exact dw_0)
      clear h3
      by_cases h4 : x4 = 0
      case pos =>
        have HU : Hid (_ = true) := (unhide HV).trans (decide_eq_true h4)
        have hb4 : (x4 == 0) = true := by rw [beq_iff_eq]; exact h4
        clear h4
        have d0 := (unhide HX).cell 0 rfl
        have d1 := (unhide HX).cell 1 rfl
        have d2 := (unhide HX).cell 2 rfl
        have d3 := (unhide HX).cell 3 rfl
        have d4 := (unhide HX).cell 4 rfl
        have e0 := (unhide HR).cell 0 rfl
        have e1 := (unhide HR).cell 1 rfl
        have e2 := (unhide HR).cell 2 rfl
        go_enter Try.func172, Try.ntmps172
        go_wp2_with fail
        generalize (w.alloc (.cells #[.int .i64 x0, .int .i64 x1, .int .i64 x2, .int .i64 x3, .int .i64 x4] 42)).alloc (.cells #[.int .i64 r0, .int .i64 r1, .bool false] 112) = W1 at *
        (try clear d0 d1 d2 d3 d4 e0 e1 e2)
        refine wp_region_held_drew (S := fun w' => Below W1.heap.size W1 w') (by kernel_rfl) (below_drew W1) (fun hHeld => ?_)
        refine tk 0 (some 7) (v := ?_) ?_ ?_
        rotate_left
        · intro w hSw
          have hT := (unhide HX).below hSw; have d0 := hT.cell 0 rfl; have d1 := hT.cell 1 rfl; have d2 := hT.cell 2 rfl; have d3 := hT.cell 3 rfl; have d4 := hT.cell 4 rfl; clear hT; have hT := (unhide HR).below hSw; have e0 := hT.cell 0 rfl; have e1 := hT.cell 1 rfl; have e2 := hT.cell 2 rfl; clear hT
          first | (go_simp; done) | (go_simp; with_reducible rfl) | with_reducible rfl | rfl
        try simp only [Act.put, List.setIfInBounds_toArray, List.set_cons_zero, List.set_cons_succ]
        refine tk 1 (some 8) (v := ?_) ?_ ?_
        rotate_left
        · intro w hSw
          have hT := (unhide HX).below hSw; have d0 := hT.cell 0 rfl; have d1 := hT.cell 1 rfl; have d2 := hT.cell 2 rfl; have d3 := hT.cell 3 rfl; have d4 := hT.cell 4 rfl; clear hT; have hT := (unhide HR).below hSw; have e0 := hT.cell 0 rfl; have e1 := hT.cell 1 rfl; have e2 := hT.cell 2 rfl; clear hT
          first | (go_simp; done) | (go_simp; with_reducible rfl) | with_reducible rfl | rfl
        try simp only [Act.put, List.setIfInBounds_toArray, List.set_cons_zero, List.set_cons_succ]
        refine tk 2 (some 9) (v := ?_) ?_ ?_
        rotate_left
        · intro w hSw
          have hT := (unhide HX).below hSw; have d0 := hT.cell 0 rfl; have d1 := hT.cell 1 rfl; have d2 := hT.cell 2 rfl; have d3 := hT.cell 3 rfl; have d4 := hT.cell 4 rfl; clear hT; have hT := (unhide HR).below hSw; have e0 := hT.cell 0 rfl; have e1 := hT.cell 1 rfl; have e2 := hT.cell 2 rfl; clear hT
          first | (go_simp; done) | (go_simp; with_reducible rfl) | with_reducible rfl | rfl
        try simp only [Act.put, List.setIfInBounds_toArray, List.set_cons_zero, List.set_cons_succ]
        refine tk 3 (some 10) (v := ?_) ?_ ?_
        rotate_left
        · intro w hSw
          have hT := (unhide HX).below hSw; have d0 := hT.cell 0 rfl; have d1 := hT.cell 1 rfl; have d2 := hT.cell 2 rfl; have d3 := hT.cell 3 rfl; have d4 := hT.cell 4 rfl; clear hT; have hT := (unhide HR).below hSw; have e0 := hT.cell 0 rfl; have e1 := hT.cell 1 rfl; have e2 := hT.cell 2 rfl; clear hT
          first | (go_simp; done) | (go_simp; with_reducible rfl) | with_reducible rfl | rfl
        try simp only [Act.put, List.setIfInBounds_toArray, List.set_cons_zero, List.set_cons_succ]
        refine tk 4 (some 11) (v := ?_) ?_ ?_
        rotate_left
        · intro w hSw
          first | (go_simp; done) | (go_simp; with_reducible rfl) | with_reducible rfl | rfl
        try simp only [Act.put, List.setIfInBounds_toArray, List.set_cons_zero, List.set_cons_succ]
        refine tk 5 (some 12) (v := ?_) ?_ ?_
        rotate_left
        · intro w hSw
          first | (go_simp; done) | (go_simp; with_reducible rfl) | with_reducible rfl | rfl
        try simp only [Act.put, List.setIfInBounds_toArray, List.set_cons_zero, List.set_cons_succ]
        refine tk 6 (some 13) (v := ?_) ?_ ?_
        rotate_left
        · intro w hSw
          have hT := (unhide HX).below hSw; have d0 := hT.cell 0 rfl; have d1 := hT.cell 1 rfl; have d2 := hT.cell 2 rfl; have d3 := hT.cell 3 rfl; have d4 := hT.cell 4 rfl; clear hT; have hT := (unhide HR).below hSw; have e0 := hT.cell 0 rfl; have e1 := hT.cell 1 rfl; have e2 := hT.cell 2 rfl; clear hT
          first | (go_simp; done) | (go_simp; with_reducible rfl) | with_reducible rfl | rfl
        try simp only [Act.put, List.setIfInBounds_toArray, List.set_cons_zero, List.set_cons_succ]
        refine tk 7 (some 14) (v := ?_) ?_ ?_
        rotate_left
        · intro w hSw
          have hT := (unhide HX).below hSw; have d0 := hT.cell 0 rfl; have d1 := hT.cell 1 rfl; have d2 := hT.cell 2 rfl; have d3 := hT.cell 3 rfl; have d4 := hT.cell 4 rfl; clear hT; have hT := (unhide HR).below hSw; have e0 := hT.cell 0 rfl; have e1 := hT.cell 1 rfl; have e2 := hT.cell 2 rfl; clear hT
          first | (go_simp; done) | (go_simp; with_reducible rfl) | with_reducible rfl | rfl
        try simp only [Act.put, List.setIfInBounds_toArray, List.set_cons_zero, List.set_cons_succ]
        refine tk 8 (some 15) (v := ?_) ?_ ?_
        rotate_left
        · intro w hSw
          first | (go_simp; done) | (go_simp; with_reducible rfl) | with_reducible rfl | rfl
        try simp only [Act.put, List.setIfInBounds_toArray, List.set_cons_zero, List.set_cons_succ]
        refine tk 9 (some 16) (v := ?_) ?_ ?_
        rotate_left
        · intro w hSw
          first | (go_simp; done) | (go_simp; with_reducible rfl) | with_reducible rfl | rfl
        try simp only [Act.put, List.setIfInBounds_toArray, List.set_cons_zero, List.set_cons_succ]
        refine tk 10 (some 17) (v := ?_) ?_ ?_
        rotate_left
        · intro w hSw
          have hT := (unhide HX).below hSw; have d0 := hT.cell 0 rfl; have d1 := hT.cell 1 rfl; have d2 := hT.cell 2 rfl; have d3 := hT.cell 3 rfl; have d4 := hT.cell 4 rfl; clear hT; have hT := (unhide HR).below hSw; have e0 := hT.cell 0 rfl; have e1 := hT.cell 1 rfl; have e2 := hT.cell 2 rfl; clear hT
          first | (go_simp; done) | (go_simp; with_reducible rfl) | with_reducible rfl | rfl
        try simp only [Act.put, List.setIfInBounds_toArray, List.set_cons_zero, List.set_cons_succ]
        refine tk 11 (some 18) (v := ?_) ?_ ?_
        rotate_left
        · intro w hSw
          have hT := (unhide HX).below hSw; have d0 := hT.cell 0 rfl; have d1 := hT.cell 1 rfl; have d2 := hT.cell 2 rfl; have d3 := hT.cell 3 rfl; have d4 := hT.cell 4 rfl; clear hT; have hT := (unhide HR).below hSw; have e0 := hT.cell 0 rfl; have e1 := hT.cell 1 rfl; have e2 := hT.cell 2 rfl; clear hT
          first | (go_simp; done) | (go_simp; with_reducible rfl) | with_reducible rfl | rfl
        try simp only [Act.put, List.setIfInBounds_toArray, List.set_cons_zero, List.set_cons_succ]
        refine tk 12 (some 19) (v := ?_) ?_ ?_
        rotate_left
        · intro w hSw
          have hT := (unhide HX).below hSw; have d0 := hT.cell 0 rfl; have d1 := hT.cell 1 rfl; have d2 := hT.cell 2 rfl; have d3 := hT.cell 3 rfl; have d4 := hT.cell 4 rfl; clear hT; have hT := (unhide HR).below hSw; have e0 := hT.cell 0 rfl; have e1 := hT.cell 1 rfl; have e2 := hT.cell 2 rfl; clear hT
          first | (go_simp; done) | (go_simp; with_reducible rfl) | with_reducible rfl | rfl
        try simp only [Act.put, List.setIfInBounds_toArray, List.set_cons_zero, List.set_cons_succ]
        refine tk 13 (some 20) (v := ?_) ?_ ?_
        rotate_left
        · intro w hSw
          have hT := (unhide HX).below hSw; have d0 := hT.cell 0 rfl; have d1 := hT.cell 1 rfl; have d2 := hT.cell 2 rfl; have d3 := hT.cell 3 rfl; have d4 := hT.cell 4 rfl; clear hT; have hT := (unhide HR).below hSw; have e0 := hT.cell 0 rfl; have e1 := hT.cell 1 rfl; have e2 := hT.cell 2 rfl; clear hT
          first | (go_simp; done) | (go_simp; with_reducible rfl) | with_reducible rfl | rfl
        try simp only [Act.put, List.setIfInBounds_toArray, List.set_cons_zero, List.set_cons_succ]
        have HD := below_drew W1
        generalize W1.drew = V0 at *
        refine wpAnyH_ready (rs := [14]) (by kernel_rfl) (by simp) ?_
        refine AllReadyH.cons (o := { dst := some 21, op := _, type := _, pos := _, after := _, guard := _ }) rfl (fun K hK => ?_) AllReadyH.nil
        go_simp
        go_at_call 211
        refine (c211 r1 _).mono ?_
        rintro e V1 ⟨rfl, hww⟩
        have hww := hww.symm
        subst hww
        try go_wp2_with fail
        refine hK.out _ _ HD (fun hHeld => ?_)
        clear hK K hHeld
        try simp only [Act.put, List.setIfInBounds_toArray, List.set_cons_zero, List.set_cons_succ]
        refine wpAnyH_ready (rs := [15]) (by kernel_rfl) (by simp) ?_
        refine AllReadyH.cons (o := { dst := some 22, op := _, type := _, pos := _, after := _, guard := _ }) rfl (fun K hK => ?_) AllReadyH.nil
        go_simp
        go_at_call 110
        refine (c110 x2 1 (Tm.cap r1) _).mono ?_
        rintro e V2 ⟨rfl, hww⟩
        have hww := hww.symm
        subst hww
        rw [hp]
        try go_wp2_with fail
        refine hK.out _ _ HD (fun hHeld => ?_)
        clear hK K hHeld
        try simp only [Act.put, List.setIfInBounds_toArray, List.set_cons_zero, List.set_cons_succ]
        refine tk 16 (some 23) (v := ?_) ?_ ?_
        rotate_left
        · intro w hSw
          first | (go_simp; done) | (go_simp; with_reducible rfl) | with_reducible rfl | rfl
        try simp only [Act.put, List.setIfInBounds_toArray, List.set_cons_zero, List.set_cons_succ]
        refine tk 17 (some 24) (v := ?_) ?_ ?_
        rotate_left
        · intro w hSw
          first | (go_simp; done) | (go_simp; with_reducible rfl) | with_reducible rfl | rfl
        try simp only [Act.put, List.setIfInBounds_toArray, List.set_cons_zero, List.set_cons_succ]
        refine wpAnyH_done (by kernel_rfl) ?_ _
        replace HB := hide (below_tr (unhide HB) HD)
        replace HX := hide ((unhide HX).bel HD)
        replace HR := hide ((unhide HR).bel HD)
        clear HD 
        have d0 := (unhide HX).cell 0 rfl
        have d1 := (unhide HX).cell 1 rfl
        have d2 := (unhide HX).cell 2 rfl
        have d3 := (unhide HX).cell 3 rfl
        have d4 := (unhide HX).cell 4 rfl
        have e0 := (unhide HR).cell 0 rfl
        have e1 := (unhide HR).cell 1 rfl
        have e2 := (unhide HR).cell 2 rfl
        go_wp2_with fail
        refine (c114 x0 x1 x2 x3 x4 _).mono ?_
        rintro e w1 ⟨rfl, hb⟩
        rw [hz]
        (try clear d0 d1 d2 d3 d4 e0 e1 e2)
        replace HB := hide (below_tr (unhide HB) hb)
        replace HX := hide ((unhide HX).bel hb)
        replace HR := hide ((unhide HR).bel hb)
        clear hb
        have d0 := (unhide HX).cell 0 rfl
        have d1 := (unhide HX).cell 1 rfl
        have d2 := (unhide HX).cell 2 rfl
        have d3 := (unhide HX).cell 3 rfl
        have d4 := (unhide HX).cell 4 rfl
        have e0 := (unhide HR).cell 0 rfl
        have e1 := (unhide HR).cell 1 rfl
        have e2 := (unhide HR).cell 2 rfl
        go_wp2_with fail
        go_ret
        exact ⟨ret_bool (unhide HU).symm, unhide HB⟩
      have HU : Hid (_ = false) := (unhide HV).trans (decide_eq_false h4)
      have hb4 : (x4 == 0) = false := by rw [beq_eq_false_iff_ne]; exact h4
      clear h4
      have d0 := (unhide HX).cell 0 rfl
      have d1 := (unhide HX).cell 1 rfl
      have d2 := (unhide HX).cell 2 rfl
      have d3 := (unhide HX).cell 3 rfl
      have d4 := (unhide HX).cell 4 rfl
      have e0 := (unhide HR).cell 0 rfl
      have e1 := (unhide HR).cell 1 rfl
      have e2 := (unhide HR).cell 2 rfl
      go_enter Try.func172, Try.ntmps172
      go_wp2_with fail
      generalize (w.alloc (.cells #[.int .i64 x0, .int .i64 x1, .int .i64 x2, .int .i64 x3, .int .i64 x4] 42)).alloc (.cells #[.int .i64 r0, .int .i64 r1, .bool false] 112) = W1 at *
      (try clear d0 d1 d2 d3 d4 e0 e1 e2)
      refine wp_region_held_drew (S := fun w' => Below W1.heap.size W1 w') (by kernel_rfl) (below_drew W1) (fun hHeld => ?_)
      refine tk 0 (some 7) (v := ?_) ?_ ?_
      rotate_left
      · intro w hSw
        have hT := (unhide HX).below hSw; have d0 := hT.cell 0 rfl; have d1 := hT.cell 1 rfl; have d2 := hT.cell 2 rfl; have d3 := hT.cell 3 rfl; have d4 := hT.cell 4 rfl; clear hT; have hT := (unhide HR).below hSw; have e0 := hT.cell 0 rfl; have e1 := hT.cell 1 rfl; have e2 := hT.cell 2 rfl; clear hT
        first | (go_simp; done) | (go_simp; with_reducible rfl) | with_reducible rfl | rfl
      try simp only [Act.put, List.setIfInBounds_toArray, List.set_cons_zero, List.set_cons_succ]
      refine tk 1 (some 8) (v := ?_) ?_ ?_
      rotate_left
      · intro w hSw
        have hT := (unhide HX).below hSw; have d0 := hT.cell 0 rfl; have d1 := hT.cell 1 rfl; have d2 := hT.cell 2 rfl; have d3 := hT.cell 3 rfl; have d4 := hT.cell 4 rfl; clear hT; have hT := (unhide HR).below hSw; have e0 := hT.cell 0 rfl; have e1 := hT.cell 1 rfl; have e2 := hT.cell 2 rfl; clear hT
        first | (go_simp; done) | (go_simp; with_reducible rfl) | with_reducible rfl | rfl
      try simp only [Act.put, List.setIfInBounds_toArray, List.set_cons_zero, List.set_cons_succ]
      refine tk 2 (some 9) (v := ?_) ?_ ?_
      rotate_left
      · intro w hSw
        have hT := (unhide HX).below hSw; have d0 := hT.cell 0 rfl; have d1 := hT.cell 1 rfl; have d2 := hT.cell 2 rfl; have d3 := hT.cell 3 rfl; have d4 := hT.cell 4 rfl; clear hT; have hT := (unhide HR).below hSw; have e0 := hT.cell 0 rfl; have e1 := hT.cell 1 rfl; have e2 := hT.cell 2 rfl; clear hT
        first | (go_simp; done) | (go_simp; with_reducible rfl) | with_reducible rfl | rfl
      try simp only [Act.put, List.setIfInBounds_toArray, List.set_cons_zero, List.set_cons_succ]
      refine tk 3 (some 10) (v := ?_) ?_ ?_
      rotate_left
      · intro w hSw
        have hT := (unhide HX).below hSw; have d0 := hT.cell 0 rfl; have d1 := hT.cell 1 rfl; have d2 := hT.cell 2 rfl; have d3 := hT.cell 3 rfl; have d4 := hT.cell 4 rfl; clear hT; have hT := (unhide HR).below hSw; have e0 := hT.cell 0 rfl; have e1 := hT.cell 1 rfl; have e2 := hT.cell 2 rfl; clear hT
        first | (go_simp; done) | (go_simp; with_reducible rfl) | with_reducible rfl | rfl
      try simp only [Act.put, List.setIfInBounds_toArray, List.set_cons_zero, List.set_cons_succ]
      refine tk 4 (some 11) (v := ?_) ?_ ?_
      rotate_left
      · intro w hSw
        first | (go_simp; done) | (go_simp; with_reducible rfl) | with_reducible rfl | rfl
      try simp only [Act.put, List.setIfInBounds_toArray, List.set_cons_zero, List.set_cons_succ]
      refine tk 5 (some 12) (v := ?_) ?_ ?_
      rotate_left
      · intro w hSw
        first | (go_simp; done) | (go_simp; with_reducible rfl) | with_reducible rfl | rfl
      try simp only [Act.put, List.setIfInBounds_toArray, List.set_cons_zero, List.set_cons_succ]
      refine tk 6 (some 13) (v := ?_) ?_ ?_
      rotate_left
      · intro w hSw
        have hT := (unhide HX).below hSw; have d0 := hT.cell 0 rfl; have d1 := hT.cell 1 rfl; have d2 := hT.cell 2 rfl; have d3 := hT.cell 3 rfl; have d4 := hT.cell 4 rfl; clear hT; have hT := (unhide HR).below hSw; have e0 := hT.cell 0 rfl; have e1 := hT.cell 1 rfl; have e2 := hT.cell 2 rfl; clear hT
        first | (go_simp; done) | (go_simp; with_reducible rfl) | with_reducible rfl | rfl
      try simp only [Act.put, List.setIfInBounds_toArray, List.set_cons_zero, List.set_cons_succ]
      refine tk 7 (some 14) (v := ?_) ?_ ?_
      rotate_left
      · intro w hSw
        have hT := (unhide HX).below hSw; have d0 := hT.cell 0 rfl; have d1 := hT.cell 1 rfl; have d2 := hT.cell 2 rfl; have d3 := hT.cell 3 rfl; have d4 := hT.cell 4 rfl; clear hT; have hT := (unhide HR).below hSw; have e0 := hT.cell 0 rfl; have e1 := hT.cell 1 rfl; have e2 := hT.cell 2 rfl; clear hT
        first | (go_simp; done) | (go_simp; with_reducible rfl) | with_reducible rfl | rfl
      try simp only [Act.put, List.setIfInBounds_toArray, List.set_cons_zero, List.set_cons_succ]
      refine tk 8 (some 15) (v := ?_) ?_ ?_
      rotate_left
      · intro w hSw
        first | (go_simp; done) | (go_simp; with_reducible rfl) | with_reducible rfl | rfl
      try simp only [Act.put, List.setIfInBounds_toArray, List.set_cons_zero, List.set_cons_succ]
      refine tk 9 (some 16) (v := ?_) ?_ ?_
      rotate_left
      · intro w hSw
        first | (go_simp; done) | (go_simp; with_reducible rfl) | with_reducible rfl | rfl
      try simp only [Act.put, List.setIfInBounds_toArray, List.set_cons_zero, List.set_cons_succ]
      refine tk 10 (some 17) (v := ?_) ?_ ?_
      rotate_left
      · intro w hSw
        have hT := (unhide HX).below hSw; have d0 := hT.cell 0 rfl; have d1 := hT.cell 1 rfl; have d2 := hT.cell 2 rfl; have d3 := hT.cell 3 rfl; have d4 := hT.cell 4 rfl; clear hT; have hT := (unhide HR).below hSw; have e0 := hT.cell 0 rfl; have e1 := hT.cell 1 rfl; have e2 := hT.cell 2 rfl; clear hT
        first | (go_simp; done) | (go_simp; with_reducible rfl) | with_reducible rfl | rfl
      try simp only [Act.put, List.setIfInBounds_toArray, List.set_cons_zero, List.set_cons_succ]
      refine tk 11 (some 18) (v := ?_) ?_ ?_
      rotate_left
      · intro w hSw
        have hT := (unhide HX).below hSw; have d0 := hT.cell 0 rfl; have d1 := hT.cell 1 rfl; have d2 := hT.cell 2 rfl; have d3 := hT.cell 3 rfl; have d4 := hT.cell 4 rfl; clear hT; have hT := (unhide HR).below hSw; have e0 := hT.cell 0 rfl; have e1 := hT.cell 1 rfl; have e2 := hT.cell 2 rfl; clear hT
        first | (go_simp; done) | (go_simp; with_reducible rfl) | with_reducible rfl | rfl
      try simp only [Act.put, List.setIfInBounds_toArray, List.set_cons_zero, List.set_cons_succ]
      refine tk 12 (some 19) (v := ?_) ?_ ?_
      rotate_left
      · intro w hSw
        have hT := (unhide HX).below hSw; have d0 := hT.cell 0 rfl; have d1 := hT.cell 1 rfl; have d2 := hT.cell 2 rfl; have d3 := hT.cell 3 rfl; have d4 := hT.cell 4 rfl; clear hT; have hT := (unhide HR).below hSw; have e0 := hT.cell 0 rfl; have e1 := hT.cell 1 rfl; have e2 := hT.cell 2 rfl; clear hT
        first | (go_simp; done) | (go_simp; with_reducible rfl) | with_reducible rfl | rfl
      try simp only [Act.put, List.setIfInBounds_toArray, List.set_cons_zero, List.set_cons_succ]
      refine tk 13 (some 20) (v := ?_) ?_ ?_
      rotate_left
      · intro w hSw
        have hT := (unhide HX).below hSw; have d0 := hT.cell 0 rfl; have d1 := hT.cell 1 rfl; have d2 := hT.cell 2 rfl; have d3 := hT.cell 3 rfl; have d4 := hT.cell 4 rfl; clear hT; have hT := (unhide HR).below hSw; have e0 := hT.cell 0 rfl; have e1 := hT.cell 1 rfl; have e2 := hT.cell 2 rfl; clear hT
        first | (go_simp; done) | (go_simp; with_reducible rfl) | with_reducible rfl | rfl
      try simp only [Act.put, List.setIfInBounds_toArray, List.set_cons_zero, List.set_cons_succ]
      have HD := below_drew W1
      generalize W1.drew = V0 at *
      refine wpAnyH_ready (rs := [14]) (by kernel_rfl) (by simp) ?_
      refine AllReadyH.cons (o := { dst := some 21, op := _, type := _, pos := _, after := _, guard := _ }) rfl (fun K hK => ?_) AllReadyH.nil
      go_simp
      go_at_call 211
      refine (c211 r1 _).mono ?_
      rintro e V1 ⟨rfl, hww⟩
      have hww := hww.symm
      subst hww
      try go_wp2_with fail
      refine hK.out _ _ HD (fun hHeld => ?_)
      clear hK K hHeld
      try simp only [Act.put, List.setIfInBounds_toArray, List.set_cons_zero, List.set_cons_succ]
      refine wpAnyH_ready (rs := [15]) (by kernel_rfl) (by simp) ?_
      refine AllReadyH.cons (o := { dst := some 22, op := _, type := _, pos := _, after := _, guard := _ }) rfl (fun K hK => ?_) AllReadyH.nil
      go_simp
      go_at_call 110
      refine (c110 x2 1 (Tm.cap r1) _).mono ?_
      rintro e V2 ⟨rfl, hww⟩
      have hww := hww.symm
      subst hww
      rw [hp]
      try go_wp2_with fail
      refine hK.out _ _ HD (fun hHeld => ?_)
      clear hK K hHeld
      try simp only [Act.put, List.setIfInBounds_toArray, List.set_cons_zero, List.set_cons_succ]
      refine tk 16 (some 23) (v := ?_) ?_ ?_
      rotate_left
      · intro w hSw
        first | (go_simp; done) | (go_simp; with_reducible rfl) | with_reducible rfl | rfl
      try simp only [Act.put, List.setIfInBounds_toArray, List.set_cons_zero, List.set_cons_succ]
      refine tk 17 (some 24) (v := ?_) ?_ ?_
      rotate_left
      · intro w hSw
        first | (go_simp; done) | (go_simp; with_reducible rfl) | with_reducible rfl | rfl
      try simp only [Act.put, List.setIfInBounds_toArray, List.set_cons_zero, List.set_cons_succ]
      refine wpAnyH_done (by kernel_rfl) ?_ _
      replace HB := hide (below_tr (unhide HB) HD)
      replace HX := hide ((unhide HX).bel HD)
      replace HR := hide ((unhide HR).bel HD)
      clear HD 
      have d0 := (unhide HX).cell 0 rfl
      have d1 := (unhide HX).cell 1 rfl
      have d2 := (unhide HX).cell 2 rfl
      have d3 := (unhide HX).cell 3 rfl
      have d4 := (unhide HX).cell 4 rfl
      have e0 := (unhide HR).cell 0 rfl
      have e1 := (unhide HR).cell 1 rfl
      have e2 := (unhide HR).cell 2 rfl
      go_wp2_with fail
      refine (c114 x0 x1 x2 x3 x4 _).mono ?_
      rintro e w1 ⟨rfl, hb⟩
      rw [hz]
      (try clear d0 d1 d2 d3 d4 e0 e1 e2)
      replace HB := hide (below_tr (unhide HB) hb)
      replace HX := hide ((unhide HX).bel hb)
      replace HR := hide ((unhide HR).bel hb)
      clear hb
      have d0 := (unhide HX).cell 0 rfl
      have d1 := (unhide HX).cell 1 rfl
      have d2 := (unhide HX).cell 2 rfl
      have d3 := (unhide HX).cell 3 rfl
      have d4 := (unhide HX).cell 4 rfl
      have e0 := (unhide HR).cell 0 rfl
      have e1 := (unhide HR).cell 1 rfl
      have e2 := (unhide HR).cell 2 rfl
      go_wp2_with fail
      go_ret
      exact ⟨ret_bool (unhide HU).symm, unhide HB⟩
    have hz : (!decide (x3 = 0)) = true := by rw [decide_eq_false h3]; rfl
    rcases hu : decide (1 ≤ x3 ∧ x3 ≤ 5) with _ | _
    case false =>
      have HU : Hid (_ = false) := (unhide HN).trans (dw_1 h3 hu)
      clear h3
      have d0 := (unhide HX).cell 0 rfl
      have d1 := (unhide HX).cell 1 rfl
      have d2 := (unhide HX).cell 2 rfl
      have d3 := (unhide HX).cell 3 rfl
      have d4 := (unhide HX).cell 4 rfl
      have e0 := (unhide HR).cell 0 rfl
      have e1 := (unhide HR).cell 1 rfl
      have e2 := (unhide HR).cell 2 rfl
      go_enter Try.func172, Try.ntmps172
      go_wp2_with fail
      generalize (w.alloc (.cells #[.int .i64 x0, .int .i64 x1, .int .i64 x2, .int .i64 x3, .int .i64 x4] 42)).alloc (.cells #[.int .i64 r0, .int .i64 r1, .bool false] 112) = W1 at *
      (try clear d0 d1 d2 d3 d4 e0 e1 e2)
      refine wp_region_held_drew (S := fun w' => Below W1.heap.size W1 w') (by kernel_rfl) (below_drew W1) (fun hHeld => ?_)
      refine tk 0 (some 7) (v := ?_) ?_ ?_
      rotate_left
      · intro w hSw
        have hT := (unhide HX).below hSw; have d0 := hT.cell 0 rfl; have d1 := hT.cell 1 rfl; have d2 := hT.cell 2 rfl; have d3 := hT.cell 3 rfl; have d4 := hT.cell 4 rfl; clear hT; have hT := (unhide HR).below hSw; have e0 := hT.cell 0 rfl; have e1 := hT.cell 1 rfl; have e2 := hT.cell 2 rfl; clear hT
        first | (go_simp; done) | (go_simp; with_reducible rfl) | with_reducible rfl | rfl
      try simp only [Act.put, List.setIfInBounds_toArray, List.set_cons_zero, List.set_cons_succ]
      refine tk 1 (some 8) (v := ?_) ?_ ?_
      rotate_left
      · intro w hSw
        have hT := (unhide HX).below hSw; have d0 := hT.cell 0 rfl; have d1 := hT.cell 1 rfl; have d2 := hT.cell 2 rfl; have d3 := hT.cell 3 rfl; have d4 := hT.cell 4 rfl; clear hT; have hT := (unhide HR).below hSw; have e0 := hT.cell 0 rfl; have e1 := hT.cell 1 rfl; have e2 := hT.cell 2 rfl; clear hT
        first | (go_simp; done) | (go_simp; with_reducible rfl) | with_reducible rfl | rfl
      try simp only [Act.put, List.setIfInBounds_toArray, List.set_cons_zero, List.set_cons_succ]
      refine tk 2 (some 9) (v := ?_) ?_ ?_
      rotate_left
      · intro w hSw
        have hT := (unhide HX).below hSw; have d0 := hT.cell 0 rfl; have d1 := hT.cell 1 rfl; have d2 := hT.cell 2 rfl; have d3 := hT.cell 3 rfl; have d4 := hT.cell 4 rfl; clear hT; have hT := (unhide HR).below hSw; have e0 := hT.cell 0 rfl; have e1 := hT.cell 1 rfl; have e2 := hT.cell 2 rfl; clear hT
        first | (go_simp; done) | (go_simp; with_reducible rfl) | with_reducible rfl | rfl
      try simp only [Act.put, List.setIfInBounds_toArray, List.set_cons_zero, List.set_cons_succ]
      refine tk 3 (some 10) (v := ?_) ?_ ?_
      rotate_left
      · intro w hSw
        have hT := (unhide HX).below hSw; have d0 := hT.cell 0 rfl; have d1 := hT.cell 1 rfl; have d2 := hT.cell 2 rfl; have d3 := hT.cell 3 rfl; have d4 := hT.cell 4 rfl; clear hT; have hT := (unhide HR).below hSw; have e0 := hT.cell 0 rfl; have e1 := hT.cell 1 rfl; have e2 := hT.cell 2 rfl; clear hT
        first | (go_simp; done) | (go_simp; with_reducible rfl) | with_reducible rfl | rfl
      try simp only [Act.put, List.setIfInBounds_toArray, List.set_cons_zero, List.set_cons_succ]
      refine tk 4 (some 11) (v := ?_) ?_ ?_
      rotate_left
      · intro w hSw
        first | (go_simp; done) | (go_simp; with_reducible rfl) | with_reducible rfl | rfl
      try simp only [Act.put, List.setIfInBounds_toArray, List.set_cons_zero, List.set_cons_succ]
      refine tk 5 (some 12) (v := ?_) ?_ ?_
      rotate_left
      · intro w hSw
        first | (go_simp; done) | (go_simp; with_reducible rfl) | with_reducible rfl | rfl
      try simp only [Act.put, List.setIfInBounds_toArray, List.set_cons_zero, List.set_cons_succ]
      refine tk 6 (some 13) (v := ?_) ?_ ?_
      rotate_left
      · intro w hSw
        have hT := (unhide HX).below hSw; have d0 := hT.cell 0 rfl; have d1 := hT.cell 1 rfl; have d2 := hT.cell 2 rfl; have d3 := hT.cell 3 rfl; have d4 := hT.cell 4 rfl; clear hT; have hT := (unhide HR).below hSw; have e0 := hT.cell 0 rfl; have e1 := hT.cell 1 rfl; have e2 := hT.cell 2 rfl; clear hT
        first | (go_simp; done) | (go_simp; with_reducible rfl) | with_reducible rfl | rfl
      try simp only [Act.put, List.setIfInBounds_toArray, List.set_cons_zero, List.set_cons_succ]
      refine tk 7 (some 14) (v := ?_) ?_ ?_
      rotate_left
      · intro w hSw
        have hT := (unhide HX).below hSw; have d0 := hT.cell 0 rfl; have d1 := hT.cell 1 rfl; have d2 := hT.cell 2 rfl; have d3 := hT.cell 3 rfl; have d4 := hT.cell 4 rfl; clear hT; have hT := (unhide HR).below hSw; have e0 := hT.cell 0 rfl; have e1 := hT.cell 1 rfl; have e2 := hT.cell 2 rfl; clear hT
        first | (go_simp; done) | (go_simp; with_reducible rfl) | with_reducible rfl | rfl
      try simp only [Act.put, List.setIfInBounds_toArray, List.set_cons_zero, List.set_cons_succ]
      refine tk 8 (some 15) (v := ?_) ?_ ?_
      rotate_left
      · intro w hSw
        first | (go_simp; done) | (go_simp; with_reducible rfl) | with_reducible rfl | rfl
      try simp only [Act.put, List.setIfInBounds_toArray, List.set_cons_zero, List.set_cons_succ]
      refine tk 9 (some 16) (v := ?_) ?_ ?_
      rotate_left
      · intro w hSw
        first | (go_simp; done) | (go_simp; with_reducible rfl) | with_reducible rfl | rfl
      try simp only [Act.put, List.setIfInBounds_toArray, List.set_cons_zero, List.set_cons_succ]
      refine tk 10 (some 17) (v := ?_) ?_ ?_
      rotate_left
      · intro w hSw
        have hT := (unhide HX).below hSw; have d0 := hT.cell 0 rfl; have d1 := hT.cell 1 rfl; have d2 := hT.cell 2 rfl; have d3 := hT.cell 3 rfl; have d4 := hT.cell 4 rfl; clear hT; have hT := (unhide HR).below hSw; have e0 := hT.cell 0 rfl; have e1 := hT.cell 1 rfl; have e2 := hT.cell 2 rfl; clear hT
        first | (go_simp; done) | (go_simp; with_reducible rfl) | with_reducible rfl | rfl
      try simp only [Act.put, List.setIfInBounds_toArray, List.set_cons_zero, List.set_cons_succ]
      refine tk 11 (some 18) (v := ?_) ?_ ?_
      rotate_left
      · intro w hSw
        have hT := (unhide HX).below hSw; have d0 := hT.cell 0 rfl; have d1 := hT.cell 1 rfl; have d2 := hT.cell 2 rfl; have d3 := hT.cell 3 rfl; have d4 := hT.cell 4 rfl; clear hT; have hT := (unhide HR).below hSw; have e0 := hT.cell 0 rfl; have e1 := hT.cell 1 rfl; have e2 := hT.cell 2 rfl; clear hT
        first | (go_simp; done) | (go_simp; with_reducible rfl) | with_reducible rfl | rfl
      try simp only [Act.put, List.setIfInBounds_toArray, List.set_cons_zero, List.set_cons_succ]
      refine tk 12 (some 19) (v := ?_) ?_ ?_
      rotate_left
      · intro w hSw
        have hT := (unhide HX).below hSw; have d0 := hT.cell 0 rfl; have d1 := hT.cell 1 rfl; have d2 := hT.cell 2 rfl; have d3 := hT.cell 3 rfl; have d4 := hT.cell 4 rfl; clear hT; have hT := (unhide HR).below hSw; have e0 := hT.cell 0 rfl; have e1 := hT.cell 1 rfl; have e2 := hT.cell 2 rfl; clear hT
        first | (go_simp; done) | (go_simp; with_reducible rfl) | with_reducible rfl | rfl
      try simp only [Act.put, List.setIfInBounds_toArray, List.set_cons_zero, List.set_cons_succ]
      refine tk 13 (some 20) (v := ?_) ?_ ?_
      rotate_left
      · intro w hSw
        have hT := (unhide HX).below hSw; have d0 := hT.cell 0 rfl; have d1 := hT.cell 1 rfl; have d2 := hT.cell 2 rfl; have d3 := hT.cell 3 rfl; have d4 := hT.cell 4 rfl; clear hT; have hT := (unhide HR).below hSw; have e0 := hT.cell 0 rfl; have e1 := hT.cell 1 rfl; have e2 := hT.cell 2 rfl; clear hT
        first | (go_simp; done) | (go_simp; with_reducible rfl) | with_reducible rfl | rfl
      try simp only [Act.put, List.setIfInBounds_toArray, List.set_cons_zero, List.set_cons_succ]
      have HD := below_drew W1
      generalize W1.drew = V0 at *
      refine wpAnyH_ready (rs := [14]) (by kernel_rfl) (by simp) ?_
      refine AllReadyH.cons (o := { dst := some 21, op := _, type := _, pos := _, after := _, guard := _ }) rfl (fun K hK => ?_) AllReadyH.nil
      go_simp
      go_at_call 211
      refine (c211 r1 _).mono ?_
      rintro e V1 ⟨rfl, hww⟩
      have hww := hww.symm
      subst hww
      try go_wp2_with fail
      refine hK.out _ _ HD (fun hHeld => ?_)
      clear hK K hHeld
      try simp only [Act.put, List.setIfInBounds_toArray, List.set_cons_zero, List.set_cons_succ]
      refine wpAnyH_ready (rs := [15]) (by kernel_rfl) (by simp) ?_
      refine AllReadyH.cons (o := { dst := some 22, op := _, type := _, pos := _, after := _, guard := _ }) rfl (fun K hK => ?_) AllReadyH.nil
      go_simp
      go_at_call 110
      refine (c110 x2 1 (Tm.cap r1) _).mono ?_
      rintro e V2 ⟨rfl, hww⟩
      have hww := hww.symm
      subst hww
      rw [hp]
      try go_wp2_with fail
      refine hK.out _ _ HD (fun hHeld => ?_)
      clear hK K hHeld
      try simp only [Act.put, List.setIfInBounds_toArray, List.set_cons_zero, List.set_cons_succ]
      refine tk 16 (some 23) (v := ?_) ?_ ?_
      rotate_left
      · intro w hSw
        first | (go_simp; done) | (go_simp; with_reducible rfl) | with_reducible rfl | rfl
      try simp only [Act.put, List.setIfInBounds_toArray, List.set_cons_zero, List.set_cons_succ]
      refine tk 17 (some 24) (v := ?_) ?_ ?_
      rotate_left
      · intro w hSw
        first | (go_simp; done) | (go_simp; with_reducible rfl) | with_reducible rfl | rfl
      try simp only [Act.put, List.setIfInBounds_toArray, List.set_cons_zero, List.set_cons_succ]
      refine wpAnyH_done (by kernel_rfl) ?_ _
      replace HB := hide (below_tr (unhide HB) HD)
      replace HX := hide ((unhide HX).bel HD)
      replace HR := hide ((unhide HR).bel HD)
      clear HD 
      have d0 := (unhide HX).cell 0 rfl
      have d1 := (unhide HX).cell 1 rfl
      have d2 := (unhide HX).cell 2 rfl
      have d3 := (unhide HX).cell 3 rfl
      have d4 := (unhide HX).cell 4 rfl
      have e0 := (unhide HR).cell 0 rfl
      have e1 := (unhide HR).cell 1 rfl
      have e2 := (unhide HR).cell 2 rfl
      go_wp2_with fail
      refine (c114 x0 x1 x2 x3 x4 _).mono ?_
      rintro e w1 ⟨rfl, hb⟩
      rw [hz]
      (try clear d0 d1 d2 d3 d4 e0 e1 e2)
      replace HB := hide (below_tr (unhide HB) hb)
      replace HX := hide ((unhide HX).bel hb)
      replace HR := hide ((unhide HR).bel hb)
      clear hb
      have d0 := (unhide HX).cell 0 rfl
      have d1 := (unhide HX).cell 1 rfl
      have d2 := (unhide HX).cell 2 rfl
      have d3 := (unhide HX).cell 3 rfl
      have d4 := (unhide HX).cell 4 rfl
      have e0 := (unhide HR).cell 0 rfl
      have e1 := (unhide HR).cell 1 rfl
      have e2 := (unhide HR).cell 2 rfl
      go_wp2_with fail
      refine (c132 x3 _).mono ?_
      rintro e w2 ⟨rfl, hww⟩
      have hww := hww.symm
      subst hww
      rw [hu]
      go_wp2_with fail
      go_ret
      exact ⟨ret_bool (unhide HU).symm, unhide HB⟩
    by_cases h5 : x3 = x1
    case pos =>
      have HU : Hid (_ = false) := (unhide HN).trans (dw_2 h3 h5)
      have hb5 : (x3 != x1) = false := by rw [bne_eq_false_iff_eq]; exact h5
      clear h3 h5
      have d0 := (unhide HX).cell 0 rfl
      have d1 := (unhide HX).cell 1 rfl
      have d2 := (unhide HX).cell 2 rfl
      have d3 := (unhide HX).cell 3 rfl
      have d4 := (unhide HX).cell 4 rfl
      have e0 := (unhide HR).cell 0 rfl
      have e1 := (unhide HR).cell 1 rfl
      have e2 := (unhide HR).cell 2 rfl
      go_enter Try.func172, Try.ntmps172
      go_wp2_with fail
      generalize (w.alloc (.cells #[.int .i64 x0, .int .i64 x1, .int .i64 x2, .int .i64 x3, .int .i64 x4] 42)).alloc (.cells #[.int .i64 r0, .int .i64 r1, .bool false] 112) = W1 at *
      (try clear d0 d1 d2 d3 d4 e0 e1 e2)
      refine wp_region_held_drew (S := fun w' => Below W1.heap.size W1 w') (by kernel_rfl) (below_drew W1) (fun hHeld => ?_)
      refine tk 0 (some 7) (v := ?_) ?_ ?_
      rotate_left
      · intro w hSw
        have hT := (unhide HX).below hSw; have d0 := hT.cell 0 rfl; have d1 := hT.cell 1 rfl; have d2 := hT.cell 2 rfl; have d3 := hT.cell 3 rfl; have d4 := hT.cell 4 rfl; clear hT; have hT := (unhide HR).below hSw; have e0 := hT.cell 0 rfl; have e1 := hT.cell 1 rfl; have e2 := hT.cell 2 rfl; clear hT
        first | (go_simp; done) | (go_simp; with_reducible rfl) | with_reducible rfl | rfl
      try simp only [Act.put, List.setIfInBounds_toArray, List.set_cons_zero, List.set_cons_succ]
      refine tk 1 (some 8) (v := ?_) ?_ ?_
      rotate_left
      · intro w hSw
        have hT := (unhide HX).below hSw; have d0 := hT.cell 0 rfl; have d1 := hT.cell 1 rfl; have d2 := hT.cell 2 rfl; have d3 := hT.cell 3 rfl; have d4 := hT.cell 4 rfl; clear hT; have hT := (unhide HR).below hSw; have e0 := hT.cell 0 rfl; have e1 := hT.cell 1 rfl; have e2 := hT.cell 2 rfl; clear hT
        first | (go_simp; done) | (go_simp; with_reducible rfl) | with_reducible rfl | rfl
      try simp only [Act.put, List.setIfInBounds_toArray, List.set_cons_zero, List.set_cons_succ]
      refine tk 2 (some 9) (v := ?_) ?_ ?_
      rotate_left
      · intro w hSw
        have hT := (unhide HX).below hSw; have d0 := hT.cell 0 rfl; have d1 := hT.cell 1 rfl; have d2 := hT.cell 2 rfl; have d3 := hT.cell 3 rfl; have d4 := hT.cell 4 rfl; clear hT; have hT := (unhide HR).below hSw; have e0 := hT.cell 0 rfl; have e1 := hT.cell 1 rfl; have e2 := hT.cell 2 rfl; clear hT
        first | (go_simp; done) | (go_simp; with_reducible rfl) | with_reducible rfl | rfl
      try simp only [Act.put, List.setIfInBounds_toArray, List.set_cons_zero, List.set_cons_succ]
      refine tk 3 (some 10) (v := ?_) ?_ ?_
      rotate_left
      · intro w hSw
        have hT := (unhide HX).below hSw; have d0 := hT.cell 0 rfl; have d1 := hT.cell 1 rfl; have d2 := hT.cell 2 rfl; have d3 := hT.cell 3 rfl; have d4 := hT.cell 4 rfl; clear hT; have hT := (unhide HR).below hSw; have e0 := hT.cell 0 rfl; have e1 := hT.cell 1 rfl; have e2 := hT.cell 2 rfl; clear hT
        first | (go_simp; done) | (go_simp; with_reducible rfl) | with_reducible rfl | rfl
      try simp only [Act.put, List.setIfInBounds_toArray, List.set_cons_zero, List.set_cons_succ]
      refine tk 4 (some 11) (v := ?_) ?_ ?_
      rotate_left
      · intro w hSw
        first | (go_simp; done) | (go_simp; with_reducible rfl) | with_reducible rfl | rfl
      try simp only [Act.put, List.setIfInBounds_toArray, List.set_cons_zero, List.set_cons_succ]
      refine tk 5 (some 12) (v := ?_) ?_ ?_
      rotate_left
      · intro w hSw
        first | (go_simp; done) | (go_simp; with_reducible rfl) | with_reducible rfl | rfl
      try simp only [Act.put, List.setIfInBounds_toArray, List.set_cons_zero, List.set_cons_succ]
      refine tk 6 (some 13) (v := ?_) ?_ ?_
      rotate_left
      · intro w hSw
        have hT := (unhide HX).below hSw; have d0 := hT.cell 0 rfl; have d1 := hT.cell 1 rfl; have d2 := hT.cell 2 rfl; have d3 := hT.cell 3 rfl; have d4 := hT.cell 4 rfl; clear hT; have hT := (unhide HR).below hSw; have e0 := hT.cell 0 rfl; have e1 := hT.cell 1 rfl; have e2 := hT.cell 2 rfl; clear hT
        first | (go_simp; done) | (go_simp; with_reducible rfl) | with_reducible rfl | rfl
      try simp only [Act.put, List.setIfInBounds_toArray, List.set_cons_zero, List.set_cons_succ]
      refine tk 7 (some 14) (v := ?_) ?_ ?_
      rotate_left
      · intro w hSw
        have hT := (unhide HX).below hSw; have d0 := hT.cell 0 rfl; have d1 := hT.cell 1 rfl; have d2 := hT.cell 2 rfl; have d3 := hT.cell 3 rfl; have d4 := hT.cell 4 rfl; clear hT; have hT := (unhide HR).below hSw; have e0 := hT.cell 0 rfl; have e1 := hT.cell 1 rfl; have e2 := hT.cell 2 rfl; clear hT
        first | (go_simp; done) | (go_simp; with_reducible rfl) | with_reducible rfl | rfl
      try simp only [Act.put, List.setIfInBounds_toArray, List.set_cons_zero, List.set_cons_succ]
      refine tk 8 (some 15) (v := ?_) ?_ ?_
      rotate_left
      · intro w hSw
        first | (go_simp; done) | (go_simp; with_reducible rfl) | with_reducible rfl | rfl
      try simp only [Act.put, List.setIfInBounds_toArray, List.set_cons_zero, List.set_cons_succ]
      refine tk 9 (some 16) (v := ?_) ?_ ?_
      rotate_left
      · intro w hSw
        first | (go_simp; done) | (go_simp; with_reducible rfl) | with_reducible rfl | rfl
      try simp only [Act.put, List.setIfInBounds_toArray, List.set_cons_zero, List.set_cons_succ]
      refine tk 10 (some 17) (v := ?_) ?_ ?_
      rotate_left
      · intro w hSw
        have hT := (unhide HX).below hSw; have d0 := hT.cell 0 rfl; have d1 := hT.cell 1 rfl; have d2 := hT.cell 2 rfl; have d3 := hT.cell 3 rfl; have d4 := hT.cell 4 rfl; clear hT; have hT := (unhide HR).below hSw; have e0 := hT.cell 0 rfl; have e1 := hT.cell 1 rfl; have e2 := hT.cell 2 rfl; clear hT
        first | (go_simp; done) | (go_simp; with_reducible rfl) | with_reducible rfl | rfl
      try simp only [Act.put, List.setIfInBounds_toArray, List.set_cons_zero, List.set_cons_succ]
      refine tk 11 (some 18) (v := ?_) ?_ ?_
      rotate_left
      · intro w hSw
        have hT := (unhide HX).below hSw; have d0 := hT.cell 0 rfl; have d1 := hT.cell 1 rfl; have d2 := hT.cell 2 rfl; have d3 := hT.cell 3 rfl; have d4 := hT.cell 4 rfl; clear hT; have hT := (unhide HR).below hSw; have e0 := hT.cell 0 rfl; have e1 := hT.cell 1 rfl; have e2 := hT.cell 2 rfl; clear hT
        first | (go_simp; done) | (go_simp; with_reducible rfl) | with_reducible rfl | rfl
      try simp only [Act.put, List.setIfInBounds_toArray, List.set_cons_zero, List.set_cons_succ]
      refine tk 12 (some 19) (v := ?_) ?_ ?_
      rotate_left
      · intro w hSw
        have hT := (unhide HX).below hSw; have d0 := hT.cell 0 rfl; have d1 := hT.cell 1 rfl; have d2 := hT.cell 2 rfl; have d3 := hT.cell 3 rfl; have d4 := hT.cell 4 rfl; clear hT; have hT := (unhide HR).below hSw; have e0 := hT.cell 0 rfl; have e1 := hT.cell 1 rfl; have e2 := hT.cell 2 rfl; clear hT
        first | (go_simp; done) | (go_simp; with_reducible rfl) | with_reducible rfl | rfl
      try simp only [Act.put, List.setIfInBounds_toArray, List.set_cons_zero, List.set_cons_succ]
      refine tk 13 (some 20) (v := ?_) ?_ ?_
      rotate_left
      · intro w hSw
        have hT := (unhide HX).below hSw; have d0 := hT.cell 0 rfl; have d1 := hT.cell 1 rfl; have d2 := hT.cell 2 rfl; have d3 := hT.cell 3 rfl; have d4 := hT.cell 4 rfl; clear hT; have hT := (unhide HR).below hSw; have e0 := hT.cell 0 rfl; have e1 := hT.cell 1 rfl; have e2 := hT.cell 2 rfl; clear hT
        first | (go_simp; done) | (go_simp; with_reducible rfl) | with_reducible rfl | rfl
      try simp only [Act.put, List.setIfInBounds_toArray, List.set_cons_zero, List.set_cons_succ]
      have HD := below_drew W1
      generalize W1.drew = V0 at *
      refine wpAnyH_ready (rs := [14]) (by kernel_rfl) (by simp) ?_
      refine AllReadyH.cons (o := { dst := some 21, op := _, type := _, pos := _, after := _, guard := _ }) rfl (fun K hK => ?_) AllReadyH.nil
      go_simp
      go_at_call 211
      refine (c211 r1 _).mono ?_
      rintro e V1 ⟨rfl, hww⟩
      have hww := hww.symm
      subst hww
      try go_wp2_with fail
      refine hK.out _ _ HD (fun hHeld => ?_)
      clear hK K hHeld
      try simp only [Act.put, List.setIfInBounds_toArray, List.set_cons_zero, List.set_cons_succ]
      refine wpAnyH_ready (rs := [15]) (by kernel_rfl) (by simp) ?_
      refine AllReadyH.cons (o := { dst := some 22, op := _, type := _, pos := _, after := _, guard := _ }) rfl (fun K hK => ?_) AllReadyH.nil
      go_simp
      go_at_call 110
      refine (c110 x2 1 (Tm.cap r1) _).mono ?_
      rintro e V2 ⟨rfl, hww⟩
      have hww := hww.symm
      subst hww
      rw [hp]
      try go_wp2_with fail
      refine hK.out _ _ HD (fun hHeld => ?_)
      clear hK K hHeld
      try simp only [Act.put, List.setIfInBounds_toArray, List.set_cons_zero, List.set_cons_succ]
      refine tk 16 (some 23) (v := ?_) ?_ ?_
      rotate_left
      · intro w hSw
        first | (go_simp; done) | (go_simp; with_reducible rfl) | with_reducible rfl | rfl
      try simp only [Act.put, List.setIfInBounds_toArray, List.set_cons_zero, List.set_cons_succ]
      refine tk 17 (some 24) (v := ?_) ?_ ?_
      rotate_left
      · intro w hSw
        first | (go_simp; done) | (go_simp; with_reducible rfl) | with_reducible rfl | rfl
      try simp only [Act.put, List.setIfInBounds_toArray, List.set_cons_zero, List.set_cons_succ]
      refine wpAnyH_done (by kernel_rfl) ?_ _
      replace HB := hide (below_tr (unhide HB) HD)
      replace HX := hide ((unhide HX).bel HD)
      replace HR := hide ((unhide HR).bel HD)
      clear HD 
      have d0 := (unhide HX).cell 0 rfl
      have d1 := (unhide HX).cell 1 rfl
      have d2 := (unhide HX).cell 2 rfl
      have d3 := (unhide HX).cell 3 rfl
      have d4 := (unhide HX).cell 4 rfl
      have e0 := (unhide HR).cell 0 rfl
      have e1 := (unhide HR).cell 1 rfl
      have e2 := (unhide HR).cell 2 rfl
      go_wp2_with fail
      refine (c114 x0 x1 x2 x3 x4 _).mono ?_
      rintro e w1 ⟨rfl, hb⟩
      rw [hz]
      (try clear d0 d1 d2 d3 d4 e0 e1 e2)
      replace HB := hide (below_tr (unhide HB) hb)
      replace HX := hide ((unhide HX).bel hb)
      replace HR := hide ((unhide HR).bel hb)
      clear hb
      have d0 := (unhide HX).cell 0 rfl
      have d1 := (unhide HX).cell 1 rfl
      have d2 := (unhide HX).cell 2 rfl
      have d3 := (unhide HX).cell 3 rfl
      have d4 := (unhide HX).cell 4 rfl
      have e0 := (unhide HR).cell 0 rfl
      have e1 := (unhide HR).cell 1 rfl
      have e2 := (unhide HR).cell 2 rfl
      go_wp2_with fail
      refine (c132 x3 _).mono ?_
      rintro e w2 ⟨rfl, hww⟩
      have hww := hww.symm
      subst hww
      rw [hu]
      go_wp2_with fail
      go_ret
      exact ⟨ret_bool (unhide HU).symm, unhide HB⟩
    obtain ⟨z, HZ⟩ : ∃ z, Hid (decide (c ≤ x4 ∧ x4 ≤ c + 5) = z) := ⟨_, rfl⟩
    have HU : Hid (_ = z) := ((unhide HN).trans (dw_3 h3 hu h5)).trans (unhide HZ)
    have hb5 : (x3 != x1) = true := by rw [bne_iff_ne]; exact h5
    have hwr : IntKind.i64.wrap (c + 5) = c + 5 := wrap_sub (by omega) (by omega)
    clear h3 h5
    have d0 := (unhide HX).cell 0 rfl
    have d1 := (unhide HX).cell 1 rfl
    have d2 := (unhide HX).cell 2 rfl
    have d3 := (unhide HX).cell 3 rfl
    have d4 := (unhide HX).cell 4 rfl
    have e0 := (unhide HR).cell 0 rfl
    have e1 := (unhide HR).cell 1 rfl
    have e2 := (unhide HR).cell 2 rfl
    go_enter Try.func172, Try.ntmps172
    go_wp2_with fail
    generalize (w.alloc (.cells #[.int .i64 x0, .int .i64 x1, .int .i64 x2, .int .i64 x3, .int .i64 x4] 42)).alloc (.cells #[.int .i64 r0, .int .i64 r1, .bool false] 112) = W1 at *
    (try clear d0 d1 d2 d3 d4 e0 e1 e2)
    refine wp_region_held_drew (S := fun w' => Below W1.heap.size W1 w') (by kernel_rfl) (below_drew W1) (fun hHeld => ?_)
    refine tk 0 (some 7) (v := ?_) ?_ ?_
    rotate_left
    · intro w hSw
      have hT := (unhide HX).below hSw; have d0 := hT.cell 0 rfl; have d1 := hT.cell 1 rfl; have d2 := hT.cell 2 rfl; have d3 := hT.cell 3 rfl; have d4 := hT.cell 4 rfl; clear hT; have hT := (unhide HR).below hSw; have e0 := hT.cell 0 rfl; have e1 := hT.cell 1 rfl; have e2 := hT.cell 2 rfl; clear hT
      first | (go_simp; done) | (go_simp; with_reducible rfl) | with_reducible rfl | rfl
    try simp only [Act.put, List.setIfInBounds_toArray, List.set_cons_zero, List.set_cons_succ]
    refine tk 1 (some 8) (v := ?_) ?_ ?_
    rotate_left
    · intro w hSw
      have hT := (unhide HX).below hSw; have d0 := hT.cell 0 rfl; have d1 := hT.cell 1 rfl; have d2 := hT.cell 2 rfl; have d3 := hT.cell 3 rfl; have d4 := hT.cell 4 rfl; clear hT; have hT := (unhide HR).below hSw; have e0 := hT.cell 0 rfl; have e1 := hT.cell 1 rfl; have e2 := hT.cell 2 rfl; clear hT
      first | (go_simp; done) | (go_simp; with_reducible rfl) | with_reducible rfl | rfl
    try simp only [Act.put, List.setIfInBounds_toArray, List.set_cons_zero, List.set_cons_succ]
    refine tk 2 (some 9) (v := ?_) ?_ ?_
    rotate_left
    · intro w hSw
      have hT := (unhide HX).below hSw; have d0 := hT.cell 0 rfl; have d1 := hT.cell 1 rfl; have d2 := hT.cell 2 rfl; have d3 := hT.cell 3 rfl; have d4 := hT.cell 4 rfl; clear hT; have hT := (unhide HR).below hSw; have e0 := hT.cell 0 rfl; have e1 := hT.cell 1 rfl; have e2 := hT.cell 2 rfl; clear hT
      first | (go_simp; done) | (go_simp; with_reducible rfl) | with_reducible rfl | rfl
    try simp only [Act.put, List.setIfInBounds_toArray, List.set_cons_zero, List.set_cons_succ]
    refine tk 3 (some 10) (v := ?_) ?_ ?_
    rotate_left
    · intro w hSw
      have hT := (unhide HX).below hSw; have d0 := hT.cell 0 rfl; have d1 := hT.cell 1 rfl; have d2 := hT.cell 2 rfl; have d3 := hT.cell 3 rfl; have d4 := hT.cell 4 rfl; clear hT; have hT := (unhide HR).below hSw; have e0 := hT.cell 0 rfl; have e1 := hT.cell 1 rfl; have e2 := hT.cell 2 rfl; clear hT
      first | (go_simp; done) | (go_simp; with_reducible rfl) | with_reducible rfl | rfl
    try simp only [Act.put, List.setIfInBounds_toArray, List.set_cons_zero, List.set_cons_succ]
    refine tk 4 (some 11) (v := ?_) ?_ ?_
    rotate_left
    · intro w hSw
      first | (go_simp; done) | (go_simp; with_reducible rfl) | with_reducible rfl | rfl
    try simp only [Act.put, List.setIfInBounds_toArray, List.set_cons_zero, List.set_cons_succ]
    refine tk 5 (some 12) (v := ?_) ?_ ?_
    rotate_left
    · intro w hSw
      first | (go_simp; done) | (go_simp; with_reducible rfl) | with_reducible rfl | rfl
    try simp only [Act.put, List.setIfInBounds_toArray, List.set_cons_zero, List.set_cons_succ]
    refine tk 6 (some 13) (v := ?_) ?_ ?_
    rotate_left
    · intro w hSw
      have hT := (unhide HX).below hSw; have d0 := hT.cell 0 rfl; have d1 := hT.cell 1 rfl; have d2 := hT.cell 2 rfl; have d3 := hT.cell 3 rfl; have d4 := hT.cell 4 rfl; clear hT; have hT := (unhide HR).below hSw; have e0 := hT.cell 0 rfl; have e1 := hT.cell 1 rfl; have e2 := hT.cell 2 rfl; clear hT
      first | (go_simp; done) | (go_simp; with_reducible rfl) | with_reducible rfl | rfl
    try simp only [Act.put, List.setIfInBounds_toArray, List.set_cons_zero, List.set_cons_succ]
    refine tk 7 (some 14) (v := ?_) ?_ ?_
    rotate_left
    · intro w hSw
      have hT := (unhide HX).below hSw; have d0 := hT.cell 0 rfl; have d1 := hT.cell 1 rfl; have d2 := hT.cell 2 rfl; have d3 := hT.cell 3 rfl; have d4 := hT.cell 4 rfl; clear hT; have hT := (unhide HR).below hSw; have e0 := hT.cell 0 rfl; have e1 := hT.cell 1 rfl; have e2 := hT.cell 2 rfl; clear hT
      first | (go_simp; done) | (go_simp; with_reducible rfl) | with_reducible rfl | rfl
    try simp only [Act.put, List.setIfInBounds_toArray, List.set_cons_zero, List.set_cons_succ]
    refine tk 8 (some 15) (v := ?_) ?_ ?_
    rotate_left
    · intro w hSw
      first | (go_simp; done) | (go_simp; with_reducible rfl) | with_reducible rfl | rfl
    try simp only [Act.put, List.setIfInBounds_toArray, List.set_cons_zero, List.set_cons_succ]
    refine tk 9 (some 16) (v := ?_) ?_ ?_
    rotate_left
    · intro w hSw
      first | (go_simp; done) | (go_simp; with_reducible rfl) | with_reducible rfl | rfl
    try simp only [Act.put, List.setIfInBounds_toArray, List.set_cons_zero, List.set_cons_succ]
    refine tk 10 (some 17) (v := ?_) ?_ ?_
    rotate_left
    · intro w hSw
      have hT := (unhide HX).below hSw; have d0 := hT.cell 0 rfl; have d1 := hT.cell 1 rfl; have d2 := hT.cell 2 rfl; have d3 := hT.cell 3 rfl; have d4 := hT.cell 4 rfl; clear hT; have hT := (unhide HR).below hSw; have e0 := hT.cell 0 rfl; have e1 := hT.cell 1 rfl; have e2 := hT.cell 2 rfl; clear hT
      first | (go_simp; done) | (go_simp; with_reducible rfl) | with_reducible rfl | rfl
    try simp only [Act.put, List.setIfInBounds_toArray, List.set_cons_zero, List.set_cons_succ]
    refine tk 11 (some 18) (v := ?_) ?_ ?_
    rotate_left
    · intro w hSw
      have hT := (unhide HX).below hSw; have d0 := hT.cell 0 rfl; have d1 := hT.cell 1 rfl; have d2 := hT.cell 2 rfl; have d3 := hT.cell 3 rfl; have d4 := hT.cell 4 rfl; clear hT; have hT := (unhide HR).below hSw; have e0 := hT.cell 0 rfl; have e1 := hT.cell 1 rfl; have e2 := hT.cell 2 rfl; clear hT
      first | (go_simp; done) | (go_simp; with_reducible rfl) | with_reducible rfl | rfl
    try simp only [Act.put, List.setIfInBounds_toArray, List.set_cons_zero, List.set_cons_succ]
    refine tk 12 (some 19) (v := ?_) ?_ ?_
    rotate_left
    · intro w hSw
      have hT := (unhide HX).below hSw; have d0 := hT.cell 0 rfl; have d1 := hT.cell 1 rfl; have d2 := hT.cell 2 rfl; have d3 := hT.cell 3 rfl; have d4 := hT.cell 4 rfl; clear hT; have hT := (unhide HR).below hSw; have e0 := hT.cell 0 rfl; have e1 := hT.cell 1 rfl; have e2 := hT.cell 2 rfl; clear hT
      first | (go_simp; done) | (go_simp; with_reducible rfl) | with_reducible rfl | rfl
    try simp only [Act.put, List.setIfInBounds_toArray, List.set_cons_zero, List.set_cons_succ]
    refine tk 13 (some 20) (v := ?_) ?_ ?_
    rotate_left
    · intro w hSw
      have hT := (unhide HX).below hSw; have d0 := hT.cell 0 rfl; have d1 := hT.cell 1 rfl; have d2 := hT.cell 2 rfl; have d3 := hT.cell 3 rfl; have d4 := hT.cell 4 rfl; clear hT; have hT := (unhide HR).below hSw; have e0 := hT.cell 0 rfl; have e1 := hT.cell 1 rfl; have e2 := hT.cell 2 rfl; clear hT
      first | (go_simp; done) | (go_simp; with_reducible rfl) | with_reducible rfl | rfl
    try simp only [Act.put, List.setIfInBounds_toArray, List.set_cons_zero, List.set_cons_succ]
    have HD := below_drew W1
    generalize W1.drew = V0 at *
    refine wpAnyH_ready (rs := [14]) (by kernel_rfl) (by simp) ?_
    refine AllReadyH.cons (o := { dst := some 21, op := _, type := _, pos := _, after := _, guard := _ }) rfl (fun K hK => ?_) AllReadyH.nil
    go_simp
    go_at_call 211
    refine (c211 r1 _).mono ?_
    rintro e V1 ⟨rfl, hww⟩
    have hww := hww.symm
    subst hww
    try go_wp2_with fail
    refine hK.out _ _ HD (fun hHeld => ?_)
    clear hK K hHeld
    try simp only [Act.put, List.setIfInBounds_toArray, List.set_cons_zero, List.set_cons_succ]
    refine wpAnyH_ready (rs := [15]) (by kernel_rfl) (by simp) ?_
    refine AllReadyH.cons (o := { dst := some 22, op := _, type := _, pos := _, after := _, guard := _ }) rfl (fun K hK => ?_) AllReadyH.nil
    go_simp
    go_at_call 110
    refine (c110 x2 1 (Tm.cap r1) _).mono ?_
    rintro e V2 ⟨rfl, hww⟩
    have hww := hww.symm
    subst hww
    rw [hp]
    try go_wp2_with fail
    refine hK.out _ _ HD (fun hHeld => ?_)
    clear hK K hHeld
    try simp only [Act.put, List.setIfInBounds_toArray, List.set_cons_zero, List.set_cons_succ]
    refine tk 16 (some 23) (v := ?_) ?_ ?_
    rotate_left
    · intro w hSw
      first | (go_simp; done) | (go_simp; with_reducible rfl) | with_reducible rfl | rfl
    try simp only [Act.put, List.setIfInBounds_toArray, List.set_cons_zero, List.set_cons_succ]
    refine tk 17 (some 24) (v := ?_) ?_ ?_
    rotate_left
    · intro w hSw
      first | (go_simp; done) | (go_simp; with_reducible rfl) | with_reducible rfl | rfl
    try simp only [Act.put, List.setIfInBounds_toArray, List.set_cons_zero, List.set_cons_succ]
    refine wpAnyH_done (by kernel_rfl) ?_ _
    replace HB := hide (below_tr (unhide HB) HD)
    replace HX := hide ((unhide HX).bel HD)
    replace HR := hide ((unhide HR).bel HD)
    clear HD 
    have d0 := (unhide HX).cell 0 rfl
    have d1 := (unhide HX).cell 1 rfl
    have d2 := (unhide HX).cell 2 rfl
    have d3 := (unhide HX).cell 3 rfl
    have d4 := (unhide HX).cell 4 rfl
    have e0 := (unhide HR).cell 0 rfl
    have e1 := (unhide HR).cell 1 rfl
    have e2 := (unhide HR).cell 2 rfl
    go_wp2_with fail
    refine (c114 x0 x1 x2 x3 x4 _).mono ?_
    rintro e w1 ⟨rfl, hb⟩
    rw [hz]
    (try clear d0 d1 d2 d3 d4 e0 e1 e2)
    replace HB := hide (below_tr (unhide HB) hb)
    replace HX := hide ((unhide HX).bel hb)
    replace HR := hide ((unhide HR).bel hb)
    clear hb
    have d0 := (unhide HX).cell 0 rfl
    have d1 := (unhide HX).cell 1 rfl
    have d2 := (unhide HX).cell 2 rfl
    have d3 := (unhide HX).cell 3 rfl
    have d4 := (unhide HX).cell 4 rfl
    have e0 := (unhide HR).cell 0 rfl
    have e1 := (unhide HR).cell 1 rfl
    have e2 := (unhide HR).cell 2 rfl
    go_wp2_with fail
    refine (c132 x3 _).mono ?_
    rintro e w2 ⟨rfl, hww⟩
    have hww := hww.symm
    subst hww
    rw [hu]
    go_wp2_with fail
    refine (c110 x4 c (c + 5) _).mono ?_
    rintro e w3 ⟨rfl, hww⟩
    have hww := hww.symm
    subst hww
    rw [unhide HZ]
    go_wp2_with fail
    go_ret
    exact ⟨ret_bool (unhide HU).symm, unhide HB⟩
end Go.Proofs.Ytmlbphmbffkdnaa
