/-
  Heads: whether two are one, fork, or follow.
-/
import Derived.Test.YtmlbphmbffkdnaaHeda
namespace Go.Proofs.Ytmlbphmbffkdnaa
open Go.RowKit
set_option linter.unusedVariables false
set_option maxRecDepth 100000

theorem eqHedT (a b c a' b' c' : Int) (w : World) : (Op.equalIn 10000 61 (.agg #[.int .i64 a, .int .i64 b, .int .i64 c]) (.agg #[.int .i64 a', .int .i64 b', .int .i64 c'])).run Try.prog w = .ok (decide ((a, b, c) = (a', b', c'))) w := eqHed 9998 a b c a' b' c' w

theorem run_lookHed2 {w : World} {r clock : Nat} {a b c a' b' c' q : Int} (hb : Mp w r #[{ key := hedV a b c, val := .int .i64 1, born := 0 }] clock) (hq : q = if (a', b', c') = (a, b, c) then 1 else 0) :
    (Instr.lookup 193 (.map (some r)) (hedV a' b' c') false).run Try.prog w = .ok (.int .i64 q) w := by rw [hq]; exact run_lookHed w r clock a b c a' b' c' hb

set_option maxHeartbeats 2000000 in
theorem c144 (a b c a' b' c' : Int) (w : World) : Calls Try.prog 144 #[hedV a b c, hedV a' b' c'] w fun e w' => e = .returned (.bool (decide ((a, b, c) = (a', b', c')))) ∧ Below w.heap.size w w' := by
  have hmm := @run_makeMap Try.prog
  have HY0 := box_new (w.alloc (.cells #[.int .i64 a, .int .i64 b, .int .i64 c] 61)) [.int .i64 a', .int .i64 b', .int .i64 c'] 61 (by simp [Value.oneCell'])
  rw [show (w.alloc (.cells #[.int .i64 a, .int .i64 b, .int .i64 c] 61)).heap.size = w.heap.size + 1 by simp] at HY0
  have HY1 := hide (HY0.alloc (.map #[] 0))
  have HM0 : Hid (Mp (((w.alloc (.cells #[.int .i64 a, .int .i64 b, .int .i64 c] 61)).alloc (.cells #[.int .i64 a', .int .i64 b', .int .i64 c'] 61)).alloc (.map #[] 0)) (w.heap.size + 1 + 1) #[] 0) := by
    have := heap_alloc_last ((w.alloc (.cells #[.int .i64 a, .int .i64 b, .int .i64 c] 61)).alloc (.cells #[.int .i64 a', .int .i64 b', .int .i64 c'] 61)) (.map #[] 0)
    rw [show ((w.alloc (.cells #[.int .i64 a, .int .i64 b, .int .i64 c] 61)).alloc (.cells #[.int .i64 a', .int .i64 b', .int .i64 c'] 61)).heap.size = w.heap.size + 1 + 1 by simp] at this
    exact this
  have HB0 := hide (below_al (o := .map #[] 0) (below_al (o := .cells #[.int .i64 a', .int .i64 b', .int .i64 c'] 61) (below_a (w := w) (.cells #[.int .i64 a, .int .i64 b, .int .i64 c] 61))))
  have HG0 := hide (World.grownBy.refl (((w.alloc (.cells #[.int .i64 a, .int .i64 b, .int .i64 c] 61)).alloc (.cells #[.int .i64 a', .int .i64 b', .int .i64 c'] 61)).alloc (.map #[] 0)) (some (w.heap.size + 1 + 1)))
  clear HY0
  obtain ⟨q, HQ⟩ : ∃ q : Int, Hid (q = if (a', b', c') = (a, b, c) then 1 else 0) := ⟨_, rfl⟩
  go_enter Try.func144, Try.ntmps144
  go_wp2_with (first | (refine wpList_insert_run rfl _ _ _ 193 rfl _ _ _ rfl rfl rfl (run_insHed _ _ a b c (.int .i64 1) (unhide HM0)) ?_; generalize hgn : putMap _ _ _ _ = v1; have hs := mp_step (unhide HM0) hgn; clear hgn; have HM1 := hide hs.1; have HG1 := hide (grown_tr' (unhide HG0) hs.2); clear hs HM0 HG0; have hby := (unhide HY1).kpt (unhide HG1) (fun e => by simp only [Option.some.injEq] at e; omega); have y0 := hby.cell 0 rfl; have y1 := hby.cell 1 rfl; have y2 := hby.cell 2 rfl; clear hby) | (refine wpList_lookup_run rfl _ _ 193 false rfl _ _ rfl rfl (run_lookHed2 (unhide HM1) (unhide HQ)) ?_))
  have HB := hide (grown_below (unhide HB0) (unhide HG1) (by intro q hq; cases hq; omega))
  clear y0 y1 y2 HM1 HG1 HY1 HB0
  (try go_wp2_with fail)
  go_ret
  refine ⟨ret_bool ?_, unhide HB⟩
  have hq := unhide HQ
  by_cases h : (a, b, c) = (a', b', c')
  · rw [if_pos h.symm] at hq; subst hq; rw [decide_eq_true h]; first | rfl | simp
  · rw [if_neg (fun e => h e.symm)] at hq; subst hq; rw [decide_eq_false h]; first | rfl | simp

/-- two heads fork -/
def hedFork (a b c a' b' c' : Int) : Bool := hedOk a b c && (hedOk a' b' c' && (decide (a = a') && !decide ((a, b, c) = (a', b', c'))))
theorem fork_1 {a b c a' b' c' : Int} (h : hedOk a b c = false) : hedFork a b c a' b' c' = false := by unfold hedFork; rw [h]; rfl
theorem fork_2 {a b c a' b' c' : Int} (h : hedOk a' b' c' = false) : hedFork a b c a' b' c' = false := by unfold hedFork; rw [h]; cases hedOk a b c <;> rfl
theorem fork_3 {a b c a' b' c' : Int} (h : a ≠ a') : hedFork a b c a' b' c' = false := by unfold hedFork; rw [decide_eq_false h]; cases hedOk a b c <;> cases hedOk a' b' c' <;> rfl
theorem fork_4 {a b c a' b' c' : Int} (h1 : hedOk a b c = true) (h2 : hedOk a' b' c' = true) (h : a = a') : hedFork a b c a' b' c' = !decide ((a, b, c) = (a', b', c')) := by unfold hedFork; rw [h1, h2, decide_eq_true h]; rfl

set_option maxHeartbeats 2000000 in
theorem c74 (a b c a' b' c' : Int) (w : World) : Calls Try.prog 74 #[hedV a b c, hedV a' b' c'] w fun e w' => e = .returned (.bool (hedFork a b c a' b' c')) ∧ Below w.heap.size w w' := by
  have HX0 := hide ((box_new w [.int .i64 a, .int .i64 b, .int .i64 c] 61 (by simp [Value.oneCell'])).alloc (.cells #[.int .i64 a', .int .i64 b', .int .i64 c'] 61))
  have HY0 := box_new (w.alloc (.cells #[.int .i64 a, .int .i64 b, .int .i64 c] 61)) [.int .i64 a', .int .i64 b', .int .i64 c'] 61 (by simp [Value.oneCell'])
  rw [show (w.alloc (.cells #[.int .i64 a, .int .i64 b, .int .i64 c] 61)).heap.size = w.heap.size + 1 by simp] at HY0
  have HY0 := hide HY0
  have HB0 := hide (below_al (o := .cells #[.int .i64 a', .int .i64 b', .int .i64 c'] 61) (below_a (w := w) (.cells #[.int .i64 a, .int .i64 b, .int .i64 c] 61)))
  rcases h1 : hedOk a b c with _ | _
  · have HU := hide (fork_1 (a' := a') (b' := b') (c' := c') h1)
    go_enter Try.func74, Try.ntmps74
    go_wp2_with (go_at_call 142; refine (c142 a b c _).mono ?_; rintro e w2 ⟨rfl, hb2⟩; have HX2 := hide ((unhide HX0).below hb2); have HY2 := hide ((unhide HY0).below hb2); have HB2 := hide (below_tr (unhide HB0) hb2); clear hb2 HX0 HY0 HB0; have x0 := (unhide HX2).cell 0 rfl; have x1 := (unhide HX2).cell 1 rfl; have x2 := (unhide HX2).cell 2 rfl; have y0 := (unhide HY2).cell 0 rfl; have y1 := (unhide HY2).cell 1 rfl; have y2 := (unhide HY2).cell 2 rfl)
    go_ret
    exact ⟨ret_bool (unhide HU).symm, unhide HB2⟩
  rcases h2 : hedOk a' b' c' with _ | _
  · have HU := hide (fork_2 (a := a) (b := b) (c := c) h2)
    go_enter Try.func74, Try.ntmps74
    go_wp2_with (first | (go_at_call 142; clear x0 x1 x2 y0 y1 y2; refine (c142 a' b' c' _).mono ?_; rintro e w3 ⟨rfl, hb3⟩; have HX3 := hide ((unhide HX2).below hb3); have HY3 := hide ((unhide HY2).below hb3); have HB3 := hide (below_tr (unhide HB2) hb3); clear hb3 HX2 HY2 HB2; have x0 := (unhide HX3).cell 0 rfl; have x1 := (unhide HX3).cell 1 rfl; have x2 := (unhide HX3).cell 2 rfl; have y0 := (unhide HY3).cell 0 rfl; have y1 := (unhide HY3).cell 1 rfl; have y2 := (unhide HY3).cell 2 rfl) | (go_at_call 142; refine (c142 a b c _).mono ?_; rintro e w2 ⟨rfl, hb2⟩; have HX2 := hide ((unhide HX0).below hb2); have HY2 := hide ((unhide HY0).below hb2); have HB2 := hide (below_tr (unhide HB0) hb2); clear hb2 HX0 HY0 HB0; have x0 := (unhide HX2).cell 0 rfl; have x1 := (unhide HX2).cell 1 rfl; have x2 := (unhide HX2).cell 2 rfl; have y0 := (unhide HY2).cell 0 rfl; have y1 := (unhide HY2).cell 1 rfl; have y2 := (unhide HY2).cell 2 rfl))
    go_ret
    exact ⟨ret_bool (unhide HU).symm, unhide HB3⟩
  by_cases h3 : a = a'
  · have HU := hide (fork_4 h1 h2 h3)
    have d3 : (a == a') = true := by rw [beq_iff_eq]; exact h3
    clear h3
    obtain ⟨q, HQ⟩ : ∃ q : Bool, Hid (decide ((a, b, c) = (a', b', c')) = q) := ⟨_, rfl⟩
    go_enter Try.func74, Try.ntmps74
    go_wp2_with (first | (go_at_call 142; clear x0 x1 x2 y0 y1 y2; refine (c142 a' b' c' _).mono ?_; rintro e w3 ⟨rfl, hb3⟩; have HX3 := hide ((unhide HX2).below hb3); have HY3 := hide ((unhide HY2).below hb3); have HB3 := hide (below_tr (unhide HB2) hb3); clear hb3 HX2 HY2 HB2; have x0 := (unhide HX3).cell 0 rfl; have x1 := (unhide HX3).cell 1 rfl; have x2 := (unhide HX3).cell 2 rfl; have y0 := (unhide HY3).cell 0 rfl; have y1 := (unhide HY3).cell 1 rfl; have y2 := (unhide HY3).cell 2 rfl) | (go_at_call 142; refine (c142 a b c _).mono ?_; rintro e w2 ⟨rfl, hb2⟩; have HX2 := hide ((unhide HX0).below hb2); have HY2 := hide ((unhide HY0).below hb2); have HB2 := hide (below_tr (unhide HB0) hb2); clear hb2 HX0 HY0 HB0; have x0 := (unhide HX2).cell 0 rfl; have x1 := (unhide HX2).cell 1 rfl; have x2 := (unhide HX2).cell 2 rfl; have y0 := (unhide HY2).cell 0 rfl; have y1 := (unhide HY2).cell 1 rfl; have y2 := (unhide HY2).cell 2 rfl) | (go_at_call 144; refine (c144 a b c a' b' c' _).mono ?_; rintro e w4 ⟨rfl, hb4⟩; have HB4 := hide (below_tr (unhide HB3) hb4); clear hb4 HX3 HY3 HB3 x0 x1 x2 y0 y1 y2))
    go_ret
    exact ⟨ret_bool (by rw [unhide HU]; first | rfl | simp), unhide HB4⟩
  · have HU := hide (fork_3 (b := b) (c := c) (b' := b') (c' := c') h3)
    have d3 : (a == a') = false := by rw [beq_eq_false_iff_ne]; exact h3
    clear h3
    go_enter Try.func74, Try.ntmps74
    go_wp2_with (first | (go_at_call 142; clear x0 x1 x2 y0 y1 y2; refine (c142 a' b' c' _).mono ?_; rintro e w3 ⟨rfl, hb3⟩; have HX3 := hide ((unhide HX2).below hb3); have HY3 := hide ((unhide HY2).below hb3); have HB3 := hide (below_tr (unhide HB2) hb3); clear hb3 HX2 HY2 HB2; have x0 := (unhide HX3).cell 0 rfl; have x1 := (unhide HX3).cell 1 rfl; have x2 := (unhide HX3).cell 2 rfl; have y0 := (unhide HY3).cell 0 rfl; have y1 := (unhide HY3).cell 1 rfl; have y2 := (unhide HY3).cell 2 rfl) | (go_at_call 142; refine (c142 a b c _).mono ?_; rintro e w2 ⟨rfl, hb2⟩; have HX2 := hide ((unhide HX0).below hb2); have HY2 := hide ((unhide HY0).below hb2); have HB2 := hide (below_tr (unhide HB0) hb2); clear hb2 HX0 HY0 HB0; have x0 := (unhide HX2).cell 0 rfl; have x1 := (unhide HX2).cell 1 rfl; have x2 := (unhide HX2).cell 2 rfl; have y0 := (unhide HY2).cell 0 rfl; have y1 := (unhide HY2).cell 1 rfl; have y2 := (unhide HY2).cell 2 rfl))
    go_ret
    exact ⟨ret_bool (unhide HU).symm, unhide HB3⟩

set_option maxHeartbeats 2000000 in
theorem c157 (a b c a' b' c' : Int) (w : World) : Calls Try.prog 157 #[hedV a b c, hedV a' b' c'] w fun e w' => e = .returned (.bool (hedFork a b c a' b' c')) ∧ Below w.heap.size w w' := by
  have HX0 := hide ((box_new w [.int .i64 a, .int .i64 b, .int .i64 c] 61 (by simp [Value.oneCell'])).alloc (.cells #[.int .i64 a', .int .i64 b', .int .i64 c'] 61))
  have HY0 := box_new (w.alloc (.cells #[.int .i64 a, .int .i64 b, .int .i64 c] 61)) [.int .i64 a', .int .i64 b', .int .i64 c'] 61 (by simp [Value.oneCell'])
  rw [show (w.alloc (.cells #[.int .i64 a, .int .i64 b, .int .i64 c] 61)).heap.size = w.heap.size + 1 by simp] at HY0
  have HY0 := hide HY0
  have HB0 := hide (below_al (o := .cells #[.int .i64 a', .int .i64 b', .int .i64 c'] 61) (below_a (w := w) (.cells #[.int .i64 a, .int .i64 b, .int .i64 c] 61)))
  rcases h1 : hedOk a b c with _ | _
  · have HU := hide (fork_1 (a' := a') (b' := b') (c' := c') h1)
    go_enter Try.func157, Try.ntmps157
    go_wp2_with (go_at_call 73; refine (c73 a b c _).mono ?_; rintro e w2 ⟨rfl, hb2⟩; have HX2 := hide ((unhide HX0).below hb2); have HY2 := hide ((unhide HY0).below hb2); have HB2 := hide (below_tr (unhide HB0) hb2); clear hb2 HX0 HY0 HB0; have x0 := (unhide HX2).cell 0 rfl; have x1 := (unhide HX2).cell 1 rfl; have x2 := (unhide HX2).cell 2 rfl; have y0 := (unhide HY2).cell 0 rfl; have y1 := (unhide HY2).cell 1 rfl; have y2 := (unhide HY2).cell 2 rfl)
    go_ret
    exact ⟨ret_bool (unhide HU).symm, unhide HB2⟩
  rcases h2 : hedOk a' b' c' with _ | _
  · have HU := hide (fork_2 (a := a) (b := b) (c := c) h2)
    go_enter Try.func157, Try.ntmps157
    go_wp2_with (first | (go_at_call 73; clear x0 x1 x2 y0 y1 y2; refine (c73 a' b' c' _).mono ?_; rintro e w3 ⟨rfl, hb3⟩; have HX3 := hide ((unhide HX2).below hb3); have HY3 := hide ((unhide HY2).below hb3); have HB3 := hide (below_tr (unhide HB2) hb3); clear hb3 HX2 HY2 HB2; have x0 := (unhide HX3).cell 0 rfl; have x1 := (unhide HX3).cell 1 rfl; have x2 := (unhide HX3).cell 2 rfl; have y0 := (unhide HY3).cell 0 rfl; have y1 := (unhide HY3).cell 1 rfl; have y2 := (unhide HY3).cell 2 rfl) | (go_at_call 73; refine (c73 a b c _).mono ?_; rintro e w2 ⟨rfl, hb2⟩; have HX2 := hide ((unhide HX0).below hb2); have HY2 := hide ((unhide HY0).below hb2); have HB2 := hide (below_tr (unhide HB0) hb2); clear hb2 HX0 HY0 HB0; have x0 := (unhide HX2).cell 0 rfl; have x1 := (unhide HX2).cell 1 rfl; have x2 := (unhide HX2).cell 2 rfl; have y0 := (unhide HY2).cell 0 rfl; have y1 := (unhide HY2).cell 1 rfl; have y2 := (unhide HY2).cell 2 rfl))
    go_ret
    exact ⟨ret_bool (unhide HU).symm, unhide HB3⟩
  by_cases h3 : a = a'
  · have HU := hide (fork_4 h1 h2 h3)
    have d3 : (a == a') = true := by rw [beq_iff_eq]; exact h3
    clear h3
    have he := eqHedT
    have hg : Try.prog.eqGuardType Try.prog.depth 61 = false := by kernel_rfl
    obtain ⟨q, HQ⟩ : ∃ q : Bool, Hid (decide ((a, b, c) = (a', b', c')) = q) := ⟨_, rfl⟩
    go_enter Try.func157, Try.ntmps157
    go_wp2_with (first | (go_at_call 73; clear x0 x1 x2 y0 y1 y2; refine (c73 a' b' c' _).mono ?_; rintro e w3 ⟨rfl, hb3⟩; have HX3 := hide ((unhide HX2).below hb3); have HY3 := hide ((unhide HY2).below hb3); have HB3 := hide (below_tr (unhide HB2) hb3); clear hb3 HX2 HY2 HB2; have x0 := (unhide HX3).cell 0 rfl; have x1 := (unhide HX3).cell 1 rfl; have x2 := (unhide HX3).cell 2 rfl; have y0 := (unhide HY3).cell 0 rfl; have y1 := (unhide HY3).cell 1 rfl; have y2 := (unhide HY3).cell 2 rfl) | (go_at_call 73; refine (c73 a b c _).mono ?_; rintro e w2 ⟨rfl, hb2⟩; have HX2 := hide ((unhide HX0).below hb2); have HY2 := hide ((unhide HY0).below hb2); have HB2 := hide (below_tr (unhide HB0) hb2); clear hb2 HX0 HY0 HB0; have x0 := (unhide HX2).cell 0 rfl; have x1 := (unhide HX2).cell 1 rfl; have x2 := (unhide HX2).cell 2 rfl; have y0 := (unhide HY2).cell 0 rfl; have y1 := (unhide HY2).cell 1 rfl; have y2 := (unhide HY2).cell 2 rfl))
    go_ret
    exact ⟨ret_bool (by rw [unhide HU]; first | rfl | simp), unhide HB3⟩
  · have HU := hide (fork_3 (b := b) (c := c) (b' := b') (c' := c') h3)
    have d3 : (a == a') = false := by rw [beq_eq_false_iff_ne]; exact h3
    clear h3
    go_enter Try.func157, Try.ntmps157
    go_wp2_with (first | (go_at_call 73; clear x0 x1 x2 y0 y1 y2; refine (c73 a' b' c' _).mono ?_; rintro e w3 ⟨rfl, hb3⟩; have HX3 := hide ((unhide HX2).below hb3); have HY3 := hide ((unhide HY2).below hb3); have HB3 := hide (below_tr (unhide HB2) hb3); clear hb3 HX2 HY2 HB2; have x0 := (unhide HX3).cell 0 rfl; have x1 := (unhide HX3).cell 1 rfl; have x2 := (unhide HX3).cell 2 rfl; have y0 := (unhide HY3).cell 0 rfl; have y1 := (unhide HY3).cell 1 rfl; have y2 := (unhide HY3).cell 2 rfl) | (go_at_call 73; refine (c73 a b c _).mono ?_; rintro e w2 ⟨rfl, hb2⟩; have HX2 := hide ((unhide HX0).below hb2); have HY2 := hide ((unhide HY0).below hb2); have HB2 := hide (below_tr (unhide HB0) hb2); clear hb2 HX0 HY0 HB0; have x0 := (unhide HX2).cell 0 rfl; have x1 := (unhide HX2).cell 1 rfl; have x2 := (unhide HX2).cell 2 rfl; have y0 := (unhide HY2).cell 0 rfl; have y1 := (unhide HY2).cell 1 rfl; have y2 := (unhide HY2).cell 2 rfl))
    go_ret
    exact ⟨ret_bool (unhide HU).symm, unhide HB3⟩
end Go.Proofs.Ytmlbphmbffkdnaa
