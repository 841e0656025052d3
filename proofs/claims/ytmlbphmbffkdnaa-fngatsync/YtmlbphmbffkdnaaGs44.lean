/-
  Texts of the proof, what it needs of them: Hedb.
-/
import Derived.Test.YtmlbphmbffkdnaaGs18
namespace Go.Proofs.Ytmlbphmbffkdnaa
open Go.RowKit
set_option linter.unusedVariables false
set_option maxRecDepth 100000

theorem eqHedT (a b c a' b' c' : Int) (w : World) : (Op.equalIn 10000 61 (.agg #[.int .i64 a, .int .i64 b, .int .i64 c]) (.agg #[.int .i64 a', .int .i64 b', .int .i64 c'])).run Try.prog w = .ok (decide ((a, b, c) = (a', b', c'))) w := eqHed 9998 a b c a' b' c' w

theorem run_lookHed2 {w : World} {r clock : Nat} {a b c a' b' c' q : Int} (hb : Mp w r #[{ key := hedV a b c, val := .int .i64 1, born := 0 }] clock) (hq : q = if (a', b', c') = (a, b, c) then 1 else 0) :
    (Instr.lookup 193 (.map (some r)) (hedV a' b' c') false).run Try.prog w = .ok (.int .i64 q) w := by rw [hq]; exact run_lookHed w r clock a b c a' b' c' hb

set_option maxHeartbeats 2000000 in
theorem c144 (a b c a' b' c' : Int) (w : World) : Calls Try.prog 144 #[hedV a b c, hedV a' b' c'] w fun e w' => e = .returned (.bool (decide ((a, b, c) = (a', b', c')))) ∧ Below w.heap.size w w' := by
  have hmm := @run_makeMap Try.prog
  have HY0 := box_new (w.alloc (.cells #[.int .i64 a, .int .i64 b, .int .i64 c] 61)) [.int .i64 a', .int .i64 b', .int .i64 c'] 61 (by simp [Value.oneCell'])
  rw [show (w.alloc (.cells #[.int .i64 a, .int .i64 b, .int .i64 c] 61)).heap.size = w.heap.size + 1 by simp] at HY0
  have HY1 := hide (HY0.alloc (.map #[] 0))
  have HM0 : Hid (Mp (((w.alloc (.cells #[.int .i64 a, .int .i64 b, .int .i64 c] 61)).alloc (.cells #[.int .i64 a', .int .i64 b', .int .i64 c'] 61)).alloc (.map #[] 0)) (w.heap.size + 1 + 1) #[] 0) := by
    have := heap_alloc_last ((w.alloc (.cells #[.int .i64 a, .int .i64 b, .int .i64 c] 61)).alloc (.cells #[.int .i64 a', .int .i64 b', .int .i64 c'] 61)) (.map #[] 0)
    rw [show ((w.alloc (.cells #[.int .i64 a, .int .i64 b, .int .i64 c] 61)).alloc (.cells #[.int .i64 a', .int .i64 b', .int .i64 c'] 61)).heap.size = w.heap.size + 1 + 1 by simp] at this
    exact this
  have HB0 := hide (below_al (o := .map #[] 0) (below_al (o := .cells #[.int .i64 a', .int .i64 b', .int .i64 c'] 61) (below_a (w := w) (.cells #[.int .i64 a, .int .i64 b, .int .i64 c] 61))))
  have HG0 := hide (World.grownBy.refl (((w.alloc (.cells #[.int .i64 a, .int .i64 b, .int .i64 c] 61)).alloc (.cells #[.int .i64 a', .int .i64 b', .int .i64 c'] 61)).alloc (.map #[] 0)) (some (w.heap.size + 1 + 1)))
  clear HY0
  obtain ⟨q, HQ⟩ : ∃ q : Int, Hid (q = if (a', b', c') = (a, b, c) then 1 else 0) := ⟨_, rfl⟩
  go_enter Try.func144, Try.ntmps144
  go_wp2_with (first | (refine wpList_insert_run rfl _ _ _ 193 rfl _ _ _ rfl rfl rfl (run_insHed _ _ a b c (.int .i64 1) (unhide HM0)) ?_; generalize hgn : putMap _ _ _ _ = v1; have hs := mp_step (unhide HM0) hgn; clear hgn; have HM1 := hide hs.1; have HG1 := hide (grown_tr' (unhide HG0) hs.2); clear hs HM0 HG0; have hby := (unhide HY1).kpt (unhide HG1) (fun e => by simp only [Option.some.injEq] at e; omega); have y0 := hby.cell 0 rfl; have y1 := hby.cell 1 rfl; have y2 := hby.cell 2 rfl; clear hby) | (refine wpList_lookup_run rfl _ _ 193 false rfl _ _ rfl rfl (run_lookHed2 (unhide HM1) (unhide HQ)) ?_))
  have HB := hide (grown_below (unhide HB0) (unhide HG1) (by intro q hq; cases hq; omega))
  clear y0 y1 y2 HM1 HG1 HY1 HB0
  (try go_wp2_with fail)
  go_ret
  refine ⟨ret_bool ?_, unhide HB⟩
  have hq := unhide HQ
  by_cases h : (a, b, c) = (a', b', c')
  · rw [if_pos h.symm] at hq; subst hq; rw [decide_eq_true h]; first | rfl | simp
  · rw [if_neg (fun e => h e.symm)] at hq; subst hq; rw [decide_eq_false h]; first | rfl | simp

end Go.Proofs.Ytmlbphmbffkdnaa
