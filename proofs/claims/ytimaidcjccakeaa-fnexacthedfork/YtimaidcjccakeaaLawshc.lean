/-
  The walk of the law FnExactHedFork: at every argument it answers true, and nothing that was there is written.
-/
import Derived.Test.YtimaidcjccakeaaLawsha
namespace Go.Proofs.Ytimaidcjccakeaa
open Go.RowKit
set_option linter.unusedVariables false
set_option maxRecDepth 100000

set_option maxHeartbeats 4000000 in
theorem law19 (a b c a' b' c' : Int) (w : World) : Calls Try.prog 19 #[hedV a b c, hedV a' b' c'] w (Holds w) := by
  have HX := hide ((box_new w [.int .i64 a, .int .i64 b, .int .i64 c] 87 (by simp [Value.oneCell'])).alloc (.cells #[.int .i64 a', .int .i64 b', .int .i64 c'] 87))
  have HY0 := box_new (w.alloc (.cells #[.int .i64 a, .int .i64 b, .int .i64 c] 87)) [.int .i64 a', .int .i64 b', .int .i64 c'] 87 (by simp [Value.oneCell'])
  rw [show (w.alloc (.cells #[.int .i64 a, .int .i64 b, .int .i64 c] 87)).heap.size = w.heap.size + 1 by simp] at HY0
  have HY := hide HY0
  have HB := hide (below_al (o := .cells #[.int .i64 a', .int .i64 b', .int .i64 c'] 87) (below_a (w := w) (.cells #[.int .i64 a, .int .i64 b, .int .i64 c] 87)))
  clear HY0
  have x0 := (unhide HX).cell 0 rfl
  have x1 := (unhide HX).cell 1 rfl
  have x2 := (unhide HX).cell 2 rfl
  have y0 := (unhide HY).cell 0 rfl
  have y1 := (unhide HY).cell 1 rfl
  have y2 := (unhide HY).cell 2 rfl
  go_enter Try.func19, Try.ntmps19
  go_wp2_with fail
  generalize (w.alloc (.cells #[.int .i64 a, .int .i64 b, .int .i64 c] 87)).alloc (.cells #[.int .i64 a', .int .i64 b', .int .i64 c'] 87) = W at *
  clear x0 x1 x2 y0 y1 y2
  refine wp_region_held_drew (S := fun w' => Below W.heap.size W w') (by kernel_rfl) (below_drew W) (fun hHeld => ?_)
  refine wpAnyH_take (i := 0) (oi := { dst := some 7, op := _, type := _, pos := _, after := _, guard := _ }) (v := ?_) rfl (by kernel_rfl) (by kernel_rfl) (by kernel_rfl) (fun _ _ _ h => h) (Or.inl ⟨by rfl, ?_⟩) (by assumption) ?_
  rotate_left
  · intro w hSw
    have hT := (unhide HX).below hSw; have x0 := hT.cell 0 rfl; have x1 := hT.cell 1 rfl; have x2 := hT.cell 2 rfl; clear hT; have hT := (unhide HY).below hSw; have y0 := hT.cell 0 rfl; have y1 := hT.cell 1 rfl; have y2 := hT.cell 2 rfl; clear hT
    first | (go_simp; done) | (go_simp; with_reducible rfl)
  try simp only [Act.put, List.setIfInBounds_toArray, List.set_cons_zero, List.set_cons_succ]
  refine wpAnyH_take (i := 2) (oi := { dst := some 9, op := _, type := _, pos := _, after := _, guard := _ }) (v := ?_) rfl (by kernel_rfl) (by kernel_rfl) (by kernel_rfl) (fun _ _ _ h => h) (Or.inl ⟨by rfl, ?_⟩) (by assumption) ?_
  rotate_left
  · intro w hSw
    have hT := (unhide HX).below hSw; have x0 := hT.cell 0 rfl; have x1 := hT.cell 1 rfl; have x2 := hT.cell 2 rfl; clear hT; have hT := (unhide HY).below hSw; have y0 := hT.cell 0 rfl; have y1 := hT.cell 1 rfl; have y2 := hT.cell 2 rfl; clear hT
    first | (go_simp; done) | (go_simp; with_reducible rfl)
  try simp only [Act.put, List.setIfInBounds_toArray, List.set_cons_zero, List.set_cons_succ]
  have HD := below_drew W
  generalize W.drew = V0 at *
  refine wpAnyH_ready (rs := [1]) (by kernel_rfl) (by simp) ?_
  refine AllReadyH.cons (o := { dst := some 8, op := _, type := _, pos := _, after := _, guard := _ }) rfl (fun K hK => ?_) AllReadyH.nil
  go_simp
  go_at_call 94
  refine (c94 a b c _).mono ?_
  rintro e V1 ⟨rfl, hb⟩
  replace HD := below_then HD hb
  clear hb
  try go_wp2_with fail
  refine hK.out _ _ HD (fun hHeld => ?_)
  clear hK K hHeld
  try simp only [Act.put, List.setIfInBounds_toArray, List.set_cons_zero, List.set_cons_succ]
  refine wpAnyH_ready (rs := [3]) (by kernel_rfl) (by simp) ?_
  refine AllReadyH.cons (o := { dst := some 10, op := _, type := _, pos := _, after := _, guard := _ }) rfl (fun K hK => ?_) AllReadyH.nil
  go_simp
  go_at_call 94
  refine (c94 a' b' c' _).mono ?_
  rintro e V2 ⟨rfl, hb⟩
  replace HD := below_then HD hb
  clear hb
  try go_wp2_with fail
  refine hK.out _ _ HD (fun hHeld => ?_)
  clear hK K hHeld
  try simp only [Act.put, List.setIfInBounds_toArray, List.set_cons_zero, List.set_cons_succ]
  refine wpAnyH_ready (rs := [4]) (by kernel_rfl) (by simp) ?_
  refine AllReadyH.cons (o := { dst := some 11, op := _, type := _, pos := _, after := _, guard := _ }) rfl (fun K hK => ?_) AllReadyH.nil
  go_simp
  go_at_call 87
  refine (c87 a b c a' b' c' _).mono ?_
  rintro e V3 ⟨rfl, hb⟩
  replace HD := below_then HD hb
  clear hb
  try go_wp2_with fail
  refine hK.out _ _ HD (fun hHeld => ?_)
  clear hK K hHeld
  try simp only [Act.put, List.setIfInBounds_toArray, List.set_cons_zero, List.set_cons_succ]
  refine wpAnyH_take (i := 5) (oi := { dst := some 5, op := _, type := _, pos := _, after := _, guard := _ }) (v := ?_) rfl (by kernel_rfl) (by kernel_rfl) (by kernel_rfl) (fun _ _ _ h => h) (Or.inl ⟨by rfl, ?_⟩) (by assumption) ?_
  rotate_left
  · intro w hSw
    first | (go_simp; done) | (go_simp; with_reducible rfl)
  try simp only [Act.put, List.setIfInBounds_toArray, List.set_cons_zero, List.set_cons_succ]
  refine wpAnyH_done (by kernel_rfl) ?_ _
  replace HB := hide (below_tr (unhide HB) HD)
  replace HX := hide ((unhide HX).bel HD)
  replace HY := hide ((unhide HY).bel HD)
  clear HD 
  have x0 := (unhide HX).cell 0 rfl
  have x1 := (unhide HX).cell 1 rfl
  have x2 := (unhide HX).cell 2 rfl
  have y0 := (unhide HY).cell 0 rfl
  have y1 := (unhide HY).cell 1 rfl
  have y2 := (unhide HY).cell 2 rfl
  go_wp2_with fail
  clear x0 x1 x2 y0 y1 y2
  refine wp_region_held_drew (S := fun w' => Below V3.heap.size V3 w') (by kernel_rfl) (below_drew V3) (fun hHeld => ?_)
  refine wpAnyH_take (i := 0) (oi := { dst := some 12, op := _, type := _, pos := _, after := _, guard := _ }) (v := ?_) rfl (by kernel_rfl) (by kernel_rfl) (by kernel_rfl) (fun _ _ _ h => h) (Or.inl ⟨by rfl, ?_⟩) (by assumption) ?_
  rotate_left
  · intro w hSw
    have hT := (unhide HX).below hSw; have x0 := hT.cell 0 rfl; have x1 := hT.cell 1 rfl; have x2 := hT.cell 2 rfl; clear hT; have hT := (unhide HY).below hSw; have y0 := hT.cell 0 rfl; have y1 := hT.cell 1 rfl; have y2 := hT.cell 2 rfl; clear hT
    first | (go_simp; done) | (go_simp; with_reducible rfl)
  try simp only [Act.put, List.setIfInBounds_toArray, List.set_cons_zero, List.set_cons_succ]
  refine wpAnyH_take (i := 2) (oi := { dst := some 14, op := _, type := _, pos := _, after := _, guard := _ }) (v := ?_) rfl (by kernel_rfl) (by kernel_rfl) (by kernel_rfl) (fun _ _ _ h => h) (Or.inl ⟨by rfl, ?_⟩) (by assumption) ?_
  rotate_left
  · intro w hSw
    have hT := (unhide HX).below hSw; have x0 := hT.cell 0 rfl; have x1 := hT.cell 1 rfl; have x2 := hT.cell 2 rfl; clear hT; have hT := (unhide HY).below hSw; have y0 := hT.cell 0 rfl; have y1 := hT.cell 1 rfl; have y2 := hT.cell 2 rfl; clear hT
    first | (go_simp; done) | (go_simp; with_reducible rfl)
  try simp only [Act.put, List.setIfInBounds_toArray, List.set_cons_zero, List.set_cons_succ]
  have HD := below_drew V3
  generalize V3.drew = V0 at *
  refine wpAnyH_ready (rs := [1]) (by kernel_rfl) (by simp) ?_
  refine AllReadyH.cons (o := { dst := some 13, op := _, type := _, pos := _, after := _, guard := _ }) rfl (fun K hK => ?_) AllReadyH.nil
  go_simp
  go_at_call 94
  refine (c94 a b c _).mono ?_
  rintro e V1 ⟨rfl, hb⟩
  replace HD := below_then HD hb
  clear hb
  try go_wp2_with fail
  refine hK.out _ _ HD (fun hHeld => ?_)
  clear hK K hHeld
  try simp only [Act.put, List.setIfInBounds_toArray, List.set_cons_zero, List.set_cons_succ]
  refine wpAnyH_ready (rs := [3]) (by kernel_rfl) (by simp) ?_
  refine AllReadyH.cons (o := { dst := some 15, op := _, type := _, pos := _, after := _, guard := _ }) rfl (fun K hK => ?_) AllReadyH.nil
  go_simp
  go_at_call 94
  refine (c94 a' b' c' _).mono ?_
  rintro e V2 ⟨rfl, hb⟩
  replace HD := below_then HD hb
  clear hb
  try go_wp2_with fail
  refine hK.out _ _ HD (fun hHeld => ?_)
  clear hK K hHeld
  try simp only [Act.put, List.setIfInBounds_toArray, List.set_cons_zero, List.set_cons_succ]
  refine wpAnyH_ready (rs := [4]) (by kernel_rfl) (by simp) ?_
  refine AllReadyH.cons (o := { dst := some 16, op := _, type := _, pos := _, after := _, guard := _ }) rfl (fun K hK => ?_) AllReadyH.nil
  go_simp
  go_at_call 86
  refine (c86 a b c a' b' c' _).mono ?_
  rintro e V3 ⟨rfl, hb⟩
  replace HD := below_then HD hb
  clear hb
  try go_wp2_with fail
  refine hK.out _ _ HD (fun hHeld => ?_)
  clear hK K hHeld
  try simp only [Act.put, List.setIfInBounds_toArray, List.set_cons_zero, List.set_cons_succ]
  refine wpAnyH_take (i := 5) (oi := { dst := some 6, op := _, type := _, pos := _, after := _, guard := _ }) (v := ?_) rfl (by kernel_rfl) (by kernel_rfl) (by kernel_rfl) (fun _ _ _ h => h) (Or.inl ⟨by rfl, ?_⟩) (by assumption) ?_
  rotate_left
  · intro w hSw
    first | (go_simp; done) | (go_simp; with_reducible rfl)
  try simp only [Act.put, List.setIfInBounds_toArray, List.set_cons_zero, List.set_cons_succ]
  refine wpAnyH_done (by kernel_rfl) ?_ _
  replace HB := hide (below_tr (unhide HB) HD)
  replace HX := hide ((unhide HX).bel HD)
  replace HY := hide ((unhide HY).bel HD)
  clear HD 
  have x0 := (unhide HX).cell 0 rfl
  have x1 := (unhide HX).cell 1 rfl
  have x2 := (unhide HX).cell 2 rfl
  have y0 := (unhide HY).cell 0 rfl
  have y1 := (unhide HY).cell 1 rfl
  have y2 := (unhide HY).cell 2 rfl
  go_wp2_with fail
  go_ret
  exact ⟨rfl, unhide HB⟩
end Go.Proofs.Ytimaidcjccakeaa
