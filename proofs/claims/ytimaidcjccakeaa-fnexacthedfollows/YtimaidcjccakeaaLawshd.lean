/-
  The walk of the law FnExactHedFollows: at every argument it answers true, and nothing that was there is written.
-/
import Derived.Test.YtimaidcjccakeaaLawsha
namespace Go.Proofs.Ytimaidcjccakeaa
open Go.RowKit
set_option linter.unusedVariables false
set_option maxRecDepth 100000

set_option maxHeartbeats 4000000 in
theorem law20 (a b c a' b' c' : Int) (ps : List Int) (ao : Option Addr) (n cap : Nat) (w : World) (hn : ps.length = n) (hcap : n ≤ cap) (hmx : cap ≤ maxLen) (hr : Row w ao ps) :
    Calls Try.prog 20 #[hedV a b c, hedV a' b' c', .slice ao n cap] w (Holds w) := by
  unfold maxLen at hmx
  have HX := hide ((box_new w [.int .i64 a, .int .i64 b, .int .i64 c] 87 (by simp [Value.oneCell'])).alloc (.cells #[.int .i64 a', .int .i64 b', .int .i64 c'] 87))
  have HY0 := box_new (w.alloc (.cells #[.int .i64 a, .int .i64 b, .int .i64 c] 87)) [.int .i64 a', .int .i64 b', .int .i64 c'] 87 (by simp [Value.oneCell'])
  rw [show (w.alloc (.cells #[.int .i64 a, .int .i64 b, .int .i64 c] 87)).heap.size = w.heap.size + 1 by simp] at HY0
  have HY := hide HY0
  have HB := hide (below_al (o := .cells #[.int .i64 a', .int .i64 b', .int .i64 c'] 87) (below_a (w := w) (.cells #[.int .i64 a, .int .i64 b, .int .i64 c] 87)))
  clear HY0
  have HA := hide ((hr.bel (below_a (.cells #[.int .i64 a, .int .i64 b, .int .i64 c] 87))).bel (below_a (.cells #[.int .i64 a', .int .i64 b', .int .i64 c'] 87)))
  have HN := hide hn
  clear hr hn
  by_cases hbig : (1048576 : Int) < (n : Int)
  case pos =>
    go_enter Try.func20, Try.ntmps20
    go_wp2_with fail
    go_ret
    exact ⟨rfl, unhide HB⟩
  have x0 := (unhide HX).cell 0 rfl
  have x1 := (unhide HX).cell 1 rfl
  have x2 := (unhide HX).cell 2 rfl
  have y0 := (unhide HY).cell 0 rfl
  have y1 := (unhide HY).cell 1 rfl
  have y2 := (unhide HY).cell 2 rfl
  go_enter Try.func20, Try.ntmps20
  go_wp2_with fail
  generalize (w.alloc (.cells #[.int .i64 a, .int .i64 b, .int .i64 c] 87)).alloc (.cells #[.int .i64 a', .int .i64 b', .int .i64 c'] 87) = W at *
  clear x0 x1 x2 y0 y1 y2
  refine wp_region_held_drew (S := fun w' => Below W.heap.size W w') (by kernel_rfl) (below_drew W) (fun hHeld => ?_)
  refine wpAnyH_take (i := 0) (oi := { dst := some 13, op := _, type := _, pos := _, after := _, guard := _ }) (v := ?_) rfl (by kernel_rfl) (by kernel_rfl) (by kernel_rfl) (fun _ _ _ h => h) (Or.inl ⟨by rfl, ?_⟩) (by assumption) ?_
  rotate_left
  · intro w hSw
    have hT := (unhide HX).below hSw; have x0 := hT.cell 0 rfl; have x1 := hT.cell 1 rfl; have x2 := hT.cell 2 rfl; clear hT; have hT := (unhide HY).below hSw; have y0 := hT.cell 0 rfl; have y1 := hT.cell 1 rfl; have y2 := hT.cell 2 rfl; clear hT
    first | (go_simp; done) | (go_simp; with_reducible rfl)
  try simp only [Act.put, List.setIfInBounds_toArray, List.set_cons_zero, List.set_cons_succ]
  refine wpAnyH_take (i := 2) (oi := { dst := some 15, op := _, type := _, pos := _, after := _, guard := _ }) (v := ?_) rfl (by kernel_rfl) (by kernel_rfl) (by kernel_rfl) (fun _ _ _ h => h) (Or.inl ⟨by rfl, ?_⟩) (by assumption) ?_
  rotate_left
  · intro w hSw
    have hT := (unhide HX).below hSw; have x0 := hT.cell 0 rfl; have x1 := hT.cell 1 rfl; have x2 := hT.cell 2 rfl; clear hT; have hT := (unhide HY).below hSw; have y0 := hT.cell 0 rfl; have y1 := hT.cell 1 rfl; have y2 := hT.cell 2 rfl; clear hT
    first | (go_simp; done) | (go_simp; with_reducible rfl)
  try simp only [Act.put, List.setIfInBounds_toArray, List.set_cons_zero, List.set_cons_succ]
  refine wpAnyH_take (i := 4) (oi := { dst := some 17, op := _, type := _, pos := _, after := _, guard := _ }) (v := ?_) rfl (by kernel_rfl) (by kernel_rfl) (by kernel_rfl) (fun _ _ _ h => h) (Or.inl ⟨by rfl, ?_⟩) (by assumption) ?_
  rotate_left
  · intro w hSw
    first | (go_simp; done) | (go_simp; with_reducible rfl)
  try simp only [Act.put, List.setIfInBounds_toArray, List.set_cons_zero, List.set_cons_succ]
  have HD := below_drew W
  generalize W.drew = V0 at *
  refine wpAnyH_ready (rs := [1]) (by kernel_rfl) (by simp) ?_
  refine AllReadyH.cons (o := { dst := some 14, op := _, type := _, pos := _, after := _, guard := _ }) rfl (fun K hK => ?_) AllReadyH.nil
  go_simp
  go_at_call 94
  refine (c94 a b c _).mono ?_
  rintro e V1 ⟨rfl, hb⟩
  replace HD := below_then HD hb
  clear hb
  try go_wp2_with fail
  refine hK.out _ _ HD (fun hHeld => ?_)
  clear hK K hHeld
  try simp only [Act.put, List.setIfInBounds_toArray, List.set_cons_zero, List.set_cons_succ]
  refine wpAnyH_ready (rs := [3]) (by kernel_rfl) (by simp) ?_
  refine AllReadyH.cons (o := { dst := some 16, op := _, type := _, pos := _, after := _, guard := _ }) rfl (fun K hK => ?_) AllReadyH.nil
  go_simp
  go_at_call 94
  refine (c94 a' b' c' _).mono ?_
  rintro e V2 ⟨rfl, hb⟩
  replace HD := below_then HD hb
  clear hb
  try go_wp2_with fail
  refine hK.out _ _ HD (fun hHeld => ?_)
  clear hK K hHeld
  try simp only [Act.put, List.setIfInBounds_toArray, List.set_cons_zero, List.set_cons_succ]
  refine wpAnyH_ready (rs := [5]) (by kernel_rfl) (by simp) ?_
  refine AllReadyH.cons (o := { dst := some 18, op := _, type := _, pos := _, after := _, guard := _ }) rfl (fun K hK => ?_) AllReadyH.nil
  go_simp
  go_at_call 106
  refine (c106 ps ao n cap _ HN.out (by omega) ((unhide HA).bel HD)).mono ?_
  rintro e V3 ⟨rfl, ho, hb⟩
  replace HD := below_then HD hb
  clear hb
  have ht := ho.rd HN.out
  clear ho
  try go_wp2_with fail
  refine hK.out _ _ HD (fun hHeld => ?_)
  clear hK K hHeld
  try simp only [Act.put, List.setIfInBounds_toArray, List.set_cons_zero, List.set_cons_succ]
  refine wpAnyH_ready (rs := [6]) (by kernel_rfl) (by simp) ?_
  refine AllReadyH.cons (o := { dst := some 19, op := _, type := _, pos := _, after := _, guard := _ }) rfl (fun K hK => ?_) AllReadyH.nil
  go_simp
  go_at_call 84
  refine (c84 a b c a' b' c' ps _ n n _ HN.out (Nat.le_refl _) (by omega) ht).mono ?_
  rintro e V4 ⟨rfl, hb⟩
  replace ht := ht.bel hb
  replace HD := below_then HD hb
  clear hb
  try go_wp2_with fail
  refine hK.out _ _ HD (fun hHeld => ?_)
  clear hK K hHeld
  try simp only [Act.put, List.setIfInBounds_toArray, List.set_cons_zero, List.set_cons_succ]
  refine wpAnyH_take (i := 7) (oi := { dst := some 7, op := _, type := _, pos := _, after := _, guard := _ }) (v := ?_) rfl (by kernel_rfl) (by kernel_rfl) (by kernel_rfl) (fun _ _ _ h => h) (Or.inl ⟨by rfl, ?_⟩) (by assumption) ?_
  rotate_left
  · intro w hSw
    first | (go_simp; done) | (go_simp; with_reducible rfl)
  try simp only [Act.put, List.setIfInBounds_toArray, List.set_cons_zero, List.set_cons_succ]
  refine wpAnyH_done (by kernel_rfl) ?_ _
  replace HB := hide (below_tr (unhide HB) HD)
  replace HX := hide ((unhide HX).bel HD)
  replace HY := hide ((unhide HY).bel HD)
  replace HA := hide ((unhide HA).bel HD)
  have Hht := hide ht
  clear HD ht
  have x0 := (unhide HX).cell 0 rfl
  have x1 := (unhide HX).cell 1 rfl
  have x2 := (unhide HX).cell 2 rfl
  have y0 := (unhide HY).cell 0 rfl
  have y1 := (unhide HY).cell 1 rfl
  have y2 := (unhide HY).cell 2 rfl
  go_wp2_with fail
  refine (c106 ps ao n cap _ HN.out (by omega) (unhide HA)).mono ?_
  rintro e w1 ⟨rfl, ho, hb⟩
  clear x0 x1 x2 y0 y1 y2
  replace HB := hide (below_tr (unhide HB) hb)
  replace HX := hide ((unhide HX).bel hb)
  replace HY := hide ((unhide HY).bel hb)
  replace HA := hide ((unhide HA).bel hb)
  clear Hht
  have HT := hide (ho)
  clear hb ho
  have x0 := (unhide HX).cell 0 rfl
  have x1 := (unhide HX).cell 1 rfl
  have x2 := (unhide HX).cell 2 rfl
  have y0 := (unhide HY).cell 0 rfl
  have y1 := (unhide HY).cell 1 rfl
  have y2 := (unhide HY).cell 2 rfl
  go_wp2_with fail
  clear x0 x1 x2 y0 y1 y2
  refine wp_region_held_drew (S := fun w' => Below w1.heap.size w1 w') (by kernel_rfl) (below_drew w1) (fun hHeld => ?_)
  refine wpAnyH_take (i := 0) (oi := { dst := some 22, op := _, type := _, pos := _, after := _, guard := _ }) (v := ?_) rfl (by kernel_rfl) (by kernel_rfl) (by kernel_rfl) (fun _ _ _ h => h) (Or.inl ⟨by rfl, ?_⟩) (by assumption) ?_
  rotate_left
  · intro w hSw
    have hT := (unhide HX).below hSw; have x0 := hT.cell 0 rfl; have x1 := hT.cell 1 rfl; have x2 := hT.cell 2 rfl; clear hT; have hT := (unhide HY).below hSw; have y0 := hT.cell 0 rfl; have y1 := hT.cell 1 rfl; have y2 := hT.cell 2 rfl; clear hT
    first | (go_simp; done) | (go_simp; with_reducible rfl)
  try simp only [Act.put, List.setIfInBounds_toArray, List.set_cons_zero, List.set_cons_succ]
  refine wpAnyH_take (i := 2) (oi := { dst := some 24, op := _, type := _, pos := _, after := _, guard := _ }) (v := ?_) rfl (by kernel_rfl) (by kernel_rfl) (by kernel_rfl) (fun _ _ _ h => h) (Or.inl ⟨by rfl, ?_⟩) (by assumption) ?_
  rotate_left
  · intro w hSw
    have hT := (unhide HX).below hSw; have x0 := hT.cell 0 rfl; have x1 := hT.cell 1 rfl; have x2 := hT.cell 2 rfl; clear hT; have hT := (unhide HY).below hSw; have y0 := hT.cell 0 rfl; have y1 := hT.cell 1 rfl; have y2 := hT.cell 2 rfl; clear hT
    first | (go_simp; done) | (go_simp; with_reducible rfl)
  try simp only [Act.put, List.setIfInBounds_toArray, List.set_cons_zero, List.set_cons_succ]
  refine wpAnyH_take (i := 4) (oi := { dst := some 26, op := _, type := _, pos := _, after := _, guard := _ }) (v := ?_) rfl (by kernel_rfl) (by kernel_rfl) (by kernel_rfl) (fun _ _ _ h => h) (Or.inl ⟨by rfl, ?_⟩) (by assumption) ?_
  rotate_left
  · intro w hSw
    first | (go_simp; done) | (go_simp; with_reducible rfl)
  try simp only [Act.put, List.setIfInBounds_toArray, List.set_cons_zero, List.set_cons_succ]
  have HD := below_drew w1
  generalize w1.drew = V0 at *
  refine wpAnyH_ready (rs := [1]) (by kernel_rfl) (by simp) ?_
  refine AllReadyH.cons (o := { dst := some 23, op := _, type := _, pos := _, after := _, guard := _ }) rfl (fun K hK => ?_) AllReadyH.nil
  go_simp
  go_at_call 94
  refine (c94 a b c _).mono ?_
  rintro e V1 ⟨rfl, hb⟩
  replace HD := below_then HD hb
  clear hb
  try go_wp2_with fail
  refine hK.out _ _ HD (fun hHeld => ?_)
  clear hK K hHeld
  try simp only [Act.put, List.setIfInBounds_toArray, List.set_cons_zero, List.set_cons_succ]
  refine wpAnyH_ready (rs := [3]) (by kernel_rfl) (by simp) ?_
  refine AllReadyH.cons (o := { dst := some 25, op := _, type := _, pos := _, after := _, guard := _ }) rfl (fun K hK => ?_) AllReadyH.nil
  go_simp
  go_at_call 94
  refine (c94 a' b' c' _).mono ?_
  rintro e V2 ⟨rfl, hb⟩
  replace HD := below_then HD hb
  clear hb
  try go_wp2_with fail
  refine hK.out _ _ HD (fun hHeld => ?_)
  clear hK K hHeld
  try simp only [Act.put, List.setIfInBounds_toArray, List.set_cons_zero, List.set_cons_succ]
  refine wpAnyH_ready (rs := [5]) (by kernel_rfl) (by simp) ?_
  refine AllReadyH.cons (o := { dst := some 27, op := _, type := _, pos := _, after := _, guard := _ }) rfl (fun K hK => ?_) AllReadyH.nil
  go_simp
  go_at_call 82
  refine (c82 a b c a' b' c' ps _ n n _ HN.out (Nat.le_refl _) (by omega) (((unhide HT).bel HD).rd HN.out)).mono ?_
  rintro e V3 ⟨rfl, hb⟩
  replace HD := below_then HD hb
  clear hb
  try go_wp2_with fail
  refine hK.out _ _ HD (fun hHeld => ?_)
  clear hK K hHeld
  try simp only [Act.put, List.setIfInBounds_toArray, List.set_cons_zero, List.set_cons_succ]
  refine wpAnyH_take (i := 6) (oi := { dst := some 9, op := _, type := _, pos := _, after := _, guard := _ }) (v := ?_) rfl (by kernel_rfl) (by kernel_rfl) (by kernel_rfl) (fun _ _ _ h => h) (Or.inl ⟨by rfl, ?_⟩) (by assumption) ?_
  rotate_left
  · intro w hSw
    first | (go_simp; done) | (go_simp; with_reducible rfl)
  try simp only [Act.put, List.setIfInBounds_toArray, List.set_cons_zero, List.set_cons_succ]
  refine wpAnyH_done (by kernel_rfl) ?_ _
  replace HB := hide (below_tr (unhide HB) HD)
  replace HX := hide ((unhide HX).bel HD)
  replace HY := hide ((unhide HY).bel HD)
  replace HA := hide ((unhide HA).bel HD)
  replace HT := hide ((unhide HT).bel HD)
  clear HD 
  have x0 := (unhide HX).cell 0 rfl
  have x1 := (unhide HX).cell 1 rfl
  have x2 := (unhide HX).cell 2 rfl
  have y0 := (unhide HY).cell 0 rfl
  have y1 := (unhide HY).cell 1 rfl
  have y2 := (unhide HY).cell 2 rfl
  go_wp2_with fail
  all_goals skip
  refine (c106 ps ao n cap _ HN.out (by omega) (unhide HA)).mono ?_
  rintro e w2 ⟨rfl, ho, hb⟩
  clear x0 x1 x2 y0 y1 y2
  replace HB := hide (below_tr (unhide HB) hb)
  replace HX := hide ((unhide HX).bel hb)
  replace HY := hide ((unhide HY).bel hb)
  replace HA := hide ((unhide HA).bel hb)
  replace HT := hide ((unhide HT).bel hb)
  have HT2 := hide (ho)
  clear hb ho
  have x0 := (unhide HX).cell 0 rfl
  have x1 := (unhide HX).cell 1 rfl
  have x2 := (unhide HX).cell 2 rfl
  have y0 := (unhide HY).cell 0 rfl
  have y1 := (unhide HY).cell 1 rfl
  have y2 := (unhide HY).cell 2 rfl
  go_wp2_with fail
  refine (sameI ps _ _ n n n _ HN.out (by omega) ((unhide HT).rd HN.out) ((unhide HT2).rd HN.out)).mono ?_
  rintro e w3 ⟨rfl, hb⟩
  clear x0 x1 x2 y0 y1 y2
  replace HB := hide (below_tr (unhide HB) hb)
  replace HX := hide ((unhide HX).bel hb)
  replace HY := hide ((unhide HY).bel hb)
  replace HA := hide ((unhide HA).bel hb)
  replace HT := hide ((unhide HT).bel hb)
  replace HT2 := hide ((unhide HT2).bel hb)
  clear hb
  have x0 := (unhide HX).cell 0 rfl
  have x1 := (unhide HX).cell 1 rfl
  have x2 := (unhide HX).cell 2 rfl
  have y0 := (unhide HY).cell 0 rfl
  have y1 := (unhide HY).cell 1 rfl
  have y2 := (unhide HY).cell 2 rfl
  go_wp2_with fail
  go_ret
  exact ⟨rfl, unhide HB⟩
end Go.Proofs.Ytimaidcjccakeaa
