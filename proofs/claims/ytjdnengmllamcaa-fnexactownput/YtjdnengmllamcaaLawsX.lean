/-
  The walks of the exact laws of OwnFits and OwnPut: at every argument they answer true, and nothing that was there is written.
-/
import Derived.Deep.RegionHeld3
import Derived.Test.YtjdnengmllamcaaOwnf
namespace Go.Proofs.Ytjdnengmllamcaa
open Go.RowKit
set_option linter.unusedVariables false
set_option maxRecDepth 100000

set_option maxHeartbeats 4000000 in
theorem law17 (xs : List Tm.Rw) (k t u p : Int) (ao : Option Addr) (n cap : Nat) (w : World) (hn : xs.length = n) (hcap : n ≤ cap) (hmx : cap ≤ maxLen) (hr : RRow w ao xs) :
    Calls Try.prog 17 #[.slice ao n cap, entV k t u p] w (Holds w) := by
  unfold maxLen at hmx
  by_cases hbig : n ≤ 1048576
  case neg =>
    go_enter Try.func17, Try.ntmps17
    go_wp2_with fail
    refine (c90 ao n cap _ (by omega)).mono ?_
    rintro e w1 ⟨rfl, rfl⟩
    rw [if_neg hbig]
    go_wp2_with fail
    go_ret
    exact ⟨rfl, below_a _⟩
  have HA := hide hr
  have HN := hide hn
  have HE := hide (box_new w [.int .i64 k, .int .i64 t, .int .i64 u, .int .i64 p] 84 (by simp [Value.oneCell']))
  have HB0 := hide (below_a (w := w) (.cells #[.int .i64 k, .int .i64 t, .int .i64 u, .int .i64 p] 84))
  clear hr hn
  go_enter Try.func17, Try.ntmps17
  go_wp2_with fail
  refine (c90 ao n cap _ (by omega)).mono ?_
  rintro e w0 ⟨rfl, hw0⟩
  have hw0 := hw0.symm
  subst hw0
  rw [if_pos hbig]
  have hnn : ¬ (1048576 - (n : Int) < 0) := by omega
  go_wp2_with fail
  generalize w.alloc (.cells #[.int .i64 k, .int .i64 t, .int .i64 u, .int .i64 p] 84) = W at *
  generalize hres : Tm.fits xs (k, t, u, p) = y at *
  have HRES := hide hres
  clear hres
  refine wp_region_held_drew (S := fun w' => Below W.heap.size W w') (by kernel_rfl) (below_drew W) (fun hHeld => ?_)
  refine wpAnyH_take (i := 0) (oi := { dst := some 14, op := _, type := _, pos := _, after := _, guard := _ }) (v := ?_) rfl (by kernel_rfl) (by kernel_rfl) (by kernel_rfl) (fun _ _ _ h => h) (Or.inl ⟨by rfl, ?_⟩) (by assumption) ?_
  rotate_left
  · intro w hSw
    first | (go_simp; done) | (go_simp; with_reducible rfl)
  try simp only [Act.put, List.setIfInBounds_toArray, List.set_cons_zero, List.set_cons_succ]
  refine wpAnyH_take (i := 2) (oi := { dst := some 16, op := _, type := _, pos := _, after := _, guard := _ }) (v := ?_) rfl (by kernel_rfl) (by kernel_rfl) (by kernel_rfl) (fun _ _ _ h => h) (Or.inl ⟨by rfl, ?_⟩) (by assumption) ?_
  rotate_left
  · intro w hSw
    have hT := (unhide HE).below hSw; have y0 := hT.cell 0 rfl; have y1 := hT.cell 1 rfl; have y2 := hT.cell 2 rfl; have y3 := hT.cell 3 rfl
    first | (go_simp; done) | (go_simp; with_reducible rfl)
  try simp only [Act.put, List.setIfInBounds_toArray, List.set_cons_zero, List.set_cons_succ]
  have HD := below_drew W
  generalize W.drew = V0 at *
  refine wpAnyH_ready (rs := [1]) (by kernel_rfl) (by simp) ?_
  refine AllReadyH.cons (o := { dst := some 15, op := _, type := _, pos := _, after := _, guard := _ }) rfl (fun K hK => ?_) AllReadyH.nil
  go_simp
  go_at_call 91
  refine (c91 xs ao n cap _ HN.out (by omega) ((unhide HA).bel (below_tr (unhide HB0) HD))).mono ?_
  rintro e u1 ⟨rfl, hx, hb⟩
  have hx := hx.rd HN.out
  have HD := below_then HD hb
  clear hb
  try go_wp2_with fail
  refine hK.out _ _ HD (fun hHeld => ?_)
  clear hK K hHeld
  try simp only [Act.put, List.setIfInBounds_toArray, List.set_cons_zero, List.set_cons_succ]
  refine wpAnyH_ready (rs := [3]) (by kernel_rfl) (by simp) ?_
  refine AllReadyH.cons (o := { dst := some 17, op := _, type := _, pos := _, after := _, guard := _ }) rfl (fun K hK => ?_) AllReadyH.nil
  go_simp
  go_at_call 92
  refine (c92 k t u p _).mono ?_
  rintro e u2 ⟨rfl, hb⟩
  have hx := hx.bel hb
  have HD := below_then HD hb
  clear hb
  try go_wp2_with fail
  refine hK.out _ _ HD (fun hHeld => ?_)
  clear hK K hHeld
  try simp only [Act.put, List.setIfInBounds_toArray, List.set_cons_zero, List.set_cons_succ]
  refine wpAnyH_ready (rs := [4]) (by kernel_rfl) (by simp) ?_
  refine AllReadyH.cons (o := { dst := some 18, op := _, type := _, pos := _, after := _, guard := _ }) rfl (fun K hK => ?_) AllReadyH.nil
  go_simp
  go_at_call 43
  refine (c43 xs k t u p _ n n _ HN.out hbig hx).mono ?_
  rintro e w3 ⟨rfl, hb⟩
  rw [unhide HRES]
  have HD := below_then HD hb
  try go_wp2_with fail
  refine hK.out _ _ HD (fun hHeld => ?_)
  clear hK K hHeld
  try simp only [Act.put, List.setIfInBounds_toArray, List.set_cons_zero, List.set_cons_succ]
  refine wpAnyH_take (i := 5) (oi := { dst := some 6, op := _, type := _, pos := _, after := _, guard := _ }) (v := ?_) rfl (by kernel_rfl) (by kernel_rfl) (by kernel_rfl) (fun _ _ _ h => h) (Or.inl ⟨by rfl, ?_⟩) (by assumption) ?_
  rotate_left
  · intro w hSw
    first | (go_simp; done) | (go_simp; with_reducible rfl)
  try simp only [Act.put, List.setIfInBounds_toArray, List.set_cons_zero, List.set_cons_succ]
  refine wpAnyH_done (by kernel_rfl) ?_ _
  have HE3 := hide ((unhide HE).below HD)
  have HB3 := hide (below_tr (unhide HB0) HD)
  clear HD hb hx
  go_wp2_with fail
  refine (c91 xs ao n cap _ HN.out (by omega) ((unhide HA).bel (unhide HB3))).mono ?_
  rintro e w4 ⟨rfl, hx4, hb4⟩
  have HX4 := hide hx4
  have hy := (unhide HE3).below hb4
  have HE4 := hide hy
  have y0 := hy.cell 0 rfl
  have y1 := hy.cell 1 rfl
  have y2 := hy.cell 2 rfl
  have y3 := hy.cell 3 rfl
  have HB4 := hide (below_tr (unhide HB3) hb4)
  clear hb4 hx4 hy HE3 HB3
  go_wp2_with fail
  refine (c92 k t u p _).mono ?_
  rintro e w5 ⟨rfl, hb5⟩
  have HX5 := hide ((unhide HX4).bel hb5)
  have HB5 := hide (below_tr (unhide HB4) hb5)
  clear hb5 y0 y1 y2 y3 HX4 HB4 HE4
  go_wp2_with fail
  refine (c42 xs k t u p _ n n _ HN.out hbig ((unhide HX5).rd HN.out)).mono ?_
  rintro e w6 ⟨rfl, hb6⟩
  rw [unhide HRES]
  have HX6 := hide ((unhide HX5).bel hb6)
  have HB6 := hide (below_tr (unhide HB5) hb6)
  clear hb6 HX5 HB5
  go_wp2_with fail
  refine (c91 xs ao n cap _ HN.out (by omega) ((unhide HA).bel (unhide HB6))).mono ?_
  rintro e w7 ⟨rfl, hx7, hb7⟩
  have HT7 := hide (hx7.rd HN.out)
  have HX7 := hide ((unhide HX6).bel hb7)
  have HB7 := hide (below_tr (unhide HB6) hb7)
  clear hb7 hx7 HX6 HB6
  go_wp2_with fail
  refine (sameR xs _ _ _ _ _ _ HN.out (by omega) ((unhide HX7).rd HN.out) (unhide HT7)).mono ?_
  rintro e w8 ⟨rfl, hb8⟩
  have HB8 := hide (below_tr (unhide HB7) hb8)
  clear hb8 HB7 HX7 HT7
  go_wp2_with fail
  go_ret
  exact ⟨rfl, unhide HB8⟩
set_option maxHeartbeats 4000000 in
theorem law18 (xs : List Tm.Rw) (k t u p : Int) (ao : Option Addr) (n cap : Nat) (w : World) (hn : xs.length = n) (hcap : n ≤ cap) (hmx : cap ≤ maxLen) (hr : RRow w ao xs) :
    Calls Try.prog 18 #[.slice ao n cap, entV k t u p] w (Holds w) := by
  unfold maxLen at hmx
  by_cases hbig : n ≤ 1048576
  case neg =>
    go_enter Try.func18, Try.ntmps18
    go_wp2_with fail
    refine (c90 ao n cap _ (by omega)).mono ?_
    rintro e w1 ⟨rfl, rfl⟩
    rw [if_neg hbig]
    go_wp2_with fail
    go_ret
    exact ⟨rfl, below_a _⟩
  have HA := hide hr
  have HN := hide hn
  have HE := hide (box_new w [.int .i64 k, .int .i64 t, .int .i64 u, .int .i64 p] 84 (by simp [Value.oneCell']))
  have HB0 := hide (below_a (w := w) (.cells #[.int .i64 k, .int .i64 t, .int .i64 u, .int .i64 p] 84))
  clear hr hn
  go_enter Try.func18, Try.ntmps18
  go_wp2_with fail
  refine (c90 ao n cap _ (by omega)).mono ?_
  rintro e w0 ⟨rfl, hw0⟩
  have hw0 := hw0.symm
  subst hw0
  rw [if_pos hbig]
  have hnn : ¬ (1048576 - (n : Int) < 0) := by omega
  go_wp2_with fail
  generalize w.alloc (.cells #[.int .i64 k, .int .i64 t, .int .i64 u, .int .i64 p] 84) = W at *
  have hlen : (Tm.ownPut xs (k, t, u, p)).length ≤ 1048576 := by rw [ownPut_len]; have := HN.out; omega
  generalize hres : Tm.ownPut xs (k, t, u, p) = ys at *
  have HRES := hide hres
  clear hres
  generalize hbb : Tm.fits xs (k, t, u, p) = bb at *
  have HBB := hide hbb
  clear hbb
  refine wp_region_held_drew (S := fun w' => Below W.heap.size W w') (by kernel_rfl) (below_drew W) (fun hHeld => ?_)
  refine wpAnyH_take (i := 0) (oi := { dst := some 22, op := _, type := _, pos := _, after := _, guard := _ }) (v := ?_) rfl (by kernel_rfl) (by kernel_rfl) (by kernel_rfl) (fun _ _ _ h => h) (Or.inl ⟨by rfl, ?_⟩) (by assumption) ?_
  rotate_left
  · intro w hSw
    first | (go_simp; done) | (go_simp; with_reducible rfl)
  try simp only [Act.put, List.setIfInBounds_toArray, List.set_cons_zero, List.set_cons_succ]
  refine wpAnyH_take (i := 2) (oi := { dst := some 24, op := _, type := _, pos := _, after := _, guard := _ }) (v := ?_) rfl (by kernel_rfl) (by kernel_rfl) (by kernel_rfl) (fun _ _ _ h => h) (Or.inl ⟨by rfl, ?_⟩) (by assumption) ?_
  rotate_left
  · intro w hSw
    have hT := (unhide HE).below hSw; have y0 := hT.cell 0 rfl; have y1 := hT.cell 1 rfl; have y2 := hT.cell 2 rfl; have y3 := hT.cell 3 rfl
    first | (go_simp; done) | (go_simp; with_reducible rfl)
  try simp only [Act.put, List.setIfInBounds_toArray, List.set_cons_zero, List.set_cons_succ]
  have HD := below_drew W
  generalize W.drew = V0 at *
  refine wpAnyH_ready (rs := [1]) (by kernel_rfl) (by simp) ?_
  refine AllReadyH.cons (o := { dst := some 23, op := _, type := _, pos := _, after := _, guard := _ }) rfl (fun K hK => ?_) AllReadyH.nil
  go_simp
  go_at_call 91
  refine (c91 xs ao n cap _ HN.out (by omega) ((unhide HA).bel (below_tr (unhide HB0) HD))).mono ?_
  rintro e u1 ⟨rfl, hx, hb⟩
  have hx := hx.rd HN.out
  have HD := below_then HD hb
  clear hb
  try go_wp2_with fail
  refine hK.out _ _ HD (fun hHeld => ?_)
  clear hK K hHeld
  try simp only [Act.put, List.setIfInBounds_toArray, List.set_cons_zero, List.set_cons_succ]
  refine wpAnyH_ready (rs := [3]) (by kernel_rfl) (by simp) ?_
  refine AllReadyH.cons (o := { dst := some 25, op := _, type := _, pos := _, after := _, guard := _ }) rfl (fun K hK => ?_) AllReadyH.nil
  go_simp
  go_at_call 92
  refine (c92 k t u p _).mono ?_
  rintro e u2 ⟨rfl, hb⟩
  have hx := hx.bel hb
  have HD := below_then HD hb
  clear hb
  try go_wp2_with fail
  refine hK.out _ _ HD (fun hHeld => ?_)
  clear hK K hHeld
  try simp only [Act.put, List.setIfInBounds_toArray, List.set_cons_zero, List.set_cons_succ]
  refine wpAnyH_ready (rs := [4]) (by kernel_rfl) (by simp) ?_
  refine AllReadyH.cons (o := { dst := some 26, op := _, type := _, pos := _, after := _, guard := _ }) rfl (fun K hK => ?_) AllReadyH.nil
  go_simp
  go_at_call 49
  refine (c49 xs k t u p _ n n _ HN.out hbig (by simp) hx).mono ?_
  rintro e w3 ⟨v0, rfl, ho0, hb⟩
  rw [unhide HRES] at ho0
  rw [unhide HBB]
  obtain ⟨av, capv, rfl, hcv, hrv, hbv⟩ := ho0.row
  have HD := below_then HD hb
  try go_wp2_with fail
  refine hK.out _ _ HD (fun hHeld => ?_)
  clear hK K hHeld
  try simp only [Act.put, List.setIfInBounds_toArray, List.set_cons_zero, List.set_cons_succ]
  refine wpAnyH_take (i := 5) (oi := { dst := some 21, op := _, type := _, pos := _, after := _, guard := _ }) (v := ?_) rfl (by kernel_rfl) (by kernel_rfl) (by kernel_rfl) (fun _ _ _ h => h) (Or.inl ⟨by rfl, ?_⟩) (by assumption) ?_
  rotate_left
  · intro w hSw
    first | (go_simp; done) | (go_simp; with_reducible rfl)
  try simp only [Act.put, List.setIfInBounds_toArray, List.set_cons_zero, List.set_cons_succ]
  refine wpAnyH_take (i := 6) (oi := { dst := some 27, op := _, type := _, pos := _, after := _, guard := _ }) (v := ?_) rfl (by kernel_rfl) (by kernel_rfl) (by kernel_rfl) (fun _ _ _ h => h) (Or.inl ⟨by rfl, ?_⟩) (by assumption) ?_
  rotate_left
  · intro w hSw
    first | (go_simp; done) | (go_simp; with_reducible rfl)
  try simp only [Act.put, List.setIfInBounds_toArray, List.set_cons_zero, List.set_cons_succ]
  refine wpAnyH_take (i := 7) (oi := { dst := some 28, op := _, type := _, pos := _, after := _, guard := _ }) (v := ?_) rfl (by kernel_rfl) (by kernel_rfl) (by kernel_rfl) (fun _ _ _ h => h) (Or.inl ⟨by rfl, ?_⟩) (by assumption) ?_
  rotate_left
  · intro w hSw
    first | (go_simp; done) | (go_simp; with_reducible rfl)
  try simp only [Act.put, List.setIfInBounds_toArray, List.set_cons_zero, List.set_cons_succ]
  refine wpAnyH_take (i := 8) (oi := { dst := some 6, op := _, type := _, pos := _, after := _, guard := _ }) (v := ?_) rfl (by kernel_rfl) (by kernel_rfl) (by kernel_rfl) (fun _ _ _ h => h) (Or.inl ⟨by rfl, ?_⟩) (by assumption) ?_
  rotate_left
  · intro w hSw
    first | (go_simp; done) | (go_simp; with_reducible rfl)
  try simp only [Act.put, List.setIfInBounds_toArray, List.set_cons_zero, List.set_cons_succ]
  refine wpAnyH_take (i := 9) (oi := { dst := some 7, op := _, type := _, pos := _, after := _, guard := _ }) (v := ?_) rfl (by kernel_rfl) (by kernel_rfl) (by kernel_rfl) (fun _ _ _ h => h) (Or.inl ⟨by rfl, ?_⟩) (by assumption) ?_
  rotate_left
  · intro w hSw
    first | (go_simp; done) | (go_simp; with_reducible rfl)
  try simp only [Act.put, List.setIfInBounds_toArray, List.set_cons_zero, List.set_cons_succ]
  refine wpAnyH_done (by kernel_rfl) ?_ _
  have HE3 := hide ((unhide HE).below HD)
  have HW3 := hide (Nat.lt_of_lt_of_le (unhide HE).lt HD.size)
  have HB3 := hide (below_tr (unhide HB0) HD)
  have HV3 := hide hrv
  have HVb := hide (fun a ha => (hbv a ha).2)
  have hs03 := (unhide HB3).size
  clear HD hb hx hrv hbv ho0
  go_wp2_with fail
  refine (c91 xs ao n cap _ HN.out (by omega) ((unhide HA).bel (unhide HB3))).mono ?_
  rintro e w4 ⟨rfl, hx4, hb4⟩
  have HX4 := hide hx4
  have hs34 := own_ltR hx4
  have hy := (unhide HE3).below hb4
  have HE4 := hide hy
  have y0 := hy.cell 0 rfl
  have y1 := hy.cell 1 rfl
  have y2 := hy.cell 2 rfl
  have y3 := hy.cell 3 rfl
  have HV4 := hide ((unhide HV3).bel hb4)
  have HB4 := hide (below_tr (unhide HB3) hb4)
  clear hb4 hx4 hy HE3 HB3 HV3
  go_wp2_with fail
  refine (c92 k t u p _).mono ?_
  rintro e w5 ⟨rfl, hb5⟩
  have HX5 := hide ((unhide HX4).bel hb5)
  have HV5 := hide ((unhide HV4).bel hb5)
  have HE5 := hide ((unhide HE4).below hb5)
  have HB5 := hide (below_tr (unhide HB4) hb5)
  have hs45 := hb5.size
  clear hb5 y0 y1 y2 y3 HX4 HB4 HE4 HV4
  go_wp2_with fail
  refine (c48 xs k t u p _ n n _ HN.out hbig (by simp) ((unhide HX5).rd HN.out)).mono ?_
  rintro e w6 ⟨v1, rfl, ho6, hb6⟩
  rw [unhide HRES] at ho6
  rw [unhide HBB]
  obtain ⟨ag, capg, rfl, hcg, hrg, hbg⟩ := ho6.row
  have HG6 := hide ho6
  have HGb := hide (fun a ha => (hbg a ha).1)
  have HX6 := hide ((unhide HX5).bel hb6)
  have HV6 := hide ((unhide HV5).bel hb6)
  have HE6 := hide ((unhide HE5).below hb6)
  have HB6 := hide (below_tr (unhide HB5) hb6)
  clear hb6 HX5 HB5 HV5 HE5 ho6 hrg hbg
  go_wp2_with fail
  refine (sameR ys _ _ _ _ _ _ rfl (by omega) ((unhide HG6).rd rfl) (unhide HV6)).mono ?_
  rintro e w7 ⟨rfl, hb7⟩
  have HX7 := hide ((unhide HX6).bel hb7)
  have HV7 := hide ((unhide HV6).bel hb7)
  have HG7 := hide ((unhide HG6).bel hb7)
  have HE7 := hide ((unhide HE6).below hb7)
  have HB7 := hide (below_tr (unhide HB6) hb7)
  clear hb7 HX6 HB6 HV6 HE6 HG6
  go_wp2_with fail
  refine (c91 xs ao n cap _ HN.out (by omega) ((unhide HA).bel (unhide HB7))).mono ?_
  rintro e w8 ⟨rfl, hx8, hb8⟩
  have HT8 := hide (hx8.rd HN.out)
  have HX8 := hide ((unhide HX7).bel hb8)
  have HV8 := hide ((unhide HV7).bel hb8)
  have HG8 := hide ((unhide HG7).bel hb8)
  have HE8 := hide ((unhide HE7).below hb8)
  have HB8 := hide (below_tr (unhide HB7) hb8)
  clear hb8 hx8 HX7 HB7 HV7 HE7 HG7
  go_wp2_with fail
  refine (sameR xs _ _ _ _ _ _ HN.out (by omega) ((unhide HX8).rd HN.out) (unhide HT8)).mono ?_
  rintro e w9 ⟨rfl, hb9⟩
  have HX9 := hide ((unhide HX8).bel hb9)
  have HV9 := hide ((unhide HV8).bel hb9)
  have HG9 := hide ((unhide HG8).bel hb9)
  have HE9 := hide ((unhide HE8).below hb9)
  have HB9 := hide (below_tr (unhide HB8) hb9)
  clear hb9 HX8 HB8 HV8 HE8 HG8 HT8
  go_wp2_with fail
  refine (markR xs _ _ _ _ _ HN.out (by omega) (unhide HX9)).mono ?_
  rintro e w10 ⟨rfl, -, hg10⟩
  have hs3W : w.heap.size < w3.heap.size := unhide HW3
  have HV10 := hide ((unhide HV9).kpt hg10 (by intro a ha; have := unhide HVb a ha; simp only [Value.ownBlock, ne_eq, Option.some.injEq]; omega))
  have HG10 := hide ((unhide HG9).kpt hg10 (by intro b hb; obtain ⟨a, ha, rfl⟩ := slice_block hb; have := unhide HGb a ha; simp only [Value.ownBlock, ne_eq, Option.some.injEq]; omega))
  have HE10 := hide ((unhide HE9).kpt hg10 (by simp only [Value.ownBlock, ne_eq, Option.some.injEq]; omega))
  have HB10 := hide (grown_below (unhide HB9) hg10 (by intro k hk; simp only [Value.ownBlock, Option.some.injEq] at hk; omega))
  clear hg10 HV9 HG9 HB9 HX9 HE9
  have hk10 : ¬ (3 * (n : Int) + 1 < 0) := by omega
  go_wp2_with fail
  refine (sameR ys _ _ _ _ _ _ rfl (by omega) ((unhide HG10).rd rfl) (unhide HV10)).mono ?_
  rintro e w11 ⟨rfl, hb11⟩
  have HV11 := hide ((unhide HV10).bel hb11)
  have HG11 := hide ((unhide HG10).bel hb11)
  have HE11 := hide ((unhide HE10).below hb11)
  have HB11 := hide (below_tr (unhide HB10) hb11)
  clear hb11 HB10 HV10 HE10 HG10
  go_wp2_with fail
  refine (markR ys _ _ _ _ _ rfl (by omega) (unhide HG11)).mono ?_
  rintro e w12 ⟨rfl, hh12, hg12⟩
  have HV12 := hide ((unhide HV11).kpt hg12 (by intro a ha e; obtain ⟨a', ha', e'⟩ := slice_block e.symm; have h1 := unhide HVb a ha; have h2 := unhide HGb a' ha'; omega))
  have HE12 := hide ((unhide HE11).kpt hg12 (by intro e; obtain ⟨a', ha', e'⟩ := slice_block e.symm; have h2 := unhide HGb a' ha'; omega))
  have HM12 := hide hh12
  have HB12 := hide (grown_below (unhide HB11) hg12 (by intro k hk; obtain ⟨a', ha', e'⟩ := slice_block hk; have h2 := unhide HGb a' ha'; omega))
  clear hg12 hh12 HV11 HG11 HB11 HE11
  have hk12 : ¬ (3 * (ys.length : Int) + 1 < 0) := by omega
  go_wp2_with fail
  refine (heldR ys _ _ _ _ rfl (by omega) (unhide HM12)).mono ?_
  rintro e w13 ⟨rfl, hw13⟩
  have hw13 := hw13.symm
  subst hw13
  go_wp2_with fail
  clear HE
  have HE := HE12
  clear HE12
  refine wp_region_held_drew (S := fun w' => Below w12.heap.size w12 w') (by kernel_rfl) (below_drew w12) (fun hHeld => ?_)
  refine wpAnyH_take (i := 0) (oi := { dst := some 80, op := _, type := _, pos := _, after := _, guard := _ }) (v := ?_) rfl (by kernel_rfl) (by kernel_rfl) (by kernel_rfl) (fun _ _ _ h => h) (Or.inl ⟨by rfl, ?_⟩) (by assumption) ?_
  rotate_left
  · intro w hSw
    first | (go_simp; done) | (go_simp; with_reducible rfl)
  try simp only [Act.put, List.setIfInBounds_toArray, List.set_cons_zero, List.set_cons_succ]
  refine wpAnyH_take (i := 2) (oi := { dst := some 82, op := _, type := _, pos := _, after := _, guard := _ }) (v := ?_) rfl (by kernel_rfl) (by kernel_rfl) (by kernel_rfl) (fun _ _ _ h => h) (Or.inl ⟨by rfl, ?_⟩) (by assumption) ?_
  rotate_left
  · intro w hSw
    have hT := (unhide HE).below hSw; have y0 := hT.cell 0 rfl; have y1 := hT.cell 1 rfl; have y2 := hT.cell 2 rfl; have y3 := hT.cell 3 rfl
    first | (go_simp; done) | (go_simp; with_reducible rfl)
  try simp only [Act.put, List.setIfInBounds_toArray, List.set_cons_zero, List.set_cons_succ]
  have HD := below_drew w12
  generalize w12.drew = V0 at *
  refine wpAnyH_ready (rs := [1]) (by kernel_rfl) (by simp) ?_
  refine AllReadyH.cons (o := { dst := some 81, op := _, type := _, pos := _, after := _, guard := _ }) rfl (fun K hK => ?_) AllReadyH.nil
  go_simp
  go_at_call 91
  refine (c91 xs ao n cap _ HN.out (by omega) ((unhide HA).bel (below_tr (unhide HB12) HD))).mono ?_
  rintro e u4 ⟨rfl, hx, hb⟩
  have hx := hx.rd HN.out
  have HD := below_then HD hb
  clear hb
  try go_wp2_with fail
  refine hK.out _ _ HD (fun hHeld => ?_)
  clear hK K hHeld
  try simp only [Act.put, List.setIfInBounds_toArray, List.set_cons_zero, List.set_cons_succ]
  refine wpAnyH_ready (rs := [3]) (by kernel_rfl) (by simp) ?_
  refine AllReadyH.cons (o := { dst := some 83, op := _, type := _, pos := _, after := _, guard := _ }) rfl (fun K hK => ?_) AllReadyH.nil
  go_simp
  go_at_call 92
  refine (c92 k t u p _).mono ?_
  rintro e u5 ⟨rfl, hb⟩
  have hx := hx.bel hb
  have HD := below_then HD hb
  clear hb
  try go_wp2_with fail
  refine hK.out _ _ HD (fun hHeld => ?_)
  clear hK K hHeld
  try simp only [Act.put, List.setIfInBounds_toArray, List.set_cons_zero, List.set_cons_succ]
  refine wpAnyH_ready (rs := [4]) (by kernel_rfl) (by simp) ?_
  refine AllReadyH.cons (o := { dst := some 84, op := _, type := _, pos := _, after := _, guard := _ }) rfl (fun K hK => ?_) AllReadyH.nil
  go_simp
  go_at_call 48
  refine (c48 xs k t u p _ n n _ HN.out hbig (by simp) hx).mono ?_
  rintro e w15 ⟨v2, rfl, ho2, hb⟩
  rw [unhide HRES] at ho2
  rw [unhide HBB]
  obtain ⟨ah, caph, rfl, hch, hrh, hbh⟩ := ho2.row
  have HD := below_then HD hb
  try go_wp2_with fail
  refine hK.out _ _ HD (fun hHeld => ?_)
  clear hK K hHeld
  try simp only [Act.put, List.setIfInBounds_toArray, List.set_cons_zero, List.set_cons_succ]
  refine wpAnyH_take (i := 5) (oi := { dst := some 79, op := _, type := _, pos := _, after := _, guard := _ }) (v := ?_) rfl (by kernel_rfl) (by kernel_rfl) (by kernel_rfl) (fun _ _ _ h => h) (Or.inl ⟨by rfl, ?_⟩) (by assumption) ?_
  rotate_left
  · intro w hSw
    first | (go_simp; done) | (go_simp; with_reducible rfl)
  try simp only [Act.put, List.setIfInBounds_toArray, List.set_cons_zero, List.set_cons_succ]
  refine wpAnyH_take (i := 6) (oi := { dst := some 85, op := _, type := _, pos := _, after := _, guard := _ }) (v := ?_) rfl (by kernel_rfl) (by kernel_rfl) (by kernel_rfl) (fun _ _ _ h => h) (Or.inl ⟨by rfl, ?_⟩) (by assumption) ?_
  rotate_left
  · intro w hSw
    first | (go_simp; done) | (go_simp; with_reducible rfl)
  try simp only [Act.put, List.setIfInBounds_toArray, List.set_cons_zero, List.set_cons_succ]
  refine wpAnyH_take (i := 7) (oi := { dst := some 86, op := _, type := _, pos := _, after := _, guard := _ }) (v := ?_) rfl (by kernel_rfl) (by kernel_rfl) (by kernel_rfl) (fun _ _ _ h => h) (Or.inl ⟨by rfl, ?_⟩) (by assumption) ?_
  rotate_left
  · intro w hSw
    first | (go_simp; done) | (go_simp; with_reducible rfl)
  try simp only [Act.put, List.setIfInBounds_toArray, List.set_cons_zero, List.set_cons_succ]
  refine wpAnyH_take (i := 8) (oi := { dst := some 14, op := _, type := _, pos := _, after := _, guard := _ }) (v := ?_) rfl (by kernel_rfl) (by kernel_rfl) (by kernel_rfl) (fun _ _ _ h => h) (Or.inl ⟨by rfl, ?_⟩) (by assumption) ?_
  rotate_left
  · intro w hSw
    first | (go_simp; done) | (go_simp; with_reducible rfl)
  try simp only [Act.put, List.setIfInBounds_toArray, List.set_cons_zero, List.set_cons_succ]
  refine wpAnyH_take (i := 9) (oi := { dst := some 15, op := _, type := _, pos := _, after := _, guard := _ }) (v := ?_) rfl (by kernel_rfl) (by kernel_rfl) (by kernel_rfl) (fun _ _ _ h => h) (Or.inl ⟨by rfl, ?_⟩) (by assumption) ?_
  rotate_left
  · intro w hSw
    first | (go_simp; done) | (go_simp; with_reducible rfl)
  try simp only [Act.put, List.setIfInBounds_toArray, List.set_cons_zero, List.set_cons_succ]
  refine wpAnyH_done (by kernel_rfl) ?_ _
  have HH := hide hrh
  have HV15 := hide ((unhide HV12).bel HD)
  have HM15 := hide ((unhide HM12).bel HD)
  have HB15 := hide (below_tr (unhide HB12) HD)
  clear HD hb hx hrh hbh ho2 HV12 HM12 HB12 HE
  go_wp2_with fail
  refine (sameR ys _ _ _ _ _ _ rfl (by omega) (unhide HH) (unhide HV15)).mono ?_
  rintro e w16 ⟨rfl, hb16⟩
  have HM16 := hide ((unhide HM15).bel hb16)
  have HB16 := hide (below_tr (unhide HB15) hb16)
  clear hb16 HM15 HB15 HV15 HH
  go_wp2_with fail
  refine (heldR ys _ _ _ _ rfl (by omega) (unhide HM16)).mono ?_
  rintro e w' ⟨rfl, rfl⟩
  go_wp2_with fail
  go_ret
  exact ⟨rfl, unhide HB16⟩
end Go.Proofs.Ytjdnengmllamcaa
