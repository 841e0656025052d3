/-
  The walk of the exact law FnExactGatOk: at every argument it answers true, and nothing that was there is written.
-/
import Derived.Test.YtdpkdcdieajkbaaLawsgb
namespace Go.Proofs.Ytdpkdcdieajkbaa
open Go.RowKit
set_option linter.unusedVariables false
set_option maxRecDepth 100000

set_option maxHeartbeats 8000000 in
theorem law20 (s l o : Int) (zs : List Int) (ao : Option Addr) (n cap : Nat) (w : World) (hn : zs.length = n) (hcap : n ≤ cap) (hmx : cap ≤ maxLen) (hr : Row w ao zs) :
    Calls Try.prog 20 #[gatV s l o (.slice ao n cap)] w (Holds w) := by
  unfold maxLen at hmx
  have HA := hide hr
  have HN := hide hn
  clear hr hn
  have HB := hide (Below.refl w.heap.size w)
  replace HB := hide (below_al (o := .cells #[.int .i64 s, .int .i64 l, .int .i64 o, .slice ao n cap] 118) (unhide HB))
  have HX := hide (box_new w [.int .i64 s, .int .i64 l, .int .i64 o, .slice ao n cap] 118 (by simp [Value.oneCell']))
  (try simp only [World.size_alloc] at HX)
  by_cases hbig : n ≤ 1048576
  case neg =>
    have x0 := (unhide HX).cell 0 rfl
    have x1 := (unhide HX).cell 1 rfl
    have x2 := (unhide HX).cell 2 rfl
    have x3 := (unhide HX).cell 3 rfl
    go_enter Try.func20, Try.ntmps20
    go_wp2_with fail
    refine (sgG s l o ao n cap 1048576 _ (Nat.le_refl _) (by omega)).mono ?_
    rintro e w1 ⟨rfl, hb⟩
    rw [if_neg hbig]
    (try clear x0 x1 x2 x3)
    replace HB := hide (below_tr (unhide HB) hb)
    replace HX := hide ((unhide HX).bel hb)
    clear hb
    have x0 := (unhide HX).cell 0 rfl
    have x1 := (unhide HX).cell 1 rfl
    have x2 := (unhide HX).cell 2 rfl
    have x3 := (unhide HX).cell 3 rfl
    go_wp2_with fail
    go_ret
    exact ⟨rfl, unhide HB⟩
  have hl0 : ¬ (((1048576 : Nat) : Int) - (n : Int) < 0) := by omega
  have hl0' : ¬ ((1048576 : Int) - (n : Int) < 0) := by omega
  have x0 := (unhide HX).cell 0 rfl
  have x1 := (unhide HX).cell 1 rfl
  have x2 := (unhide HX).cell 2 rfl
  have x3 := (unhide HX).cell 3 rfl
  go_enter Try.func20, Try.ntmps20
  go_wp2_with fail
  refine (sgG s l o ao n cap 1048576 _ (Nat.le_refl _) (by omega)).mono ?_
  rintro e w1 ⟨rfl, hb⟩
  rw [if_pos hbig]
  (try clear x0 x1 x2 x3)
  replace HB := hide (below_tr (unhide HB) hb)
  replace HX := hide ((unhide HX).bel hb)
  clear hb
  have x0 := (unhide HX).cell 0 rfl
  have x1 := (unhide HX).cell 1 rfl
  have x2 := (unhide HX).cell 2 rfl
  have x3 := (unhide HX).cell 3 rfl
  go_wp2_with fail
  refine (c101 s l o zs ao n cap _ (unhide HN) (by omega) ((unhide HA).bel (unhide HB))).mono ?_
  rintro e w2 ⟨v, rfl, ho, hb⟩
  obtain ⟨aHT, cHT, rfl, hcHT, hzHT, hrHT, -⟩ := ho.any
  rw [unhide HN] at hcHT ho ⊢
  (try clear x0 x1 x2 x3)
  replace HB := hide (below_tr (unhide HB) hb)
  replace HX := hide ((unhide HX).bel hb)
  have HT := hide (ho)
  clear hb ho hrHT
  have x0 := (unhide HX).cell 0 rfl
  have x1 := (unhide HX).cell 1 rfl
  have x2 := (unhide HX).cell 2 rfl
  have x3 := (unhide HX).cell 3 rfl
  go_wp2_with fail
  refine (c37 s l o zs _ n _ _ (unhide HN) hbig ((unhide HT).rd (unhide HN))).mono ?_
  rintro e w3 ⟨rfl, hb⟩
  generalize hqq : gatOk s l o zs = vv at *
  have HQQ := hide hqq
  clear hqq
  (try clear x0 x1 x2 x3)
  replace HB := hide (below_tr (unhide HB) hb)
  replace HX := hide ((unhide HX).bel hb)
  clear HT
  clear hb
  have x0 := (unhide HX).cell 0 rfl
  have x1 := (unhide HX).cell 1 rfl
  have x2 := (unhide HX).cell 2 rfl
  have x3 := (unhide HX).cell 3 rfl
  go_wp2_with fail
  refine (c101 s l o zs ao n cap _ (unhide HN) (by omega) ((unhide HA).bel (unhide HB))).mono ?_
  rintro e w4 ⟨v, rfl, ho, hb⟩
  obtain ⟨aHU, cHU, rfl, hcHU, hzHU, hrHU, -⟩ := ho.any
  rw [unhide HN] at hcHU ho ⊢
  (try clear x0 x1 x2 x3)
  replace HB := hide (below_tr (unhide HB) hb)
  replace HX := hide ((unhide HX).bel hb)
  have HU := hide (ho)
  clear hb ho hrHU
  have x0 := (unhide HX).cell 0 rfl
  have x1 := (unhide HX).cell 1 rfl
  have x2 := (unhide HX).cell 2 rfl
  have x3 := (unhide HX).cell 3 rfl
  (try clear x0 x1 x2 x3)
  replace HB := hide (below_al (o := .cells #[.int .i64 s, .int .i64 l, .int .i64 o, .slice aHU n cHU] 41) (unhide HB))
  replace HX := hide ((unhide HX).bel (below_a (.cells #[.int .i64 s, .int .i64 l, .int .i64 o, .slice aHU n cHU] 41)))
  replace HU := hide ((unhide HU).bel (below_a (.cells #[.int .i64 s, .int .i64 l, .int .i64 o, .slice aHU n cHU] 41)))
  have HY := hide (box_new w4 [.int .i64 s, .int .i64 l, .int .i64 o, .slice aHU n cHU] 41 (by simp [Value.oneCell']))
  have x0 := (unhide HX).cell 0 rfl
  have x1 := (unhide HX).cell 1 rfl
  have x2 := (unhide HX).cell 2 rfl
  have x3 := (unhide HX).cell 3 rfl
  have y0 := (unhide HY).cell 0 rfl
  have y1 := (unhide HY).cell 1 rfl
  have y2 := (unhide HY).cell 2 rfl
  have y3 := (unhide HY).cell 3 rfl
  go_wp2_with fail
  refine (c36 s l o zs _ n _ _ (unhide HN) hbig ((unhide HU).rd (unhide HN))).mono ?_
  rintro e w5 ⟨rfl, hb⟩
  rw [unhide HQQ]
  (try clear x0 x1 x2 x3 y0 y1 y2 y3)
  replace HB := hide (below_tr (unhide HB) hb)
  replace HX := hide ((unhide HX).bel hb)
  replace HU := hide ((unhide HU).bel hb)
  replace HY := hide ((unhide HY).bel hb)
  clear hb
  have x0 := (unhide HX).cell 0 rfl
  have x1 := (unhide HX).cell 1 rfl
  have x2 := (unhide HX).cell 2 rfl
  have x3 := (unhide HX).cell 3 rfl
  have y0 := (unhide HY).cell 0 rfl
  have y1 := (unhide HY).cell 1 rfl
  have y2 := (unhide HY).cell 2 rfl
  have y3 := (unhide HY).cell 3 rfl
  go_wp2_with fail
  (try clear x0 x1 x2 x3 y0 y1 y2 y3)
  refine wp_region_held_drew (S := fun w' => Below w5.heap.size w5 w') (by kernel_rfl) (below_drew w5) (fun hHeld => ?_)
  refine wpAnyH_take (i := 0) (oi := { dst := some 22, op := _, type := _, pos := _, after := _, guard := _ }) (v := ?_) rfl (by kernel_rfl) (by kernel_rfl) (by kernel_rfl) (fun _ _ _ h => h) (Or.inl ⟨by rfl, ?_⟩) (by assumption) ?_
  rotate_left
  · intro w hSw
    have hT := (unhide HX).below hSw; have x0 := hT.cell 0 rfl; have x1 := hT.cell 1 rfl; have x2 := hT.cell 2 rfl; have x3 := hT.cell 3 rfl; clear hT; have hT := (unhide HY).below hSw; have y0 := hT.cell 0 rfl; have y1 := hT.cell 1 rfl; have y2 := hT.cell 2 rfl; have y3 := hT.cell 3 rfl; clear hT
    first | (go_simp; done) | (go_simp; with_reducible rfl) | with_reducible rfl | rfl
  try simp only [Act.put, List.setIfInBounds_toArray, List.set_cons_zero, List.set_cons_succ]
  refine wpAnyH_take (i := 1) (oi := { dst := some 23, op := _, type := _, pos := _, after := _, guard := _ }) (v := ?_) rfl (by kernel_rfl) (by kernel_rfl) (by kernel_rfl) (fun _ _ _ h => h) (Or.inl ⟨by rfl, ?_⟩) (by assumption) ?_
  rotate_left
  · intro w hSw
    have hT := (unhide HX).below hSw; have x0 := hT.cell 0 rfl; have x1 := hT.cell 1 rfl; have x2 := hT.cell 2 rfl; have x3 := hT.cell 3 rfl; clear hT; have hT := (unhide HY).below hSw; have y0 := hT.cell 0 rfl; have y1 := hT.cell 1 rfl; have y2 := hT.cell 2 rfl; have y3 := hT.cell 3 rfl; clear hT
    first | (go_simp; done) | (go_simp; with_reducible rfl) | with_reducible rfl | rfl
  try simp only [Act.put, List.setIfInBounds_toArray, List.set_cons_zero, List.set_cons_succ]
  have HD := below_drew w5
  generalize w5.drew = V0 at *
  refine wpAnyH_ready (rs := [2]) (by kernel_rfl) (by simp) ?_
  refine AllReadyH.cons (o := { dst := some 24, op := _, type := _, pos := _, after := _, guard := _ }) rfl (fun K hK => ?_) AllReadyH.nil
  go_simp
  go_at_call 101
  refine (c101 s l o zs ao n cap _ (unhide HN) (by omega) ((unhide HA).bel ((unhide HB).trans (HD.mono (unhide HB).size)))).mono ?_
  rintro e V1 ⟨v, rfl, ho, hb⟩
  replace HD := below_then HD hb
  clear hb
  obtain ⟨aHV, cHV, rfl, hcHV, hzHV, hrHV, -⟩ := ho.any
  rw [unhide HN] at hcHV ho ⊢
  have hoV := ho
  clear ho hrHV
  try go_wp2_with fail
  refine hK.out _ _ HD (fun hHeld => ?_)
  clear hK K hHeld
  try simp only [Act.put, List.setIfInBounds_toArray, List.set_cons_zero, List.set_cons_succ]
  refine wpAnyH_ready (rs := [3]) (by kernel_rfl) (by simp) ?_
  refine AllReadyH.cons (o := { dst := some 25, op := _, type := _, pos := _, after := _, guard := _ }) rfl (fun K hK => ?_) AllReadyH.nil
  go_simp
  go_at_call 97
  refine (sameG s l o zs _ _ n _ _ _ (unhide HN) hbig (((unhide HU).bel HD).rd (unhide HN)) (hoV.rd (unhide HN))).mono ?_
  rintro e V2 ⟨rfl, hb⟩
  replace hoV := hoV.bel hb
  replace HD := below_then HD hb
  clear hb
  try go_wp2_with fail
  refine hK.out _ _ HD (fun hHeld => ?_)
  clear hK K hHeld
  try simp only [Act.put, List.setIfInBounds_toArray, List.set_cons_zero, List.set_cons_succ]
  refine wpAnyH_take (i := 4) (oi := { dst := some 26, op := _, type := _, pos := _, after := _, guard := _ }) (v := ?_) rfl (by kernel_rfl) (by kernel_rfl) (by kernel_rfl) (fun _ _ _ h => h) (Or.inl ⟨by rfl, ?_⟩) (by assumption) ?_
  rotate_left
  · intro w hSw
    first | (go_simp; done) | (go_simp; with_reducible rfl) | with_reducible rfl | rfl
  try simp only [Act.put, List.setIfInBounds_toArray, List.set_cons_zero, List.set_cons_succ]
  refine wpAnyH_done (by kernel_rfl) ?_ _
  replace HB := hide (below_tr (unhide HB) HD)
  replace HX := hide ((unhide HX).bel HD)
  replace HU := hide ((unhide HU).bel HD)
  replace HY := hide ((unhide HY).bel HD)
  have HhoV := hide hoV
  clear HD hoV
  have x0 := (unhide HX).cell 0 rfl
  have x1 := (unhide HX).cell 1 rfl
  have x2 := (unhide HX).cell 2 rfl
  have x3 := (unhide HX).cell 3 rfl
  have y0 := (unhide HY).cell 0 rfl
  have y1 := (unhide HY).cell 1 rfl
  have y2 := (unhide HY).cell 2 rfl
  have y3 := (unhide HY).cell 3 rfl
  go_wp2_with fail
  go_ret
  exact ⟨rfl, unhide HB⟩
end Go.Proofs.Ytdpkdcdieajkbaa
