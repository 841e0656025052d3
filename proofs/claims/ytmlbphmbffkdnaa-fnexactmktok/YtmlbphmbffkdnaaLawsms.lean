/-
  The walk of the exact law FnExactMktOk: at every argument it answers true, and nothing that was there is written.
-/
import Derived.Test.YtmlbphmbffkdnaaHout
import Derived.Test.YtmlbphmbffkdnaaHouz
import Derived.Test.YtmlbphmbffkdnaaMoks
namespace Go.Proofs.Ytmlbphmbffkdnaa
open Go.RowKit
set_option linter.unusedVariables false
set_option maxRecDepth 100000

set_option maxHeartbeats 8000000 in
theorem law14 (h : House) (q : HP) (w : World) (hr : HRow w q h) (hL : HLen h) :
    Calls Try.prog 14 #[hV q h] w (Holds w) := by
  obtain ⟨es, pu, ds, cl, nu, sa⟩ := h
  obtain ⟨a0, k0, a1, k1, a2, k2, a4, k4, a5, k5⟩ := q
  have HR := hide hr
  have HL := hide hL
  clear hr hL
  have HB := hide (Below.refl w.heap.size w)
  replace HB := hide (below_al (o := .cells #[.slice a0 es.length k0, .slice a1 pu.length k1, .slice a2 ds.length k2, .int .i64 cl, .slice a4 nu.length k4, .slice a5 sa.length k5] 96) (unhide HB))
  have HX := hide (box_new w [.slice a0 es.length k0, .slice a1 pu.length k1, .slice a2 ds.length k2, .int .i64 cl, .slice a4 nu.length k4, .slice a5 sa.length k5] 96 (by simp [Value.oneCell']))
  (try simp only [World.size_alloc] at HX)
  by_cases ht : tot ⟨es, pu, ds, cl, nu, sa⟩ ≤ 1048576
  case neg =>
    have hm : (-1 : Int) < 0 := by omega
    have x0 := (unhide HX).cell 0 rfl
    have x1 := (unhide HX).cell 1 rfl
    have x2 := (unhide HX).cell 2 rfl
    have x3 := (unhide HX).cell 3 rfl
    have x4 := (unhide HX).cell 4 rfl
    have x5 := (unhide HX).cell 5 rfl
    go_enter Try.func14, Try.ntmps14
    go_wp2_with fail
    refine (sgM ⟨es, pu, ds, cl, nu, sa⟩ ⟨a0, k0, a1, k1, a2, k2, a4, k4, a5, k5⟩ _ (unhide HL)).mono ?_
    rintro e w1 ⟨rfl, hb⟩
    rw [if_neg ht]
    (try clear x0 x1 x2 x3 x4 x5)
    replace HB := hide (below_tr (unhide HB) hb)
    replace HX := hide ((unhide HX).bel hb)
    clear hb
    have x0 := (unhide HX).cell 0 rfl
    have x1 := (unhide HX).cell 1 rfl
    have x2 := (unhide HX).cell 2 rfl
    have x3 := (unhide HX).cell 3 rfl
    have x4 := (unhide HX).cell 4 rfl
    have x5 := (unhide HX).cell 5 rfl
    go_wp2_with fail
    go_ret
    exact ⟨rfl, unhide HB⟩
  obtain ⟨l, hl⟩ : ∃ l : Nat, (1048576 : Int) - (tot ⟨es, pu, ds, cl, nu, sa⟩ : Int) = (l : Int) := ⟨1048576 - tot ⟨es, pu, ds, cl, nu, sa⟩, by omega⟩
  have hl0 : ¬ ((l : Int) < 0) := by omega
  have hs := small_of ht
  have hs2 : ds.length ≤ 1048576 := hs.2.2.1
  have x0 := (unhide HX).cell 0 rfl
  have x1 := (unhide HX).cell 1 rfl
  have x2 := (unhide HX).cell 2 rfl
  have x3 := (unhide HX).cell 3 rfl
  have x4 := (unhide HX).cell 4 rfl
  have x5 := (unhide HX).cell 5 rfl
  go_enter Try.func14, Try.ntmps14
  go_wp2_with fail
  refine (sgM ⟨es, pu, ds, cl, nu, sa⟩ ⟨a0, k0, a1, k1, a2, k2, a4, k4, a5, k5⟩ _ (unhide HL)).mono ?_
  rintro e w1 ⟨rfl, hb⟩
  rw [if_pos ht, hl]
  (try clear x0 x1 x2 x3 x4 x5)
  replace HB := hide (below_tr (unhide HB) hb)
  replace HX := hide ((unhide HX).bel hb)
  clear hb
  have x0 := (unhide HX).cell 0 rfl
  have x1 := (unhide HX).cell 1 rfl
  have x2 := (unhide HX).cell 2 rfl
  have x3 := (unhide HX).cell 3 rfl
  have x4 := (unhide HX).cell 4 rfl
  have x5 := (unhide HX).cell 5 rfl
  go_wp2_with fail
  obtain ⟨bb, HMK⟩ : ∃ X, Hid (mktOk ⟨es, pu, ds, cl, nu, sa⟩ = X) := ⟨_, rfl⟩
  refine (c83 ⟨es, pu, ds, cl, nu, sa⟩ ⟨a0, k0, a1, k1, a2, k2, a4, k4, a5, k5⟩ _ hs ((unhide HR).bel (unhide HB))).mono ?_
  rintro e w2 ⟨⟨bs0, js0, bs1, js1, bs2, js2, bs4, js4, bs5, js5⟩, rfl, ho, hb⟩
  (try clear x0 x1 x2 x3 x4 x5)
  replace HB := hide (below_tr (unhide HB) hb)
  replace HX := hide ((unhide HX).bel hb)
  have HS := hide (ho)
  clear hb ho
  have x0 := (unhide HX).cell 0 rfl
  have x1 := (unhide HX).cell 1 rfl
  have x2 := (unhide HX).cell 2 rfl
  have x3 := (unhide HX).cell 3 rfl
  have x4 := (unhide HX).cell 4 rfl
  have x5 := (unhide HX).cell 5 rfl
  go_wp2_with fail
  refine (c33 ⟨es, pu, ds, cl, nu, sa⟩ ⟨bs0, js0, bs1, js1, bs2, js2, bs4, js4, bs5, js5⟩ _ hs (unhide HS).rd).mono ?_
  rintro e w3 ⟨rfl, hb⟩
  rw [unhide HMK]
  (try clear x0 x1 x2 x3 x4 x5)
  replace HB := hide (below_tr (unhide HB) hb)
  replace HX := hide ((unhide HX).bel hb)
  clear HS
  clear hb
  have x0 := (unhide HX).cell 0 rfl
  have x1 := (unhide HX).cell 1 rfl
  have x2 := (unhide HX).cell 2 rfl
  have x3 := (unhide HX).cell 3 rfl
  have x4 := (unhide HX).cell 4 rfl
  have x5 := (unhide HX).cell 5 rfl
  go_wp2_with fail
  refine (c83 ⟨es, pu, ds, cl, nu, sa⟩ ⟨a0, k0, a1, k1, a2, k2, a4, k4, a5, k5⟩ _ hs ((unhide HR).bel (unhide HB))).mono ?_
  rintro e w4 ⟨⟨bm0, jm0, bm1, jm1, bm2, jm2, bm4, jm4, bm5, jm5⟩, rfl, ho, hb⟩
  (try clear x0 x1 x2 x3 x4 x5)
  replace HB := hide (below_tr (unhide HB) hb)
  replace HX := hide ((unhide HX).bel hb)
  have HM := hide (ho)
  clear hb ho
  have x0 := (unhide HX).cell 0 rfl
  have x1 := (unhide HX).cell 1 rfl
  have x2 := (unhide HX).cell 2 rfl
  have x3 := (unhide HX).cell 3 rfl
  have x4 := (unhide HX).cell 4 rfl
  have x5 := (unhide HX).cell 5 rfl
  (try clear x0 x1 x2 x3 x4 x5)
  replace HB := hide (below_al (o := .cells #[.slice bm0 es.length jm0, .slice bm1 pu.length jm1, .slice bm2 ds.length jm2, .int .i64 cl, .slice bm4 nu.length jm4, .slice bm5 sa.length jm5] 28) (unhide HB))
  replace HX := hide ((unhide HX).bel (below_a (.cells #[.slice bm0 es.length jm0, .slice bm1 pu.length jm1, .slice bm2 ds.length jm2, .int .i64 cl, .slice bm4 nu.length jm4, .slice bm5 sa.length jm5] 28)))
  replace HM := hide ((unhide HM).bel (below_a (.cells #[.slice bm0 es.length jm0, .slice bm1 pu.length jm1, .slice bm2 ds.length jm2, .int .i64 cl, .slice bm4 nu.length jm4, .slice bm5 sa.length jm5] 28)))
  have HY := hide (box_new w4 [.slice bm0 es.length jm0, .slice bm1 pu.length jm1, .slice bm2 ds.length jm2, .int .i64 cl, .slice bm4 nu.length jm4, .slice bm5 sa.length jm5] 28 (by simp [Value.oneCell']))
  have x0 := (unhide HX).cell 0 rfl
  have x1 := (unhide HX).cell 1 rfl
  have x2 := (unhide HX).cell 2 rfl
  have x3 := (unhide HX).cell 3 rfl
  have x4 := (unhide HX).cell 4 rfl
  have x5 := (unhide HX).cell 5 rfl
  have y0 := (unhide HY).cell 0 rfl
  have y1 := (unhide HY).cell 1 rfl
  have y2 := (unhide HY).cell 2 rfl
  have y3 := (unhide HY).cell 3 rfl
  have y4 := (unhide HY).cell 4 rfl
  have y5 := (unhide HY).cell 5 rfl
  go_wp2_with fail
  refine (c26 ⟨es, pu, ds, cl, nu, sa⟩ ⟨bm0, jm0, bm1, jm1, bm2, jm2, bm4, jm4, bm5, jm5⟩ _ hs (unhide HM).rd).mono ?_
  rintro e w5 ⟨rfl, hb⟩
  rw [unhide HMK]
  (try clear x0 x1 x2 x3 x4 x5 y0 y1 y2 y3 y4 y5)
  replace HB := hide (below_tr (unhide HB) hb)
  replace HX := hide ((unhide HX).bel hb)
  replace HM := hide ((unhide HM).bel hb)
  replace HY := hide ((unhide HY).bel hb)
  clear hb
  have x0 := (unhide HX).cell 0 rfl
  have x1 := (unhide HX).cell 1 rfl
  have x2 := (unhide HX).cell 2 rfl
  have x3 := (unhide HX).cell 3 rfl
  have x4 := (unhide HX).cell 4 rfl
  have x5 := (unhide HX).cell 5 rfl
  have y0 := (unhide HY).cell 0 rfl
  have y1 := (unhide HY).cell 1 rfl
  have y2 := (unhide HY).cell 2 rfl
  have y3 := (unhide HY).cell 3 rfl
  have y4 := (unhide HY).cell 4 rfl
  have y5 := (unhide HY).cell 5 rfl
  go_wp2_with fail
  (try clear x0 x1 x2 x3 x4 x5 y0 y1 y2 y3 y4 y5)
  refine wp_region_held_drew (S := fun w' => Below w5.heap.size w5 w') (by kernel_rfl) (below_drew w5) (fun hHeld => ?_)
  refine tk 0 (some 22) (v := ?_) ?_ ?_
  rotate_left
  · intro w hSw
    have hT := (unhide HX).below hSw; have x0 := hT.cell 0 rfl; have x1 := hT.cell 1 rfl; have x2 := hT.cell 2 rfl; have x3 := hT.cell 3 rfl; have x4 := hT.cell 4 rfl; have x5 := hT.cell 5 rfl; clear hT; have hT := (unhide HY).below hSw; have y0 := hT.cell 0 rfl; have y1 := hT.cell 1 rfl; have y2 := hT.cell 2 rfl; have y3 := hT.cell 3 rfl; have y4 := hT.cell 4 rfl; have y5 := hT.cell 5 rfl; clear hT
    first | (go_simp; done) | (go_simp; with_reducible rfl) | with_reducible rfl | rfl
  try simp only [Act.put, List.setIfInBounds_toArray, List.set_cons_zero, List.set_cons_succ]
  refine tk 1 (some 23) (v := ?_) ?_ ?_
  rotate_left
  · intro w hSw
    have hT := (unhide HX).below hSw; have x0 := hT.cell 0 rfl; have x1 := hT.cell 1 rfl; have x2 := hT.cell 2 rfl; have x3 := hT.cell 3 rfl; have x4 := hT.cell 4 rfl; have x5 := hT.cell 5 rfl; clear hT; have hT := (unhide HY).below hSw; have y0 := hT.cell 0 rfl; have y1 := hT.cell 1 rfl; have y2 := hT.cell 2 rfl; have y3 := hT.cell 3 rfl; have y4 := hT.cell 4 rfl; have y5 := hT.cell 5 rfl; clear hT
    first | (go_simp; done) | (go_simp; with_reducible rfl) | with_reducible rfl | rfl
  try simp only [Act.put, List.setIfInBounds_toArray, List.set_cons_zero, List.set_cons_succ]
  have HD := below_drew w5
  generalize w5.drew = V0 at *
  refine wpAnyH_ready (rs := [2]) (by kernel_rfl) (by simp) ?_
  refine AllReadyH.cons (o := { dst := some 24, op := _, type := _, pos := _, after := _, guard := _ }) rfl (fun K hK => ?_) AllReadyH.nil
  go_simp
  go_at_call 83
  refine (c83 ⟨es, pu, ds, cl, nu, sa⟩ ⟨a0, k0, a1, k1, a2, k2, a4, k4, a5, k5⟩ _ hs ((unhide HR).bel ((unhide HB).trans (HD.mono (unhide HB).size)))).mono ?_
  rintro e V1 ⟨⟨bz0, jz0, bz1, jz1, bz2, jz2, bz4, jz4, bz5, jz5⟩, rfl, ho, hb⟩
  replace HD := below_then HD hb
  clear hb
  have hoV := ho
  clear ho
  try go_wp2_with fail
  refine hK.out _ _ HD (fun hHeld => ?_)
  clear hK K hHeld
  try simp only [Act.put, List.setIfInBounds_toArray, List.set_cons_zero, List.set_cons_succ]
  refine wpAnyH_ready (rs := [3]) (by kernel_rfl) (by simp) ?_
  refine AllReadyH.cons (o := { dst := some 25, op := _, type := _, pos := _, after := _, guard := _ }) rfl (fun K hK => ?_) AllReadyH.nil
  go_simp
  go_at_call 84
  refine (sameH ⟨es, pu, ds, cl, nu, sa⟩ ⟨bm0, jm0, bm1, jm1, bm2, jm2, bm4, jm4, bm5, jm5⟩ ⟨bz0, jz0, bz1, jz1, bz2, jz2, bz4, jz4, bz5, jz5⟩ _ hs (((unhide HM).bel HD).rd) (hoV.rd)).mono ?_
  rintro e V2 ⟨rfl, hb⟩
  replace hoV := hoV.bel hb
  replace HD := below_then HD hb
  clear hb
  try go_wp2_with fail
  refine hK.out _ _ HD (fun hHeld => ?_)
  clear hK K hHeld
  try simp only [Act.put, List.setIfInBounds_toArray, List.set_cons_zero, List.set_cons_succ]
  refine tk 4 (some 26) (v := ?_) ?_ ?_
  rotate_left
  · intro w hSw
    first | (go_simp; done) | (go_simp; with_reducible rfl) | with_reducible rfl | rfl
  try simp only [Act.put, List.setIfInBounds_toArray, List.set_cons_zero, List.set_cons_succ]
  refine wpAnyH_done (by kernel_rfl) ?_ _
  replace HB := hide (below_tr (unhide HB) HD)
  replace HX := hide ((unhide HX).bel HD)
  replace HM := hide ((unhide HM).bel HD)
  replace HY := hide ((unhide HY).bel HD)
  have HhoV := hide hoV
  clear HD hoV
  have x0 := (unhide HX).cell 0 rfl
  have x1 := (unhide HX).cell 1 rfl
  have x2 := (unhide HX).cell 2 rfl
  have x3 := (unhide HX).cell 3 rfl
  have x4 := (unhide HX).cell 4 rfl
  have x5 := (unhide HX).cell 5 rfl
  have y0 := (unhide HY).cell 0 rfl
  have y1 := (unhide HY).cell 1 rfl
  have y2 := (unhide HY).cell 2 rfl
  have y3 := (unhide HY).cell 3 rfl
  have y4 := (unhide HY).cell 4 rfl
  have y5 := (unhide HY).cell 5 rfl
  go_wp2_with fail
  go_ret
  exact ⟨rfl, unhide HB⟩
end Go.Proofs.Ytmlbphmbffkdnaa
