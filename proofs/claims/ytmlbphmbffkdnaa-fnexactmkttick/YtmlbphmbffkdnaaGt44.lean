/-
  Texts of the proof, what it needs of them: Ticke.
-/
import Derived.Test.YtmlbphmbffkdnaaGt43
namespace Go.Proofs.Ytmlbphmbffkdnaa
open Go.RowKit
set_option linter.unusedVariables false
set_option maxRecDepth 100000


set_option maxHeartbeats 8000000 in
theorem c32 (h : House) (q : HP) (w : World) (hs : Small h) (hr : HRow w q h) : Calls Try.prog 32 #[hV q h] w (MTold w (mtickH h) (mtickB h)) := by
  obtain ⟨es, pu, ds, cl, nu, sa⟩ := h
  obtain ⟨a0, k0, a1, k1, a2, k2, a4, k4, a5, k5⟩ := q
  have HRR := hide hr
  have HSM := hide hs
  clear hr hs
  have HB := hide (Below.refl w.heap.size w)
  replace HB := hide (below_al (o := .cells #[.slice a0 es.length k0, .slice a1 pu.length k1, .slice a2 ds.length k2, .int .i64 cl, .slice a4 nu.length k4, .slice a5 sa.length k5] 28) (unhide HB))
  replace HRR := hide ((unhide HRR).bel (below_a (.cells #[.slice a0 es.length k0, .slice a1 pu.length k1, .slice a2 ds.length k2, .int .i64 cl, .slice a4 nu.length k4, .slice a5 sa.length k5] 28)))
  have HX := hide (box_new w [.slice a0 es.length k0, .slice a1 pu.length k1, .slice a2 ds.length k2, .int .i64 cl, .slice a4 nu.length k4, .slice a5 sa.length k5] 28 (by simp [Value.oneCell']))
  (try simp only [World.size_alloc] at HX)
  replace HB := hide (below_al (o := .cells #[.slice none 0 0, .slice none 0 0, .slice none 0 0, .int .i64 0, .slice none 0 0, .slice none 0 0] 28) (unhide HB))
  replace HRR := hide ((unhide HRR).bel (below_a (.cells #[.slice none 0 0, .slice none 0 0, .slice none 0 0, .int .i64 0, .slice none 0 0, .slice none 0 0] 28)))
  replace HX := hide ((unhide HX).bel (below_a (.cells #[.slice none 0 0, .slice none 0 0, .slice none 0 0, .int .i64 0, .slice none 0 0, .slice none 0 0] 28)))
  have HY := hide (box_new (w.alloc (.cells #[.slice a0 es.length k0, .slice a1 pu.length k1, .slice a2 ds.length k2, .int .i64 cl, .slice a4 nu.length k4, .slice a5 sa.length k5] 28)) [.slice none 0 0, .slice none 0 0, .slice none 0 0, .int .i64 0, .slice none 0 0, .slice none 0 0] 28 (by simp [Value.oneCell']))
  (try simp only [World.size_alloc] at HY)
  have x0 := (unhide HX).cell 0 rfl
  have x1 := (unhide HX).cell 1 rfl
  have x2 := (unhide HX).cell 2 rfl
  have x3 := (unhide HX).cell 3 rfl
  have x4 := (unhide HX).cell 4 rfl
  have x5 := (unhide HX).cell 5 rfl
  have y0 := (unhide HY).cell 0 rfl
  have y0f := (unhide HY).frozen 0 rfl
  have y1 := (unhide HY).cell 1 rfl
  have y1f := (unhide HY).frozen 1 rfl
  have y2 := (unhide HY).cell 2 rfl
  have y2f := (unhide HY).frozen 2 rfl
  have y3 := (unhide HY).cell 3 rfl
  have y3f := (unhide HY).frozen 3 rfl
  have y4 := (unhide HY).cell 4 rfl
  have y4f := (unhide HY).frozen 4 rfl
  have y5 := (unhide HY).cell 5 rfl
  have y5f := (unhide HY).frozen 5 rfl
  go_enter Try.func32, Try.ntmps32
  go_wp2_with fail
  rcases h1 : mktOk ⟨es, pu, ds, cl, nu, sa⟩ with _ | _
  case false =>
    as_aux_lemma =>
      have hg := mt_no h1
      refine (c33 ⟨es, pu, ds, cl, nu, sa⟩ ⟨a0, k0, a1, k1, a2, k2, a4, k4, a5, k5⟩ _ (unhide HSM) (unhide HRR)).mono ?_
      rintro e w1 ⟨rfl, hb⟩
      rw [h1]
      (try clear x0 x1 x2 x3 x4 x5 y0 y0f y1 y1f y2 y2f y3 y3f y4 y4f y5 y5f)
      replace HB := hide (below_tr (unhide HB) hb)
      replace HRR := hide ((unhide HRR).bel hb)
      replace HX := hide ((unhide HX).bel hb)
      replace HY := hide ((unhide HY).bel hb)
      clear hb
      have x0 := (unhide HX).cell 0 rfl
      have x1 := (unhide HX).cell 1 rfl
      have x2 := (unhide HX).cell 2 rfl
      have x3 := (unhide HX).cell 3 rfl
      have x4 := (unhide HX).cell 4 rfl
      have x5 := (unhide HX).cell 5 rfl
      have y0 := (unhide HY).cell 0 rfl
      have y0f := (unhide HY).frozen 0 rfl
      have y1 := (unhide HY).cell 1 rfl
      have y1f := (unhide HY).frozen 1 rfl
      have y2 := (unhide HY).cell 2 rfl
      have y2f := (unhide HY).frozen 2 rfl
      have y3 := (unhide HY).cell 3 rfl
      have y3f := (unhide HY).frozen 3 rfl
      have y4 := (unhide HY).cell 4 rfl
      have y4f := (unhide HY).frozen 4 rfl
      have y5 := (unhide HY).cell 5 rfl
      have y5f := (unhide HY).frozen 5 rfl
      go_wp2_with fail
      (try clear x0 x1 x2 x3 x4 x5 y0 y0f y1 y1f y2 y2f y3 y3f y4 y4f y5 y5f)
      (try clear x0 x1 x2 x3 x4 x5 y0 y0f y1 y1f y2 y2f y3 y3f y4 y4f y5 y5f)
      replace HX := hide ((unhide HX).oth (g' := w.heap.size + 1) (i := 0) (.slice none 0 0) (by omega))
      replace HY := hide (box_put (unhide HY) 0 (.slice none 0 0) (by simp))
      replace HB := hide (below_sc (p := ⟨w.heap.size + 1, 0, none⟩) (v := .slice none 0 0) (unhide HB) (by dsimp only; omega))
      replace HX := hide ((unhide HX).oth (g' := w.heap.size + 1) (i := 1) (.slice none 0 0) (by omega))
      replace HY := hide (box_put (unhide HY) 1 (.slice none 0 0) (by simp))
      replace HB := hide (below_sc (p := ⟨w.heap.size + 1, 1, none⟩) (v := .slice none 0 0) (unhide HB) (by dsimp only; omega))
      replace HX := hide ((unhide HX).oth (g' := w.heap.size + 1) (i := 2) (.slice none 0 0) (by omega))
      replace HY := hide (box_put (unhide HY) 2 (.slice none 0 0) (by simp))
      replace HB := hide (below_sc (p := ⟨w.heap.size + 1, 2, none⟩) (v := .slice none 0 0) (unhide HB) (by dsimp only; omega))
      replace HX := hide ((unhide HX).oth (g' := w.heap.size + 1) (i := 3) (.int .i64 0) (by omega))
      replace HY := hide (box_put (unhide HY) 3 (.int .i64 0) (by simp))
      replace HB := hide (below_sc (p := ⟨w.heap.size + 1, 3, none⟩) (v := .int .i64 0) (unhide HB) (by dsimp only; omega))
      replace HX := hide ((unhide HX).oth (g' := w.heap.size + 1) (i := 4) (.slice none 0 0) (by omega))
      replace HY := hide (box_put (unhide HY) 4 (.slice none 0 0) (by simp))
      replace HB := hide (below_sc (p := ⟨w.heap.size + 1, 4, none⟩) (v := .slice none 0 0) (unhide HB) (by dsimp only; omega))
      replace HX := hide ((unhide HX).oth (g' := w.heap.size + 1) (i := 5) (.slice none 0 0) (by omega))
      replace HY := hide (box_put (unhide HY) 5 (.slice none 0 0) (by simp))
      replace HB := hide (below_sc (p := ⟨w.heap.size + 1, 5, none⟩) (v := .slice none 0 0) (unhide HB) (by dsimp only; omega))
      replace HY := hide (show Box _ (w.heap.size + 1) [.slice none 0 0, .slice none 0 0, .slice none 0 0, .int .i64 0, .slice none 0 0, .slice none 0 0] from unhide HY)
      have x0 := (unhide HX).cell 0 rfl
      have x1 := (unhide HX).cell 1 rfl
      have x2 := (unhide HX).cell 2 rfl
      have x3 := (unhide HX).cell 3 rfl
      have x4 := (unhide HX).cell 4 rfl
      have x5 := (unhide HX).cell 5 rfl
      have y0 := (unhide HY).cell 0 rfl
      have y1 := (unhide HY).cell 1 rfl
      have y2 := (unhide HY).cell 2 rfl
      have y3 := (unhide HY).cell 3 rfl
      have y4 := (unhide HY).cell 4 rfl
      have y5 := (unhide HY).cell 5 rfl
      refine bodyPost_ret (v := .tuple #[.agg #[.slice none 0 0, .slice none 0 0, .slice none 0 0, .int .i64 0, .slice none 0 0, .slice none 0 0], .bool false]) (results_ct Try.results32 rfl (load_house (unhide HY))) rfl ?_
      show MTold w (mtickH ⟨es, pu, ds, cl, nu, sa⟩) (mtickB ⟨es, pu, ds, cl, nu, sa⟩) _ _
      rw [hg.1, hg.2]
      exact ⟨⟨none, 0, none, 0, none, 0, none, 0, none, 0⟩, rfl, zeroOwn _ _ (unhide HB).size, unhide HB⟩
  refine (c33 ⟨es, pu, ds, cl, nu, sa⟩ ⟨a0, k0, a1, k1, a2, k2, a4, k4, a5, k5⟩ _ (unhide HSM) (unhide HRR)).mono ?_
  rintro e w1 ⟨rfl, hb⟩
  rw [h1]
  (try clear x0 x1 x2 x3 x4 x5 y0 y0f y1 y1f y2 y2f y3 y3f y4 y4f y5 y5f)
  replace HB := hide (below_tr (unhide HB) hb)
  replace HRR := hide ((unhide HRR).bel hb)
  replace HX := hide ((unhide HX).bel hb)
  replace HY := hide ((unhide HY).bel hb)
  clear hb
  have x0 := (unhide HX).cell 0 rfl
  have x1 := (unhide HX).cell 1 rfl
  have x2 := (unhide HX).cell 2 rfl
  have x3 := (unhide HX).cell 3 rfl
  have x4 := (unhide HX).cell 4 rfl
  have x5 := (unhide HX).cell 5 rfl
  have y0 := (unhide HY).cell 0 rfl
  have y0f := (unhide HY).frozen 0 rfl
  have y1 := (unhide HY).cell 1 rfl
  have y1f := (unhide HY).frozen 1 rfl
  have y2 := (unhide HY).cell 2 rfl
  have y2f := (unhide HY).frozen 2 rfl
  have y3 := (unhide HY).cell 3 rfl
  have y3f := (unhide HY).frozen 3 rfl
  have y4 := (unhide HY).cell 4 rfl
  have y4f := (unhide HY).frozen 4 rfl
  have y5 := (unhide HY).cell 5 rfl
  have y5f := (unhide HY).frozen 5 rfl
  go_wp2_with fail
  have hgy1 := (unhide HY).lt
  refine (c119 ⟨es, pu, ds, cl, nu, sa⟩ ⟨a0, k0, a1, k1, a2, k2, a4, k4, a5, k5⟩ _ (unhide HSM) (unhide HRR)).mono ?_
  rintro e w2 ⟨⟨b0, j0, b1, j1, b2, j2, b4, j4, b5, j5⟩, rfl, ho, hb⟩
  have hgy2 := Nat.lt_of_lt_of_le hgy1 hb.size
  have h12 := hb.size
  (try clear x0 x1 x2 x3 x4 x5 y0 y0f y1 y1f y2 y2f y3 y3f y4 y4f y5 y5f)
  replace HB := hide (below_tr (unhide HB) hb)
  replace HRR := hide ((unhide HRR).bel hb)
  replace HX := hide ((unhide HX).bel hb)
  replace HY := hide ((unhide HY).bel hb)
  have HO := hide (ho)
  clear hb ho
  have x0 := (unhide HX).cell 0 rfl
  have x1 := (unhide HX).cell 1 rfl
  have x2 := (unhide HX).cell 2 rfl
  have x3 := (unhide HX).cell 3 rfl
  have x4 := (unhide HX).cell 4 rfl
  have x5 := (unhide HX).cell 5 rfl
  have y0 := (unhide HY).cell 0 rfl
  have y0f := (unhide HY).frozen 0 rfl
  have y1 := (unhide HY).cell 1 rfl
  have y1f := (unhide HY).frozen 1 rfl
  have y2 := (unhide HY).cell 2 rfl
  have y2f := (unhide HY).frozen 2 rfl
  have y3 := (unhide HY).cell 3 rfl
  have y3f := (unhide HY).frozen 3 rfl
  have y4 := (unhide HY).cell 4 rfl
  have y4f := (unhide HY).frozen 4 rfl
  have y5 := (unhide HY).cell 5 rfl
  have y5f := (unhide HY).frozen 5 rfl
  have HY2 := hide (unhide HY)
  have HO2 := hide (unhide HO)
  have HB2 := hide (unhide HB)
  have uf0 := (unhide HY).frozen 0 rfl
  have uc0 := (unhide HY).cell 0 rfl
  have uf1 := (unhide HY).frozen 1 rfl
  have uc1 := (unhide HY).cell 1 rfl
  have uf2 := (unhide HY).frozen 2 rfl
  have uc2 := (unhide HY).cell 2 rfl
  have uf3 := (unhide HY).frozen 3 rfl
  have uc3 := (unhide HY).cell 3 rfl
  have uf4 := (unhide HY).frozen 4 rfl
  have uc4 := (unhide HY).cell 4 rfl
  have uf5 := (unhide HY).frozen 5 rfl
  have uc5 := (unhide HY).cell 5 rfl
  (try clear x0 x1 x2 x3 x4 x5 y0 y0f y1 y1f y2 y2f y3 y3f y4 y4f y5 y5f)
  replace HB := hide (below_al (o := .cells #[.slice b0 es.length j0, .slice b1 pu.length j1, .slice b2 ds.length j2, .int .i64 cl, .slice b4 nu.length j4, .slice b5 sa.length j5] 28) (unhide HB))
  replace HRR := hide ((unhide HRR).bel (below_a (.cells #[.slice b0 es.length j0, .slice b1 pu.length j1, .slice b2 ds.length j2, .int .i64 cl, .slice b4 nu.length j4, .slice b5 sa.length j5] 28)))
  replace HX := hide ((unhide HX).bel (below_a (.cells #[.slice b0 es.length j0, .slice b1 pu.length j1, .slice b2 ds.length j2, .int .i64 cl, .slice b4 nu.length j4, .slice b5 sa.length j5] 28)))
  replace HY := hide ((unhide HY).bel (below_a (.cells #[.slice b0 es.length j0, .slice b1 pu.length j1, .slice b2 ds.length j2, .int .i64 cl, .slice b4 nu.length j4, .slice b5 sa.length j5] 28)))
  replace HO := hide ((unhide HO).bel (below_a (.cells #[.slice b0 es.length j0, .slice b1 pu.length j1, .slice b2 ds.length j2, .int .i64 cl, .slice b4 nu.length j4, .slice b5 sa.length j5] 28)))
  have HQ := hide (box_new w2 [.slice b0 es.length j0, .slice b1 pu.length j1, .slice b2 ds.length j2, .int .i64 cl, .slice b4 nu.length j4, .slice b5 sa.length j5] 28 (by simp [Value.oneCell']))
  have x0 := (unhide HX).cell 0 rfl
  have x1 := (unhide HX).cell 1 rfl
  have x2 := (unhide HX).cell 2 rfl
  have x3 := (unhide HX).cell 3 rfl
  have x4 := (unhide HX).cell 4 rfl
  have x5 := (unhide HX).cell 5 rfl
  have y0 := (unhide HY).cell 0 rfl
  have y0f := (unhide HY).frozen 0 rfl
  have y1 := (unhide HY).cell 1 rfl
  have y1f := (unhide HY).frozen 1 rfl
  have y2 := (unhide HY).cell 2 rfl
  have y2f := (unhide HY).frozen 2 rfl
  have y3 := (unhide HY).cell 3 rfl
  have y3f := (unhide HY).frozen 3 rfl
  have y4 := (unhide HY).cell 4 rfl
  have y4f := (unhide HY).frozen 4 rfl
  have y5 := (unhide HY).cell 5 rfl
  have y5f := (unhide HY).frozen 5 rfl
  have q0 := (unhide HQ).cell 0 rfl
  have q1 := (unhide HQ).cell 1 rfl
  have q2 := (unhide HQ).cell 2 rfl
  have q3 := (unhide HQ).cell 3 rfl
  have q4 := (unhide HQ).cell 4 rfl
  have q5 := (unhide HQ).cell 5 rfl
  by_cases h2 : cl = 99999
  case pos =>
    as_aux_lemma =>
      have hg := mt_end (h := ⟨es, pu, ds, cl, nu, sa⟩) h1 h2
      have hcl : (cl == 99999) = true := by rw [beq_iff_eq]; exact h2
      clear h1 h2
      go_wp2_with fail
      (try clear x0 x1 x2 x3 x4 x5 y0 y0f y1 y1f y2 y2f y3 y3f y4 y4f y5 y5f q0 q1 q2 q3 q4 q5)
      clear HY HO HB HQ HX HRR uf0 uc0 uf1 uc1 uf2 uc2 uf3 uc3 uf4 uc4 uf5 uc5
      have HY := HY2
      have HO := HO2
      have HB := HB2
      clear HY2 HO2 HB2
      replace HY := hide (box_put (unhide HY) 0 (.slice b0 es.length j0) (by simp))
      replace HO := hide ((unhide HO).kg (grown_cel _ (w.heap.size + 1) 0 (.slice b0 es.length j0)) (by omega))
      replace HB := hide (below_sc (p := ⟨w.heap.size + 1, 0, none⟩) (v := .slice b0 es.length j0) (unhide HB) (by dsimp only; omega))
      replace HY := hide (box_put (unhide HY) 1 (.slice b1 pu.length j1) (by simp))
      replace HO := hide ((unhide HO).kg (grown_cel _ (w.heap.size + 1) 1 (.slice b1 pu.length j1)) (by omega))
      replace HB := hide (below_sc (p := ⟨w.heap.size + 1, 1, none⟩) (v := .slice b1 pu.length j1) (unhide HB) (by dsimp only; omega))
      replace HY := hide (box_put (unhide HY) 2 (.slice b2 ds.length j2) (by simp))
      replace HO := hide ((unhide HO).kg (grown_cel _ (w.heap.size + 1) 2 (.slice b2 ds.length j2)) (by omega))
      replace HB := hide (below_sc (p := ⟨w.heap.size + 1, 2, none⟩) (v := .slice b2 ds.length j2) (unhide HB) (by dsimp only; omega))
      replace HY := hide (box_put (unhide HY) 3 (.int .i64 cl) (by simp))
      replace HO := hide ((unhide HO).kg (grown_cel _ (w.heap.size + 1) 3 (.int .i64 cl)) (by omega))
      replace HB := hide (below_sc (p := ⟨w.heap.size + 1, 3, none⟩) (v := .int .i64 cl) (unhide HB) (by dsimp only; omega))
      replace HY := hide (box_put (unhide HY) 4 (.slice b4 nu.length j4) (by simp))
      replace HO := hide ((unhide HO).kg (grown_cel _ (w.heap.size + 1) 4 (.slice b4 nu.length j4)) (by omega))
      replace HB := hide (below_sc (p := ⟨w.heap.size + 1, 4, none⟩) (v := .slice b4 nu.length j4) (unhide HB) (by dsimp only; omega))
      replace HY := hide (box_put (unhide HY) 5 (.slice b5 sa.length j5) (by simp))
      replace HO := hide ((unhide HO).kg (grown_cel _ (w.heap.size + 1) 5 (.slice b5 sa.length j5)) (by omega))
      replace HB := hide (below_sc (p := ⟨w.heap.size + 1, 5, none⟩) (v := .slice b5 sa.length j5) (unhide HB) (by dsimp only; omega))
      replace HY := hide (show Box _ (w.heap.size + 1) [.slice b0 es.length j0, .slice b1 pu.length j1, .slice b2 ds.length j2, .int .i64 cl, .slice b4 nu.length j4, .slice b5 sa.length j5] from unhide HY)
      replace HB := hide (below_al (o := .cells #[.slice b0 es.length j0, .slice b1 pu.length j1, .slice b2 ds.length j2, .int .i64 cl, .slice b4 nu.length j4, .slice b5 sa.length j5] 28) (unhide HB))
      replace HY := hide ((unhide HY).bel (below_a (.cells #[.slice b0 es.length j0, .slice b1 pu.length j1, .slice b2 ds.length j2, .int .i64 cl, .slice b4 nu.length j4, .slice b5 sa.length j5] 28)))
      replace HO := hide ((unhide HO).bel (below_a (.cells #[.slice b0 es.length j0, .slice b1 pu.length j1, .slice b2 ds.length j2, .int .i64 cl, .slice b4 nu.length j4, .slice b5 sa.length j5] 28)))
      refine bodyPost_ret (v := .tuple #[.agg #[.slice b0 es.length j0, .slice b1 pu.length j1, .slice b2 ds.length j2, .int .i64 cl, .slice b4 nu.length j4, .slice b5 sa.length j5], .bool false]) (results_ct Try.results32 rfl (load_house (unhide HY))) rfl ?_
      show MTold w (mtickH ⟨es, pu, ds, cl, nu, sa⟩) (mtickB ⟨es, pu, ds, cl, nu, sa⟩) _ _
      rw [hg.1, hg.2]
      exact ⟨⟨b0, j0, b1, j1, b2, j2, b4, j4, b5, j5⟩, rfl, (unhide HO).lower (by omega), unhide HB⟩
  have hg := mt_go (h := ⟨es, pu, ds, cl, nu, sa⟩) h1 h2
  have hcl : (cl == 99999) = false := by rw [beq_eq_false_iff_ne]; exact h2
  have hcl2 : 0 ≤ cl ∧ cl ≤ 99999 := by
    rcases e : decide (0 ≤ cl ∧ cl ≤ 99999) with _ | _
    · rw [mo_3 (h := ⟨es, pu, ds, cl, nu, sa⟩) e] at h1; cases h1
    · simpa using e
  have hpr : Prices ds := by
    rcases e : dealsFrom (foldRows es) cl (-1) ds with _ | _
    · rw [mo_4 (h := ⟨es, pu, ds, cl, nu, sa⟩) e] at h1; cases h1
    · exact deals_prices _ _ e
  have HPR := hide hpr
  clear hpr h1 h2
  go_wp2_with fail
  have hzz := (unhide HQ).lt
  change Calls Try.prog 120 #[hV ⟨b0, j0, b1, j1, b2, j2, b4, j4, b5, j5⟩ ⟨es, pu, ds, cl, nu, sa⟩] _ _
  refine (c120 ⟨es, pu, ds, cl, nu, sa⟩ ⟨b0, j0, b1, j1, b2, j2, b4, j4, b5, j5⟩ w1.heap.size _ (unhide HSM) (unhide HPR) (by dsimp only; omega) (by simp only [World.size_alloc]; omega) (unhide HO)).mono ?_
  rintro e w9 ⟨⟨d0, f0, d1, f1, d2, f2, d4, f4, d5, f5⟩, rfl, ho, hbb⟩
  (try clear x0 x1 x2 x3 x4 x5 y0 y0f y1 y1f y2 y2f y3 y3f y4 y4f y5 y5f q0 q1 q2 q3 q4 q5)
  clear HY2 HO2 HB2 HQ HRR HX uf0 uc0 uf1 uc1 uf2 uc2 uf3 uc3 uf4 uc4 uf5 uc5
  replace HY := hide ((unhide HY).belB hbb (by omega))
  replace HB := hide (below_trB (unhide HB) hbb (by omega))
  replace HO := hide ho
  clear hbb ho
  obtain ⟨⟨es9, pu9, ds9, cl9, nu9, sa9⟩, hh9⟩ : ∃ X, X = tickH ⟨es, pu, ds, cl, nu, sa⟩ := ⟨_, rfl⟩
  rw [← hh9] at HO hg
  have y0 := (unhide HY).cell 0 rfl
  have y0f := (unhide HY).frozen 0 rfl
  have y1 := (unhide HY).cell 1 rfl
  have y1f := (unhide HY).frozen 1 rfl
  have y2 := (unhide HY).cell 2 rfl
  have y2f := (unhide HY).frozen 2 rfl
  have y3 := (unhide HY).cell 3 rfl
  have y3f := (unhide HY).frozen 3 rfl
  have y4 := (unhide HY).cell 4 rfl
  have y4f := (unhide HY).frozen 4 rfl
  have y5 := (unhide HY).cell 5 rfl
  have y5f := (unhide HY).frozen 5 rfl
  go_wp2_with fail
  (try clear y0 y0f y1 y1f y2 y2f y3 y3f y4 y4f y5 y5f)
  simp only [← hh9]
  replace HY := hide (box_put (unhide HY) 0 (.slice d0 es9.length f0) (by simp))
  replace HO := hide ((unhide HO).kg (grown_cel _ (w.heap.size + 1) 0 (.slice d0 es9.length f0)) (by omega))
  replace HB := hide (below_sc (p := ⟨w.heap.size + 1, 0, none⟩) (v := .slice d0 es9.length f0) (unhide HB) (by dsimp only; omega))
  replace HY := hide (box_put (unhide HY) 1 (.slice d1 pu9.length f1) (by simp))
  replace HO := hide ((unhide HO).kg (grown_cel _ (w.heap.size + 1) 1 (.slice d1 pu9.length f1)) (by omega))
  replace HB := hide (below_sc (p := ⟨w.heap.size + 1, 1, none⟩) (v := .slice d1 pu9.length f1) (unhide HB) (by dsimp only; omega))
  replace HY := hide (box_put (unhide HY) 2 (.slice d2 ds9.length f2) (by simp))
  replace HO := hide ((unhide HO).kg (grown_cel _ (w.heap.size + 1) 2 (.slice d2 ds9.length f2)) (by omega))
  replace HB := hide (below_sc (p := ⟨w.heap.size + 1, 2, none⟩) (v := .slice d2 ds9.length f2) (unhide HB) (by dsimp only; omega))
  replace HY := hide (box_put (unhide HY) 3 (.int .i64 cl9) (by simp))
  replace HO := hide ((unhide HO).kg (grown_cel _ (w.heap.size + 1) 3 (.int .i64 cl9)) (by omega))
  replace HB := hide (below_sc (p := ⟨w.heap.size + 1, 3, none⟩) (v := .int .i64 cl9) (unhide HB) (by dsimp only; omega))
  replace HY := hide (box_put (unhide HY) 4 (.slice d4 nu9.length f4) (by simp))
  replace HO := hide ((unhide HO).kg (grown_cel _ (w.heap.size + 1) 4 (.slice d4 nu9.length f4)) (by omega))
  replace HB := hide (below_sc (p := ⟨w.heap.size + 1, 4, none⟩) (v := .slice d4 nu9.length f4) (unhide HB) (by dsimp only; omega))
  replace HY := hide (box_put (unhide HY) 5 (.slice d5 sa9.length f5) (by simp))
  replace HO := hide ((unhide HO).kg (grown_cel _ (w.heap.size + 1) 5 (.slice d5 sa9.length f5)) (by omega))
  replace HB := hide (below_sc (p := ⟨w.heap.size + 1, 5, none⟩) (v := .slice d5 sa9.length f5) (unhide HB) (by dsimp only; omega))
  replace HY := hide (show Box _ (w.heap.size + 1) [.slice d0 es9.length f0, .slice d1 pu9.length f1, .slice d2 ds9.length f2, .int .i64 cl9, .slice d4 nu9.length f4, .slice d5 sa9.length f5] from unhide HY)
  refine bodyPost_ret (v := .tuple #[.agg #[.slice d0 es9.length f0, .slice d1 pu9.length f1, .slice d2 ds9.length f2, .int .i64 cl9, .slice d4 nu9.length f4, .slice d5 sa9.length f5], .bool true]) (results_ct Try.results32 rfl (load_house (unhide HY))) rfl ?_
  show MTold w (mtickH ⟨es, pu, ds, cl, nu, sa⟩) (mtickB ⟨es, pu, ds, cl, nu, sa⟩) _ _
  rw [hg.1, hg.2]
  exact ⟨⟨d0, f0, d1, f1, d2, f2, d4, f4, d5, f5⟩, rfl, (unhide HO).lower (by omega), unhide HB⟩
end Go.Proofs.Ytmlbphmbffkdnaa
