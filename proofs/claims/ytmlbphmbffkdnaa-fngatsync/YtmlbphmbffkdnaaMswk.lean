/-
  Whether two markets are the same, as the laws say it.
-/
import Derived.Test.YtmlbphmbffkdnaaHbas
import Derived.Test.YtmlbphmbffkdnaaHous
namespace Go.Proofs.Ytmlbphmbffkdnaa
open Go.RowKit
set_option linter.unusedVariables false
set_option maxRecDepth 100000

/-- whether two markets are the same, part by part -/
def swM (h g : House) : Bool := decide (h.es = g.es) && (decide (h.pu = g.pu) && (decide (h.ds = g.ds) && (decide (h.cl = g.cl) && (decide (h.nu = g.nu) && decide (h.sa = g.sa)))))
theorem swM_self (h : House) : swM h h = true := by simp [swM]
theorem swM_iff {h g : House} : swM h g = true ↔ h = g := by
  obtain ⟨a, b, c, d, e, f⟩ := h
  obtain ⟨a', b', c', d', e', f'⟩ := g
  simp only [swM, Bool.and_eq_true, decide_eq_true_eq, House.mk.injEq]
theorem sw_1 {h g : House} (e : ¬ h.es = g.es) : swM h g = false := by simp [swM, e]
theorem sw_2 {h g : House} (e : ¬ h.pu = g.pu) : swM h g = false := by simp [swM, e]
theorem sw_3 {h g : House} (e : ¬ h.ds = g.ds) : swM h g = false := by simp [swM, e]
theorem sw_4 {h g : House} (e : ¬ h.cl = g.cl) : swM h g = false := by simp [swM, e]
theorem sw_5 {h g : House} (e : ¬ h.nu = g.nu) : swM h g = false := by simp [swM, e]
theorem sw_6 {h g : House} (e1 : h.es = g.es) (e2 : h.pu = g.pu) (e3 : h.ds = g.ds) (e4 : h.cl = g.cl) (e5 : h.nu = g.nu) : swM h g = decide (h.sa = g.sa) := by simp [swM, e1, e2, e3, e4, e5]

theorem below_ex {w w' : World} (h : ∃ q, w' = w.drewN q) : Below w.heap.size w w' := by obtain ⟨q, rfl⟩ := h; exact below_drewN (Below.refl _ _) _

set_option maxHeartbeats 8000000 in
theorem c22 (h g : House) (q r : HP) (w : World) (hs : Small h) (hs' : Small g) (hq : HRow w q h) (hr : HRow w r g) : Calls Try.prog 22 #[hV q h, hV r g] w fun e w' => e = .returned (.bool (swM h g)) ∧ Below w.heap.size w w' := by
  obtain ⟨es, pu, ds, cl, nu, sa⟩ := h
  obtain ⟨es', pu', ds', cl', nu', sa'⟩ := g
  obtain ⟨a0, k0, a1, k1, a2, k2, a4, k4, a5, k5⟩ := q
  obtain ⟨b0, j0, b1, j1, b2, j2, b4, j4, b5, j5⟩ := r
  have HQ := hide hq
  have HR := hide hr
  have HS := hide hs
  have HS' := hide hs'
  clear hq hr hs hs'
  have HB := hide (Below.refl w.heap.size w)
  replace HB := hide (below_al (o := .cells #[.slice a0 es.length k0, .slice a1 pu.length k1, .slice a2 ds.length k2, .int .i64 cl, .slice a4 nu.length k4, .slice a5 sa.length k5] 28) (unhide HB))
  replace HQ := hide ((unhide HQ).bel (below_a (.cells #[.slice a0 es.length k0, .slice a1 pu.length k1, .slice a2 ds.length k2, .int .i64 cl, .slice a4 nu.length k4, .slice a5 sa.length k5] 28)))
  replace HR := hide ((unhide HR).bel (below_a (.cells #[.slice a0 es.length k0, .slice a1 pu.length k1, .slice a2 ds.length k2, .int .i64 cl, .slice a4 nu.length k4, .slice a5 sa.length k5] 28)))
  have HX := hide (box_new w [.slice a0 es.length k0, .slice a1 pu.length k1, .slice a2 ds.length k2, .int .i64 cl, .slice a4 nu.length k4, .slice a5 sa.length k5] 28 (by simp [Value.oneCell']))
  (try simp only [World.size_alloc] at HX)
  replace HB := hide (below_al (o := .cells #[.slice b0 es'.length j0, .slice b1 pu'.length j1, .slice b2 ds'.length j2, .int .i64 cl', .slice b4 nu'.length j4, .slice b5 sa'.length j5] 28) (unhide HB))
  replace HQ := hide ((unhide HQ).bel (below_a (.cells #[.slice b0 es'.length j0, .slice b1 pu'.length j1, .slice b2 ds'.length j2, .int .i64 cl', .slice b4 nu'.length j4, .slice b5 sa'.length j5] 28)))
  replace HR := hide ((unhide HR).bel (below_a (.cells #[.slice b0 es'.length j0, .slice b1 pu'.length j1, .slice b2 ds'.length j2, .int .i64 cl', .slice b4 nu'.length j4, .slice b5 sa'.length j5] 28)))
  replace HX := hide ((unhide HX).bel (below_a (.cells #[.slice b0 es'.length j0, .slice b1 pu'.length j1, .slice b2 ds'.length j2, .int .i64 cl', .slice b4 nu'.length j4, .slice b5 sa'.length j5] 28)))
  have HY := hide (box_new (w.alloc (.cells #[.slice a0 es.length k0, .slice a1 pu.length k1, .slice a2 ds.length k2, .int .i64 cl, .slice a4 nu.length k4, .slice a5 sa.length k5] 28)) [.slice b0 es'.length j0, .slice b1 pu'.length j1, .slice b2 ds'.length j2, .int .i64 cl', .slice b4 nu'.length j4, .slice b5 sa'.length j5] 28 (by simp [Value.oneCell']))
  (try simp only [World.size_alloc] at HY)
  have x0 := (unhide HX).cell 0 rfl
  have x1 := (unhide HX).cell 1 rfl
  have x2 := (unhide HX).cell 2 rfl
  have x3 := (unhide HX).cell 3 rfl
  have x4 := (unhide HX).cell 4 rfl
  have x5 := (unhide HX).cell 5 rfl
  have y0 := (unhide HY).cell 0 rfl
  have y1 := (unhide HY).cell 1 rfl
  have y2 := (unhide HY).cell 2 rfl
  have y3 := (unhide HY).cell 3 rfl
  have y4 := (unhide HY).cell 4 rfl
  have y5 := (unhide HY).cell 5 rfl
  go_enter Try.func22, Try.ntmps22
  go_wp2_with fail
  by_cases e0 : es = es'
  case neg =>
    refine (c34 es es' a0 b0 es.length k0 es'.length j0 _ rfl rfl (by have := (unhide HS).1; dsimp only at this; omega) (by have := (unhide HS').1; dsimp only at this; omega) (unhide HQ).1 (unhide HR).1).mono ?_
    rintro e w1 ⟨rfl, hb⟩
    rw [decide_eq_false e0]
    (try clear x0 x1 x2 x3 x4 x5 y0 y1 y2 y3 y4 y5)
    replace HB := hide (below_tr (unhide HB) hb)
    replace HQ := hide ((unhide HQ).bel hb)
    replace HR := hide ((unhide HR).bel hb)
    replace HX := hide ((unhide HX).bel hb)
    replace HY := hide ((unhide HY).bel hb)
    clear hb
    have x0 := (unhide HX).cell 0 rfl
    have x1 := (unhide HX).cell 1 rfl
    have x2 := (unhide HX).cell 2 rfl
    have x3 := (unhide HX).cell 3 rfl
    have x4 := (unhide HX).cell 4 rfl
    have x5 := (unhide HX).cell 5 rfl
    have y0 := (unhide HY).cell 0 rfl
    have y1 := (unhide HY).cell 1 rfl
    have y2 := (unhide HY).cell 2 rfl
    have y3 := (unhide HY).cell 3 rfl
    have y4 := (unhide HY).cell 4 rfl
    have y5 := (unhide HY).cell 5 rfl
    go_wp2_with fail
    go_ret
    exact ⟨ret_bool (sw_1 (h := ⟨es, pu, ds, cl, nu, sa⟩) (g := ⟨es', pu', ds', cl', nu', sa'⟩) e0).symm, unhide HB⟩
  refine (c34 es es' a0 b0 es.length k0 es'.length j0 _ rfl rfl (by have := (unhide HS).1; dsimp only at this; omega) (by have := (unhide HS').1; dsimp only at this; omega) (unhide HQ).1 (unhide HR).1).mono ?_
  rintro e w1 ⟨rfl, hb⟩
  rw [decide_eq_true e0]
  have E0 := hide e0
  clear e0
  (try clear x0 x1 x2 x3 x4 x5 y0 y1 y2 y3 y4 y5)
  replace HB := hide (below_tr (unhide HB) hb)
  replace HQ := hide ((unhide HQ).bel hb)
  replace HR := hide ((unhide HR).bel hb)
  replace HX := hide ((unhide HX).bel hb)
  replace HY := hide ((unhide HY).bel hb)
  clear hb
  have x0 := (unhide HX).cell 0 rfl
  have x1 := (unhide HX).cell 1 rfl
  have x2 := (unhide HX).cell 2 rfl
  have x3 := (unhide HX).cell 3 rfl
  have x4 := (unhide HX).cell 4 rfl
  have x5 := (unhide HX).cell 5 rfl
  have y0 := (unhide HY).cell 0 rfl
  have y1 := (unhide HY).cell 1 rfl
  have y2 := (unhide HY).cell 2 rfl
  have y3 := (unhide HY).cell 3 rfl
  have y4 := (unhide HY).cell 4 rfl
  have y5 := (unhide HY).cell 5 rfl
  go_wp2_with fail
  by_cases e1 : pu = pu'
  case neg =>
    refine (c28 pu pu' a1 b1 pu.length k1 pu'.length j1 _ rfl rfl (by have := (unhide HS).2.1; dsimp only at this; omega) (by have := (unhide HS').2.1; dsimp only at this; omega) (unhide HQ).2.1 (unhide HR).2.1).mono ?_
    rintro e w2 ⟨rfl, hb⟩
    replace hb := below_ex hb
    rw [decide_eq_false e1]
    (try clear x0 x1 x2 x3 x4 x5 y0 y1 y2 y3 y4 y5)
    replace HB := hide (below_tr (unhide HB) hb)
    replace HQ := hide ((unhide HQ).bel hb)
    replace HR := hide ((unhide HR).bel hb)
    replace HX := hide ((unhide HX).bel hb)
    replace HY := hide ((unhide HY).bel hb)
    clear hb
    have x0 := (unhide HX).cell 0 rfl
    have x1 := (unhide HX).cell 1 rfl
    have x2 := (unhide HX).cell 2 rfl
    have x3 := (unhide HX).cell 3 rfl
    have x4 := (unhide HX).cell 4 rfl
    have x5 := (unhide HX).cell 5 rfl
    have y0 := (unhide HY).cell 0 rfl
    have y1 := (unhide HY).cell 1 rfl
    have y2 := (unhide HY).cell 2 rfl
    have y3 := (unhide HY).cell 3 rfl
    have y4 := (unhide HY).cell 4 rfl
    have y5 := (unhide HY).cell 5 rfl
    go_wp2_with fail
    go_ret
    exact ⟨ret_bool (sw_2 (h := ⟨es, pu, ds, cl, nu, sa⟩) (g := ⟨es', pu', ds', cl', nu', sa'⟩) e1).symm, unhide HB⟩
  refine (c28 pu pu' a1 b1 pu.length k1 pu'.length j1 _ rfl rfl (by have := (unhide HS).2.1; dsimp only at this; omega) (by have := (unhide HS').2.1; dsimp only at this; omega) (unhide HQ).2.1 (unhide HR).2.1).mono ?_
  rintro e w2 ⟨rfl, hb⟩
  replace hb := below_ex hb
  rw [decide_eq_true e1]
  have E1 := hide e1
  clear e1
  (try clear x0 x1 x2 x3 x4 x5 y0 y1 y2 y3 y4 y5)
  replace HB := hide (below_tr (unhide HB) hb)
  replace HQ := hide ((unhide HQ).bel hb)
  replace HR := hide ((unhide HR).bel hb)
  replace HX := hide ((unhide HX).bel hb)
  replace HY := hide ((unhide HY).bel hb)
  clear hb
  have x0 := (unhide HX).cell 0 rfl
  have x1 := (unhide HX).cell 1 rfl
  have x2 := (unhide HX).cell 2 rfl
  have x3 := (unhide HX).cell 3 rfl
  have x4 := (unhide HX).cell 4 rfl
  have x5 := (unhide HX).cell 5 rfl
  have y0 := (unhide HY).cell 0 rfl
  have y1 := (unhide HY).cell 1 rfl
  have y2 := (unhide HY).cell 2 rfl
  have y3 := (unhide HY).cell 3 rfl
  have y4 := (unhide HY).cell 4 rfl
  have y5 := (unhide HY).cell 5 rfl
  go_wp2_with fail
  by_cases e2 : ds = ds'
  case neg =>
    refine (c107 ds ds' a2 b2 ds.length k2 ds'.length j2 _ rfl rfl (by have := (unhide HS).2.2.1; dsimp only at this; omega) (by have := (unhide HS').2.2.1; dsimp only at this; omega) (unhide HQ).2.2.1 (unhide HR).2.2.1).mono ?_
    rintro e w3 ⟨rfl, hb⟩
    rw [decide_eq_false e2]
    (try clear x0 x1 x2 x3 x4 x5 y0 y1 y2 y3 y4 y5)
    replace HB := hide (below_tr (unhide HB) hb)
    replace HQ := hide ((unhide HQ).bel hb)
    replace HR := hide ((unhide HR).bel hb)
    replace HX := hide ((unhide HX).bel hb)
    replace HY := hide ((unhide HY).bel hb)
    clear hb
    have x0 := (unhide HX).cell 0 rfl
    have x1 := (unhide HX).cell 1 rfl
    have x2 := (unhide HX).cell 2 rfl
    have x3 := (unhide HX).cell 3 rfl
    have x4 := (unhide HX).cell 4 rfl
    have x5 := (unhide HX).cell 5 rfl
    have y0 := (unhide HY).cell 0 rfl
    have y1 := (unhide HY).cell 1 rfl
    have y2 := (unhide HY).cell 2 rfl
    have y3 := (unhide HY).cell 3 rfl
    have y4 := (unhide HY).cell 4 rfl
    have y5 := (unhide HY).cell 5 rfl
    go_wp2_with fail
    go_ret
    exact ⟨ret_bool (sw_3 (h := ⟨es, pu, ds, cl, nu, sa⟩) (g := ⟨es', pu', ds', cl', nu', sa'⟩) e2).symm, unhide HB⟩
  refine (c107 ds ds' a2 b2 ds.length k2 ds'.length j2 _ rfl rfl (by have := (unhide HS).2.2.1; dsimp only at this; omega) (by have := (unhide HS').2.2.1; dsimp only at this; omega) (unhide HQ).2.2.1 (unhide HR).2.2.1).mono ?_
  rintro e w3 ⟨rfl, hb⟩
  rw [decide_eq_true e2]
  have E2 := hide e2
  clear e2
  (try clear x0 x1 x2 x3 x4 x5 y0 y1 y2 y3 y4 y5)
  replace HB := hide (below_tr (unhide HB) hb)
  replace HQ := hide ((unhide HQ).bel hb)
  replace HR := hide ((unhide HR).bel hb)
  replace HX := hide ((unhide HX).bel hb)
  replace HY := hide ((unhide HY).bel hb)
  clear hb
  have x0 := (unhide HX).cell 0 rfl
  have x1 := (unhide HX).cell 1 rfl
  have x2 := (unhide HX).cell 2 rfl
  have x3 := (unhide HX).cell 3 rfl
  have x4 := (unhide HX).cell 4 rfl
  have x5 := (unhide HX).cell 5 rfl
  have y0 := (unhide HY).cell 0 rfl
  have y1 := (unhide HY).cell 1 rfl
  have y2 := (unhide HY).cell 2 rfl
  have y3 := (unhide HY).cell 3 rfl
  have y4 := (unhide HY).cell 4 rfl
  have y5 := (unhide HY).cell 5 rfl
  by_cases e3 : cl = cl'
  case neg =>
    have d3 : (cl == cl') = false := by rw [beq_eq_false_iff_ne]; exact e3
    go_wp2_with fail
    go_ret
    exact ⟨ret_bool (sw_4 (h := ⟨es, pu, ds, cl, nu, sa⟩) (g := ⟨es', pu', ds', cl', nu', sa'⟩) e3).symm, unhide HB⟩
  have d3 : (cl == cl') = true := by rw [beq_iff_eq]; exact e3
  have E3 := hide e3
  clear e3
  go_wp2_with fail
  by_cases e4 : nu = nu'
  case neg =>
    refine (c28 nu nu' a4 b4 nu.length k4 nu'.length j4 _ rfl rfl (by have := (unhide HS).2.2.2.1; dsimp only at this; omega) (by have := (unhide HS').2.2.2.1; dsimp only at this; omega) (unhide HQ).2.2.2.1 (unhide HR).2.2.2.1).mono ?_
    rintro e w4 ⟨rfl, hb⟩
    replace hb := below_ex hb
    rw [decide_eq_false e4]
    (try clear x0 x1 x2 x3 x4 x5 y0 y1 y2 y3 y4 y5)
    replace HB := hide (below_tr (unhide HB) hb)
    replace HQ := hide ((unhide HQ).bel hb)
    replace HR := hide ((unhide HR).bel hb)
    replace HX := hide ((unhide HX).bel hb)
    replace HY := hide ((unhide HY).bel hb)
    clear hb
    have x0 := (unhide HX).cell 0 rfl
    have x1 := (unhide HX).cell 1 rfl
    have x2 := (unhide HX).cell 2 rfl
    have x3 := (unhide HX).cell 3 rfl
    have x4 := (unhide HX).cell 4 rfl
    have x5 := (unhide HX).cell 5 rfl
    have y0 := (unhide HY).cell 0 rfl
    have y1 := (unhide HY).cell 1 rfl
    have y2 := (unhide HY).cell 2 rfl
    have y3 := (unhide HY).cell 3 rfl
    have y4 := (unhide HY).cell 4 rfl
    have y5 := (unhide HY).cell 5 rfl
    go_wp2_with fail
    go_ret
    exact ⟨ret_bool (sw_5 (h := ⟨es, pu, ds, cl, nu, sa⟩) (g := ⟨es', pu', ds', cl', nu', sa'⟩) e4).symm, unhide HB⟩
  refine (c28 nu nu' a4 b4 nu.length k4 nu'.length j4 _ rfl rfl (by have := (unhide HS).2.2.2.1; dsimp only at this; omega) (by have := (unhide HS').2.2.2.1; dsimp only at this; omega) (unhide HQ).2.2.2.1 (unhide HR).2.2.2.1).mono ?_
  rintro e w4 ⟨rfl, hb⟩
  replace hb := below_ex hb
  rw [decide_eq_true e4]
  have E4 := hide e4
  clear e4
  (try clear x0 x1 x2 x3 x4 x5 y0 y1 y2 y3 y4 y5)
  replace HB := hide (below_tr (unhide HB) hb)
  replace HQ := hide ((unhide HQ).bel hb)
  replace HR := hide ((unhide HR).bel hb)
  replace HX := hide ((unhide HX).bel hb)
  replace HY := hide ((unhide HY).bel hb)
  clear hb
  have x0 := (unhide HX).cell 0 rfl
  have x1 := (unhide HX).cell 1 rfl
  have x2 := (unhide HX).cell 2 rfl
  have x3 := (unhide HX).cell 3 rfl
  have x4 := (unhide HX).cell 4 rfl
  have x5 := (unhide HX).cell 5 rfl
  have y0 := (unhide HY).cell 0 rfl
  have y1 := (unhide HY).cell 1 rfl
  have y2 := (unhide HY).cell 2 rfl
  have y3 := (unhide HY).cell 3 rfl
  have y4 := (unhide HY).cell 4 rfl
  have y5 := (unhide HY).cell 5 rfl
  go_wp2_with fail
  refine (c28 sa sa' a5 b5 sa.length k5 sa'.length j5 _ rfl rfl (by have := (unhide HS).2.2.2.2; dsimp only at this; omega) (by have := (unhide HS').2.2.2.2; dsimp only at this; omega) (unhide HQ).2.2.2.2 (unhide HR).2.2.2.2).mono ?_
  rintro e w5 ⟨rfl, hb⟩
  replace hb := below_ex hb

  (try clear x0 x1 x2 x3 x4 x5 y0 y1 y2 y3 y4 y5)
  replace HB := hide (below_tr (unhide HB) hb)
  replace HQ := hide ((unhide HQ).bel hb)
  replace HR := hide ((unhide HR).bel hb)
  replace HX := hide ((unhide HX).bel hb)
  replace HY := hide ((unhide HY).bel hb)
  clear hb
  have x0 := (unhide HX).cell 0 rfl
  have x1 := (unhide HX).cell 1 rfl
  have x2 := (unhide HX).cell 2 rfl
  have x3 := (unhide HX).cell 3 rfl
  have x4 := (unhide HX).cell 4 rfl
  have x5 := (unhide HX).cell 5 rfl
  have y0 := (unhide HY).cell 0 rfl
  have y1 := (unhide HY).cell 1 rfl
  have y2 := (unhide HY).cell 2 rfl
  have y3 := (unhide HY).cell 3 rfl
  have y4 := (unhide HY).cell 4 rfl
  have y5 := (unhide HY).cell 5 rfl
  go_wp2_with fail
  go_ret
  exact ⟨ret_bool (sw_6 (h := ⟨es, pu, ds, cl, nu, sa⟩) (g := ⟨es', pu', ds', cl', nu', sa'⟩) (unhide E0) (unhide E1) (unhide E2) (unhide E3) (unhide E4)).symm, unhide HB⟩
end Go.Proofs.Ytmlbphmbffkdnaa
