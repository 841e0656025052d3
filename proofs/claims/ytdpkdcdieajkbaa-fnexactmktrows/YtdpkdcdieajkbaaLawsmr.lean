/-
  The walk of the exact law FnExactMktRows: at every argument it answers true, and nothing that was there is written.
-/
import Derived.Test.YtdpkdcdieajkbaaHouz
import Derived.Test.YtdpkdcdieajkbaaRowsm
import Derived.Test.YtdpkdcdieajkbaaHmk
namespace Go.Proofs.Ytdpkdcdieajkbaa
open Go.RowKit
set_option linter.unusedVariables false
set_option maxRecDepth 100000

theorem rown_lt {w : World} {base : Nat} {v : Value} {rs : List Tm.Rw} (h : ROwn w base v rs) : ∀ b, v.ownBlock = some b → base ≤ b ∧ b < w.heap.size := by
  obtain ⟨f, t, h2⟩ := h
  exact fun b hb => h2.lt b hb

set_option maxHeartbeats 8000000 in
theorem law14 (h : House) (q : HP) (w : World) (hr : HRow w q h) (hL : HLen h) :
    Calls Try.prog 14 #[hV q h] w (Holds w) := by
  obtain ⟨es, pu, ds, cl, nu, sa⟩ := h
  obtain ⟨a0, k0, a1, k1, a2, k2, a4, k4, a5, k5⟩ := q
  have HR := hide hr
  have HL := hide hL
  clear hr hL
  have HB := hide (Below.refl w.heap.size w)
  replace HB := hide (below_al (o := .cells #[.slice a0 es.length k0, .slice a1 pu.length k1, .slice a2 ds.length k2, .int .i64 cl, .slice a4 nu.length k4, .slice a5 sa.length k5] 92) (unhide HB))
  have HX := hide (box_new w [.slice a0 es.length k0, .slice a1 pu.length k1, .slice a2 ds.length k2, .int .i64 cl, .slice a4 nu.length k4, .slice a5 sa.length k5] 92 (by simp [Value.oneCell']))
  (try simp only [World.size_alloc] at HX)
  by_cases ht : tot ⟨es, pu, ds, cl, nu, sa⟩ ≤ 1048576
  case neg =>
    have hm : (-1 : Int) < 0 := by omega
    have x0 := (unhide HX).cell 0 rfl
    have x1 := (unhide HX).cell 1 rfl
    have x2 := (unhide HX).cell 2 rfl
    have x3 := (unhide HX).cell 3 rfl
    have x4 := (unhide HX).cell 4 rfl
    have x5 := (unhide HX).cell 5 rfl
    go_enter Try.func14, Try.ntmps14
    go_wp2_with fail
    refine (sgM ⟨es, pu, ds, cl, nu, sa⟩ ⟨a0, k0, a1, k1, a2, k2, a4, k4, a5, k5⟩ _ (unhide HL)).mono ?_
    rintro e w1 ⟨rfl, hb⟩
    rw [if_neg ht]
    (try clear x0 x1 x2 x3 x4 x5)
    replace HB := hide (below_tr (unhide HB) hb)
    replace HX := hide ((unhide HX).bel hb)
    clear hb
    have x0 := (unhide HX).cell 0 rfl
    have x1 := (unhide HX).cell 1 rfl
    have x2 := (unhide HX).cell 2 rfl
    have x3 := (unhide HX).cell 3 rfl
    have x4 := (unhide HX).cell 4 rfl
    have x5 := (unhide HX).cell 5 rfl
    go_wp2_with fail
    go_ret
    exact ⟨rfl, unhide HB⟩
  obtain ⟨l, hl⟩ : ∃ l : Nat, (1048576 : Int) - (tot ⟨es, pu, ds, cl, nu, sa⟩ : Int) = (l : Int) := ⟨1048576 - tot ⟨es, pu, ds, cl, nu, sa⟩, by omega⟩
  have hl0 : ¬ ((l : Int) < 0) := by omega
  have hs := small_of ht
  have hs2 : ds.length ≤ 1048576 := hs.2.2.1
  have x0 := (unhide HX).cell 0 rfl
  have x1 := (unhide HX).cell 1 rfl
  have x2 := (unhide HX).cell 2 rfl
  have x3 := (unhide HX).cell 3 rfl
  have x4 := (unhide HX).cell 4 rfl
  have x5 := (unhide HX).cell 5 rfl
  go_enter Try.func14, Try.ntmps14
  go_wp2_with fail
  refine (sgM ⟨es, pu, ds, cl, nu, sa⟩ ⟨a0, k0, a1, k1, a2, k2, a4, k4, a5, k5⟩ _ (unhide HL)).mono ?_
  rintro e w1 ⟨rfl, hb⟩
  rw [if_pos ht, hl]
  (try clear x0 x1 x2 x3 x4 x5)
  replace HB := hide (below_tr (unhide HB) hb)
  replace HX := hide ((unhide HX).bel hb)
  clear hb
  have x0 := (unhide HX).cell 0 rfl
  have x1 := (unhide HX).cell 1 rfl
  have x2 := (unhide HX).cell 2 rfl
  have x3 := (unhide HX).cell 3 rfl
  have x4 := (unhide HX).cell 4 rfl
  have x5 := (unhide HX).cell 5 rfl
  go_wp2_with fail
  obtain ⟨ys, HYS⟩ : ∃ ys, Hid (foldRows es = ys) := ⟨_, rfl⟩
  have hyl : ys.length ≤ 8 := by have := foldRows_len es; rw [unhide HYS] at this; exact this
  refine (c73 ⟨es, pu, ds, cl, nu, sa⟩ ⟨a0, k0, a1, k1, a2, k2, a4, k4, a5, k5⟩ _ hs ((unhide HR).bel (unhide HB))).mono ?_
  rintro e w2 ⟨⟨bs0, js0, bs1, js1, bs2, js2, bs4, js4, bs5, js5⟩, rfl, ho, hb⟩
  (try clear x0 x1 x2 x3 x4 x5)
  replace HB := hide (below_tr (unhide HB) hb)
  replace HX := hide ((unhide HX).bel hb)
  have HS := hide (ho)
  clear hb ho
  have x0 := (unhide HX).cell 0 rfl
  have x1 := (unhide HX).cell 1 rfl
  have x2 := (unhide HX).cell 2 rfl
  have x3 := (unhide HX).cell 3 rfl
  have x4 := (unhide HX).cell 4 rfl
  have x5 := (unhide HX).cell 5 rfl
  go_wp2_with fail
  refine (c76 ⟨es, pu, ds, cl, nu, sa⟩ ⟨bs0, js0, bs1, js1, bs2, js2, bs4, js4, bs5, js5⟩ _ hs.1 (unhide HS).rd).mono ?_
  rintro e w3 ⟨v, rfl, ho, hb⟩
  replace ho : ROwn _ _ v ys := (by rw [← unhide HYS]; exact ho)
  obtain ⟨av, cv, rfl, hcv, hrv, hbv⟩ := ho.row
  have HVb := hide (fun a ha => (hbv a ha).2)
  (try clear x0 x1 x2 x3 x4 x5)
  replace HB := hide (below_tr (unhide HB) hb)
  replace HX := hide ((unhide HX).bel hb)
  clear HS
  have HV := hide (hrv)
  clear hb ho hrv hbv
  have x0 := (unhide HX).cell 0 rfl
  have x1 := (unhide HX).cell 1 rfl
  have x2 := (unhide HX).cell 2 rfl
  have x3 := (unhide HX).cell 3 rfl
  have x4 := (unhide HX).cell 4 rfl
  have x5 := (unhide HX).cell 5 rfl
  go_wp2_with fail
  have hszv := (unhide HB).size
  have hgxv := (unhide HX).lt
  refine (c73 ⟨es, pu, ds, cl, nu, sa⟩ ⟨a0, k0, a1, k1, a2, k2, a4, k4, a5, k5⟩ _ hs ((unhide HR).bel (unhide HB))).mono ?_
  rintro e w4 ⟨⟨bm0, jm0, bm1, jm1, bm2, jm2, bm4, jm4, bm5, jm5⟩, rfl, ho, hb⟩
  have hvm := hb.size
  have HMb := hide (fun (row : Option Nat) hr => ho.blk (row := row) hr)
  (try clear x0 x1 x2 x3 x4 x5)
  replace HB := hide (below_tr (unhide HB) hb)
  replace HX := hide ((unhide HX).bel hb)
  replace HV := hide ((unhide HV).bel hb)
  have HM := hide (ho)
  clear hb ho
  have x0 := (unhide HX).cell 0 rfl
  have x1 := (unhide HX).cell 1 rfl
  have x2 := (unhide HX).cell 2 rfl
  have x3 := (unhide HX).cell 3 rfl
  have x4 := (unhide HX).cell 4 rfl
  have x5 := (unhide HX).cell 5 rfl
  (try clear x0 x1 x2 x3 x4 x5)
  replace HB := hide (below_al (o := .cells #[.slice bm0 es.length jm0, .slice bm1 pu.length jm1, .slice bm2 ds.length jm2, .int .i64 cl, .slice bm4 nu.length jm4, .slice bm5 sa.length jm5] 97) (unhide HB))
  replace HX := hide ((unhide HX).bel (below_a (.cells #[.slice bm0 es.length jm0, .slice bm1 pu.length jm1, .slice bm2 ds.length jm2, .int .i64 cl, .slice bm4 nu.length jm4, .slice bm5 sa.length jm5] 97)))
  replace HV := hide ((unhide HV).bel (below_a (.cells #[.slice bm0 es.length jm0, .slice bm1 pu.length jm1, .slice bm2 ds.length jm2, .int .i64 cl, .slice bm4 nu.length jm4, .slice bm5 sa.length jm5] 97)))
  replace HM := hide ((unhide HM).bel (below_a (.cells #[.slice bm0 es.length jm0, .slice bm1 pu.length jm1, .slice bm2 ds.length jm2, .int .i64 cl, .slice bm4 nu.length jm4, .slice bm5 sa.length jm5] 97)))
  have HY := hide (box_new w4 [.slice bm0 es.length jm0, .slice bm1 pu.length jm1, .slice bm2 ds.length jm2, .int .i64 cl, .slice bm4 nu.length jm4, .slice bm5 sa.length jm5] 97 (by simp [Value.oneCell']))
  have x0 := (unhide HX).cell 0 rfl
  have x1 := (unhide HX).cell 1 rfl
  have x2 := (unhide HX).cell 2 rfl
  have x3 := (unhide HX).cell 3 rfl
  have x4 := (unhide HX).cell 4 rfl
  have x5 := (unhide HX).cell 5 rfl
  have y0 := (unhide HY).cell 0 rfl
  have y1 := (unhide HY).cell 1 rfl
  have y2 := (unhide HY).cell 2 rfl
  have y3 := (unhide HY).cell 3 rfl
  have y4 := (unhide HY).cell 4 rfl
  have y5 := (unhide HY).cell 5 rfl
  go_wp2_with fail
  have hgy := (unhide HY).lt
  simp only [World.size_alloc] at hgy
  refine (c77 ⟨es, pu, ds, cl, nu, sa⟩ ⟨bm0, jm0, bm1, jm1, bm2, jm2, bm4, jm4, bm5, jm5⟩ _ hs.1 (unhide HM).rd).mono ?_
  rintro e w5 ⟨v, rfl, ho, hb⟩
  replace ho : ROwn _ _ v ys := (by rw [← unhide HYS]; exact ho)
  obtain ⟨ag, cg, rfl, hcg, hrg, hbg⟩ := ho.row
  (try simp only [World.size_alloc] at ho hbg)
  have HGb := hide (fun a ha => (hbg a ha).1)
  (try clear x0 x1 x2 x3 x4 x5 y0 y1 y2 y3 y4 y5)
  replace HB := hide (below_tr (unhide HB) hb)
  replace HX := hide ((unhide HX).bel hb)
  replace HV := hide ((unhide HV).bel hb)
  replace HM := hide ((unhide HM).bel hb)
  replace HY := hide ((unhide HY).bel hb)
  have HG := hide (ho)
  clear hb ho hrg hbg
  have x0 := (unhide HX).cell 0 rfl
  have x1 := (unhide HX).cell 1 rfl
  have x2 := (unhide HX).cell 2 rfl
  have x3 := (unhide HX).cell 3 rfl
  have x4 := (unhide HX).cell 4 rfl
  have x5 := (unhide HX).cell 5 rfl
  have y0 := (unhide HY).cell 0 rfl
  have y1 := (unhide HY).cell 1 rfl
  have y2 := (unhide HY).cell 2 rfl
  have y3 := (unhide HY).cell 3 rfl
  have y4 := (unhide HY).cell 4 rfl
  have y5 := (unhide HY).cell 5 rfl
  go_wp2_with fail
  refine (sameR ys ag av _ cg cv _ rfl (by omega) ((unhide HG).rd rfl) (unhide HV)).mono ?_
  rintro e w6 ⟨rfl, hb⟩
  (try clear x0 x1 x2 x3 x4 x5 y0 y1 y2 y3 y4 y5)
  replace HB := hide (below_tr (unhide HB) hb)
  replace HX := hide ((unhide HX).bel hb)
  replace HV := hide ((unhide HV).bel hb)
  replace HM := hide ((unhide HM).bel hb)
  replace HY := hide ((unhide HY).bel hb)
  replace HG := hide ((unhide HG).bel hb)
  clear hb
  have x0 := (unhide HX).cell 0 rfl
  have x1 := (unhide HX).cell 1 rfl
  have x2 := (unhide HX).cell 2 rfl
  have x3 := (unhide HX).cell 3 rfl
  have x4 := (unhide HX).cell 4 rfl
  have x5 := (unhide HX).cell 5 rfl
  have y0 := (unhide HY).cell 0 rfl
  have y1 := (unhide HY).cell 1 rfl
  have y2 := (unhide HY).cell 2 rfl
  have y3 := (unhide HY).cell 3 rfl
  have y4 := (unhide HY).cell 4 rfl
  have y5 := (unhide HY).cell 5 rfl
  go_wp2_with fail
  (try clear x0 x1 x2 x3 x4 x5 y0 y1 y2 y3 y4 y5)
  refine wp_region_held_drew (S := fun w' => Below w6.heap.size w6 w') (by kernel_rfl) (below_drew w6) (fun hHeld => ?_)
  refine wpAnyH_take (i := 0) (oi := { dst := some 27, op := _, type := _, pos := _, after := _, guard := _ }) (v := ?_) rfl (by kernel_rfl) (by kernel_rfl) (by kernel_rfl) (fun _ _ _ h => h) (Or.inl ⟨by rfl, ?_⟩) (by assumption) ?_
  rotate_left
  · intro w hSw
    have hT := (unhide HX).below hSw; have x0 := hT.cell 0 rfl; have x1 := hT.cell 1 rfl; have x2 := hT.cell 2 rfl; have x3 := hT.cell 3 rfl; have x4 := hT.cell 4 rfl; have x5 := hT.cell 5 rfl; clear hT; have hT := (unhide HY).below hSw; have y0 := hT.cell 0 rfl; have y1 := hT.cell 1 rfl; have y2 := hT.cell 2 rfl; have y3 := hT.cell 3 rfl; have y4 := hT.cell 4 rfl; have y5 := hT.cell 5 rfl; clear hT
    first | (go_simp; done) | (go_simp; with_reducible rfl) | with_reducible rfl | rfl
  try simp only [Act.put, List.setIfInBounds_toArray, List.set_cons_zero, List.set_cons_succ]
  refine wpAnyH_take (i := 1) (oi := { dst := some 28, op := _, type := _, pos := _, after := _, guard := _ }) (v := ?_) rfl (by kernel_rfl) (by kernel_rfl) (by kernel_rfl) (fun _ _ _ h => h) (Or.inl ⟨by rfl, ?_⟩) (by assumption) ?_
  rotate_left
  · intro w hSw
    have hT := (unhide HX).below hSw; have x0 := hT.cell 0 rfl; have x1 := hT.cell 1 rfl; have x2 := hT.cell 2 rfl; have x3 := hT.cell 3 rfl; have x4 := hT.cell 4 rfl; have x5 := hT.cell 5 rfl; clear hT; have hT := (unhide HY).below hSw; have y0 := hT.cell 0 rfl; have y1 := hT.cell 1 rfl; have y2 := hT.cell 2 rfl; have y3 := hT.cell 3 rfl; have y4 := hT.cell 4 rfl; have y5 := hT.cell 5 rfl; clear hT
    first | (go_simp; done) | (go_simp; with_reducible rfl) | with_reducible rfl | rfl
  try simp only [Act.put, List.setIfInBounds_toArray, List.set_cons_zero, List.set_cons_succ]
  have HD := below_drew w6
  generalize w6.drew = V0 at *
  refine wpAnyH_ready (rs := [2]) (by kernel_rfl) (by simp) ?_
  refine AllReadyH.cons (o := { dst := some 29, op := _, type := _, pos := _, after := _, guard := _ }) rfl (fun K hK => ?_) AllReadyH.nil
  go_simp
  go_at_call 73
  refine (c73 ⟨es, pu, ds, cl, nu, sa⟩ ⟨a0, k0, a1, k1, a2, k2, a4, k4, a5, k5⟩ _ hs ((unhide HR).bel ((unhide HB).trans (HD.mono (unhide HB).size)))).mono ?_
  rintro e V1 ⟨⟨bz0, jz0, bz1, jz1, bz2, jz2, bz4, jz4, bz5, jz5⟩, rfl, ho, hb⟩
  replace HD := below_then HD hb
  clear hb
  have hoV := ho
  clear ho
  try go_wp2_with fail
  refine hK.out _ _ HD (fun hHeld => ?_)
  clear hK K hHeld
  try simp only [Act.put, List.setIfInBounds_toArray, List.set_cons_zero, List.set_cons_succ]
  refine wpAnyH_ready (rs := [3]) (by kernel_rfl) (by simp) ?_
  refine AllReadyH.cons (o := { dst := some 30, op := _, type := _, pos := _, after := _, guard := _ }) rfl (fun K hK => ?_) AllReadyH.nil
  go_simp
  go_at_call 75
  refine (sameH ⟨es, pu, ds, cl, nu, sa⟩ ⟨bm0, jm0, bm1, jm1, bm2, jm2, bm4, jm4, bm5, jm5⟩ ⟨bz0, jz0, bz1, jz1, bz2, jz2, bz4, jz4, bz5, jz5⟩ _ hs (((unhide HM).bel HD).rd) (hoV.rd)).mono ?_
  rintro e V2 ⟨rfl, hb⟩
  replace hoV := hoV.bel hb
  replace HD := below_then HD hb
  clear hb
  try go_wp2_with fail
  refine hK.out _ _ HD (fun hHeld => ?_)
  clear hK K hHeld
  try simp only [Act.put, List.setIfInBounds_toArray, List.set_cons_zero, List.set_cons_succ]
  refine wpAnyH_take (i := 4) (oi := { dst := some 31, op := _, type := _, pos := _, after := _, guard := _ }) (v := ?_) rfl (by kernel_rfl) (by kernel_rfl) (by kernel_rfl) (fun _ _ _ h => h) (Or.inl ⟨by rfl, ?_⟩) (by assumption) ?_
  rotate_left
  · intro w hSw
    first | (go_simp; done) | (go_simp; with_reducible rfl) | with_reducible rfl | rfl
  try simp only [Act.put, List.setIfInBounds_toArray, List.set_cons_zero, List.set_cons_succ]
  refine wpAnyH_done (by kernel_rfl) ?_ _
  replace HB := hide (below_tr (unhide HB) HD)
  replace HX := hide ((unhide HX).bel HD)
  replace HV := hide ((unhide HV).bel HD)
  replace HM := hide ((unhide HM).bel HD)
  replace HY := hide ((unhide HY).bel HD)
  replace HG := hide ((unhide HG).bel HD)
  have HhoV := hide hoV
  clear HD hoV
  have x0 := (unhide HX).cell 0 rfl
  have x1 := (unhide HX).cell 1 rfl
  have x2 := (unhide HX).cell 2 rfl
  have x3 := (unhide HX).cell 3 rfl
  have x4 := (unhide HX).cell 4 rfl
  have x5 := (unhide HX).cell 5 rfl
  have y0 := (unhide HY).cell 0 rfl
  have y1 := (unhide HY).cell 1 rfl
  have y2 := (unhide HY).cell 2 rfl
  have y3 := (unhide HY).cell 3 rfl
  have y4 := (unhide HY).cell 4 rfl
  have y5 := (unhide HY).cell 5 rfl
  go_wp2_with fail
  clear HhoV
  (try clear x0 x1 x2 x3 x4 x5 y0 y1 y2 y3 y4 y5)
  have hHP : ∀ (a b : World) (row : Option Nat), (RRow a av ys ∧ ROwn a (w4.heap.size + 1) (.slice ag ys.length cg) ys ∧ Box a w4.heap.size [.slice bm0 es.length jm0, .slice bm1 pu.length jm1, .slice bm2 ds.length jm2, .int .i64 cl, .slice bm4 nu.length jm4, .slice bm5 sa.length jm5] ∧ Box a w.heap.size [.slice a0 es.length k0, .slice a1 pu.length k1, .slice a2 ds.length k2, .int .i64 cl, .slice a4 nu.length k4, .slice a5 sa.length k5] ∧ Below w.heap.size w a) → a.grownBy b row → HBlk ⟨bm0, jm0, bm1, jm1, bm2, jm2, bm4, jm4, bm5, jm5⟩ ⟨es, pu, ds, cl, nu, sa⟩ row → (RRow b av ys ∧ ROwn b (w4.heap.size + 1) (.slice ag ys.length cg) ys ∧ Box b w4.heap.size [.slice bm0 es.length jm0, .slice bm1 pu.length jm1, .slice bm2 ds.length jm2, .int .i64 cl, .slice bm4 nu.length jm4, .slice bm5 sa.length jm5] ∧ Box b w.heap.size [.slice a0 es.length k0, .slice a1 pu.length k1, .slice a2 ds.length k2, .int .i64 cl, .slice a4 nu.length k4, .slice a5 sa.length k5] ∧ Below w.heap.size w b) := by
    rintro a b row ⟨p1, p2, p3, p5, p4⟩ hg hrow
    have hb := unhide HMb row hrow
    refine ⟨p1.kpt hg (fun x hx e => ?_), p2.kpt hg (fun x hx e => ?_), p3.kpt hg (fun e => ?_), p5.kpt hg (fun e => ?_), grown_below p4 hg (fun x hx => ?_)⟩
    · have h1 := unhide HVb x hx; have h2 := (hb _ e.symm).1; omega
    · have h1 := (rown_lt p2 x hx).1; have h2 := (hb x e.symm).2; omega
    · have h2 := (hb _ e.symm).2; omega
    · have h2 := (hb _ e.symm).1; omega
    · have h2 := (hb x hx).1; omega
  have HHP := hide hHP
  clear hHP
  refine (markHP (fun a => RRow a av ys ∧ ROwn a (w4.heap.size + 1) (.slice ag ys.length cg) ys ∧ Box a w4.heap.size [.slice bm0 es.length jm0, .slice bm1 pu.length jm1, .slice bm2 ds.length jm2, .int .i64 cl, .slice bm4 nu.length jm4, .slice bm5 sa.length jm5] ∧ Box a w.heap.size [.slice a0 es.length k0, .slice a1 pu.length k1, .slice a2 ds.length k2, .int .i64 cl, .slice a4 nu.length k4, .slice a5 sa.length k5] ∧ Below w.heap.size w a) ⟨es, pu, ds, cl, nu, sa⟩ ⟨bm0, jm0, bm1, jm1, bm2, jm2, bm4, jm4, bm5, jm5⟩ _ _ hs (unhide HM) ⟨unhide HV, unhide HG, unhide HY, unhide HX, unhide HB⟩ (unhide HHP)).mono ?_
  rintro e w7 ⟨rfl, -, -, p1, p2, p3, p5, p4⟩
  clear HHP HM HY HV HG HX HB
  have HV := hide p1
  have HG := hide p2
  have HX := hide p5
  have HB := hide p4
  clear p1 p2 p3 p4 p5
  generalize hk5 ⟨es, pu, ds, cl, nu, sa⟩ = kk at *
  have hkk : ¬ ((kk : Int) < 0) := by omega
  have x0 := (unhide HX).cell 0 rfl
  have x1 := (unhide HX).cell 1 rfl
  have x2 := (unhide HX).cell 2 rfl
  have x3 := (unhide HX).cell 3 rfl
  have x4 := (unhide HX).cell 4 rfl
  have x5 := (unhide HX).cell 5 rfl
  go_wp2_with fail
  refine (sameR ys ag av _ cg cv _ rfl (by omega) ((unhide HG).rd rfl) (unhide HV)).mono ?_
  rintro e w8 ⟨rfl, hb⟩
  (try clear x0 x1 x2 x3 x4 x5)
  replace HB := hide (below_tr (unhide HB) hb)
  replace HV := hide ((unhide HV).bel hb)
  replace HG := hide ((unhide HG).bel hb)
  replace HX := hide ((unhide HX).bel hb)
  clear hb
  have x0 := (unhide HX).cell 0 rfl
  have x1 := (unhide HX).cell 1 rfl
  have x2 := (unhide HX).cell 2 rfl
  have x3 := (unhide HX).cell 3 rfl
  have x4 := (unhide HX).cell 4 rfl
  have x5 := (unhide HX).cell 5 rfl
  go_wp2_with fail
  refine (markR ys _ ag _ cg _ rfl (by omega) (unhide HG)).mono ?_
  rintro e w9 ⟨rfl, hh, hg⟩
  (try clear x0 x1 x2 x3 x4 x5)
  have hgb : ∀ x, (Value.slice ag ys.length cg).ownBlock = some x → w4.heap.size + 1 ≤ x := fun x hx => (rown_lt (unhide HG) x hx).1
  replace HV := hide ((unhide HV).kpt hg (fun x hx e => by have h1 := unhide HVb x hx; have h2 := hgb _ e.symm; omega))
  replace HX := hide ((unhide HX).kpt hg (fun e => by have h2 := hgb _ e.symm; omega))
  replace HB := hide (grown_below (unhide HB) hg (fun x hx => by have h2 := hgb x hx; omega))
  have HH := hide hh
  clear hh hg hgb HG
  have hnn : ¬ (3 * (ys.length : Int) + 1 < 0) := by omega
  have x0 := (unhide HX).cell 0 rfl
  have x1 := (unhide HX).cell 1 rfl
  have x2 := (unhide HX).cell 2 rfl
  have x3 := (unhide HX).cell 3 rfl
  have x4 := (unhide HX).cell 4 rfl
  have x5 := (unhide HX).cell 5 rfl
  go_wp2_with fail
  refine (heldR ys ag _ cg _ rfl (by omega) (unhide HH)).mono ?_
  rintro e w10 ⟨rfl, hww⟩
  have hww := hww.symm
  subst hww
  go_wp2_with fail
  refine (c73 ⟨es, pu, ds, cl, nu, sa⟩ ⟨a0, k0, a1, k1, a2, k2, a4, k4, a5, k5⟩ _ hs ((unhide HR).bel (unhide HB))).mono ?_
  rintro e w11 ⟨⟨bz20, jz20, bz21, jz21, bz22, jz22, bz24, jz24, bz25, jz25⟩, rfl, ho, hb⟩
  (try clear x0 x1 x2 x3 x4 x5)
  replace HB := hide (below_tr (unhide HB) hb)
  replace HV := hide ((unhide HV).bel hb)
  replace HX := hide ((unhide HX).bel hb)
  replace HH := hide ((unhide HH).bel hb)
  have HM2 := hide (ho)
  clear hb ho
  have x0 := (unhide HX).cell 0 rfl
  have x1 := (unhide HX).cell 1 rfl
  have x2 := (unhide HX).cell 2 rfl
  have x3 := (unhide HX).cell 3 rfl
  have x4 := (unhide HX).cell 4 rfl
  have x5 := (unhide HX).cell 5 rfl
  go_wp2_with fail
  refine (c77 ⟨es, pu, ds, cl, nu, sa⟩ ⟨bz20, jz20, bz21, jz21, bz22, jz22, bz24, jz24, bz25, jz25⟩ _ hs.1 (unhide HM2).rd).mono ?_
  rintro e w12 ⟨v, rfl, ho, hb⟩
  replace ho : ROwn _ _ v ys := (by rw [← unhide HYS]; exact ho)
  obtain ⟨ah, ch, rfl, hch, hrh, hbh⟩ := ho.row
  (try clear x0 x1 x2 x3 x4 x5)
  replace HB := hide (below_tr (unhide HB) hb)
  replace HV := hide ((unhide HV).bel hb)
  replace HX := hide ((unhide HX).bel hb)
  replace HH := hide ((unhide HH).bel hb)
  clear HM2
  have HW := hide (hrh)
  clear hb ho hrh hbh
  have x0 := (unhide HX).cell 0 rfl
  have x1 := (unhide HX).cell 1 rfl
  have x2 := (unhide HX).cell 2 rfl
  have x3 := (unhide HX).cell 3 rfl
  have x4 := (unhide HX).cell 4 rfl
  have x5 := (unhide HX).cell 5 rfl
  go_wp2_with fail
  refine (sameR ys ah av _ ch cv _ rfl (by omega) (unhide HW) (unhide HV)).mono ?_
  rintro e w13 ⟨rfl, hb⟩
  (try clear x0 x1 x2 x3 x4 x5)
  replace HB := hide (below_tr (unhide HB) hb)
  replace HV := hide ((unhide HV).bel hb)
  replace HX := hide ((unhide HX).bel hb)
  replace HH := hide ((unhide HH).bel hb)
  clear HW
  clear hb
  have x0 := (unhide HX).cell 0 rfl
  have x1 := (unhide HX).cell 1 rfl
  have x2 := (unhide HX).cell 2 rfl
  have x3 := (unhide HX).cell 3 rfl
  have x4 := (unhide HX).cell 4 rfl
  have x5 := (unhide HX).cell 5 rfl
  go_wp2_with fail
  refine (heldR ys ag _ cg _ rfl (by omega) (unhide HH)).mono ?_
  rintro e w14 ⟨rfl, hww⟩
  have hww := hww.symm
  subst hww
  go_wp2_with fail
  go_ret
  exact ⟨rfl, unhide HB⟩
end Go.Proofs.Ytdpkdcdieajkbaa
