/-
  The walk of the law FnMktNew: at every code it answers true, and nothing that was there is written.
-/
import Derived.Test.YtmlbphmbffkdnaaMswk
import Derived.Test.YtmlbphmbffkdnaaMnews
import Derived.Test.YtmlbphmbffkdnaaMokp
import Derived.Test.YtmlbphmbffkdnaaDrm
namespace Go.Proofs.Ytmlbphmbffkdnaa
open Go.RowKit
set_option linter.unusedVariables false
set_option maxRecDepth 100000

set_option maxHeartbeats 1000000 in
theorem c20 (bs : List Int) (ao : Option Addr) (n cap : Nat) (w : World) (hn : bs.length = n) (hc : n ≤ cap) (hm : cap ≤ maxLen) (hB : Bytes w ao bs) :
    Calls Try.prog 20 #[.slice ao n cap] w fun e w' => DrawnP w e w' (fun v => v) := by
  have HB := hide hB
  clear hB
  go_enter Try.func20, Try.ntmps20
  go_wp2_with fail
  refine (c104 bs ao n cap _ hn hc hm (unhide HB)).mono ?_
  rintro e w1 ⟨rfl, hr, hb, hl⟩
  have HR := hide hr
  have HBe := hide hb
  clear hr hb
  go_wp2_with fail
  refine (c103 _ 0 3 _ (by omega) (by omega) (unhide HR)).mono ?_
  rintro e w2 ⟨ao2, n2, cap2, zs, rfl, hln, hn6, hnc, hz, hrow, hblk, hr, hg⟩
  have HRo := hide hrow
  have HB2 := hide (below_of_grown (unhide HBe) hg)
  have HZ := hide hz
  have HLN := hide hln
  clear hr hg hrow hblk hz hln
  go_wp2_with fail
  go_ret
  exact ⟨ao2, n2, cap2, zs, rfl, HLN.out, hn6, hnc, unhide HZ, unhide HRo, unhide HB2⟩
theorem newH_small2 (p : List Int) (h : p.length ≤ 1048576) : Small (newH p) := by
  unfold newH
  split
  · exact ⟨by simp, h, by simp, by simp, by simp⟩
  · exact ⟨by simp, by simp, by simp, by simp, by simp⟩
theorem zsmall : Small ⟨[], [], [], 0, [], []⟩ := ⟨by simp, by simp, by simp, by simp, by simp⟩
theorem zrow (w : World) : HRow w ⟨none, 0, none, 0, none, 0, none, 0, none, 0⟩ ⟨[], [], [], 0, [], []⟩ := by
  refine ⟨⟨fun e he => by simp at he, fun h => absurd rfl h⟩, ?_, ⟨fun e he => by simp at he, fun h => absurd rfl h⟩, ?_, ?_⟩ <;> exact ⟨fun z hz => by simp at hz, fun h => absurd rfl h⟩
theorem newH_good {p : List Int} (h1 : Tm.monOk p = true) (h2 : monSum p ≤ 100000) : newH p = ⟨[], p, [], 0, [0, 0, 0, 0, 0], [0, 0, 0, 0, 0]⟩ := by unfold newH; rw [if_pos ⟨h1, h2⟩]
theorem newH_bad {p : List Int} (h : ¬ (Tm.monOk p = true ∧ monSum p ≤ 100000)) : newH p = ⟨[], [], [], 0, [], []⟩ := by unfold newH; rw [if_neg h]
theorem mktOk_new {p : List Int} (h1 : Tm.monOk p = true) (h2 : monSum p ≤ 100000) : mktOk ⟨[], p, [], 0, [0, 0, 0, 0, 0], [0, 0, 0, 0, 0]⟩ = true := by
  have h3 : foldIs [] = true := by decide
  have h4 : numsOk [0, 0, 0, 0, 0] [0, 0, 0, 0, 0] = true := by decide
  unfold mktOk
  simp only [h3, h1, h4, dealsFrom, heldSum, List.foldl_nil]
  simp [h2]
theorem mktOk_none : mktOk ⟨[], [], [], 0, [], []⟩ = false := mo_2 (h := ⟨[], [], [], 0, [], []⟩) (by decide)

set_option maxHeartbeats 8000000 in
theorem law3 (bs : List Int) (ao : Option Addr) (n cap : Nat) (w : World) (hn : bs.length = n) (hc : n ≤ cap) (hm : cap ≤ maxLen) (hB : Bytes w ao bs) :
    Calls Try.prog 3 #[.slice ao n cap] w (Holds w) := by
  have HM := hide hm
  unfold maxLen at hm
  have HBY := hide hB
  have HN := hide hn
  have HB := hide (Below.refl w.heap.size w)
  clear hB hn
  by_cases hbig : (1048576 : Int) < (n : Int)
  case pos =>
    go_enter Try.func3, Try.ntmps3
    go_wp2_with fail
    go_ret
    exact ⟨rfl, unhide HB⟩
  go_enter Try.func3, Try.ntmps3
  go_wp2_with fail
  refine (c20 bs ao n cap _ HN.out hc (unhide HM) (unhide HBY)).mono ?_
  rintro e w1 ⟨a, m, c, p, rfl, hl, h6, hmc, hz, hr, hb⟩
  replace HB := hide (below_tr (unhide HB) hb)
  clear HBY
  have HP := hide (hr)
  clear hb hr
  have HL := hide hl
  have HZ := hide hz
  clear hl hz
  obtain ⟨es, pu, ds, cl, nu, sa, HNW⟩ : ∃ es pu ds cl nu sa, Hid (newH p = ⟨es, pu, ds, cl, nu, sa⟩) := ⟨_, _, _, _, _, _, rfl⟩
  have hsm : Small ⟨es, pu, ds, cl, nu, sa⟩ := by rw [← unhide HNW]; exact newH_small2 p (by have := unhide HL; omega)
  have HSM := hide hsm
  clear hsm
  go_wp2_with fail
  refine (c21 p a m c _ (unhide HL) (by omega) (unhide HZ) (unhide HP)).mono ?_
  rintro e w2 ⟨⟨bm0, jm0, bm1, jm1, bm2, jm2, bm4, jm4, bm5, jm5⟩, rfl, ho, hb⟩
  rw [unhide HNW] at ho ⊢
  replace HB := hide (below_tr (unhide HB) hb)
  replace HP := hide ((unhide HP).bel hb)
  have HX := hide (ho.rd)
  clear hb ho
  replace HB := hide (below_al (o := .cells #[.slice bm0 es.length jm0, .slice bm1 pu.length jm1, .slice bm2 ds.length jm2, .int .i64 cl, .slice bm4 nu.length jm4, .slice bm5 sa.length jm5] 28) (unhide HB))
  replace HP := hide ((unhide HP).bel (below_a (.cells #[.slice bm0 es.length jm0, .slice bm1 pu.length jm1, .slice bm2 ds.length jm2, .int .i64 cl, .slice bm4 nu.length jm4, .slice bm5 sa.length jm5] 28)))
  replace HX := hide ((unhide HX).bel (below_a (.cells #[.slice bm0 es.length jm0, .slice bm1 pu.length jm1, .slice bm2 ds.length jm2, .int .i64 cl, .slice bm4 nu.length jm4, .slice bm5 sa.length jm5] 28)))
  have HY := hide (box_new w2 [.slice bm0 es.length jm0, .slice bm1 pu.length jm1, .slice bm2 ds.length jm2, .int .i64 cl, .slice bm4 nu.length jm4, .slice bm5 sa.length jm5] 28 (by simp [Value.oneCell']))
  have y0 := (unhide HY).cell 0 rfl
  have y1 := (unhide HY).cell 1 rfl
  have y2 := (unhide HY).cell 2 rfl
  have y3 := (unhide HY).cell 3 rfl
  have y4 := (unhide HY).cell 4 rfl
  have y5 := (unhide HY).cell 5 rfl
  go_wp2_with fail
  generalize w2.alloc (.cells #[.slice bm0 es.length jm0, .slice bm1 pu.length jm1, .slice bm2 ds.length jm2, .int .i64 cl, .slice bm4 nu.length jm4, .slice bm5 sa.length jm5] 28) = W at *
  (try clear y0 y1 y2 y3 y4 y5)
  refine wp_region_held_drew (S := fun w' => Below W.heap.size W w') (by kernel_rfl) (below_drew W) (fun hHeld => ?_)
  refine wpAnyH_take (i := 0) (oi := { dst := some 12, op := _, type := _, pos := _, after := _, guard := _ }) (v := ?_) rfl (by kernel_rfl) (by kernel_rfl) (by kernel_rfl) (fun _ _ _ h => h) (Or.inl ⟨by rfl, ?_⟩) (by assumption) ?_
  rotate_left
  · intro w hSw
    have hT := (unhide HY).below hSw; have y0 := hT.cell 0 rfl; have y1 := hT.cell 1 rfl; have y2 := hT.cell 2 rfl; have y3 := hT.cell 3 rfl; have y4 := hT.cell 4 rfl; have y5 := hT.cell 5 rfl; clear hT
    first | (go_simp; done) | (go_simp; with_reducible rfl) | with_reducible rfl | rfl
  try simp only [Act.put, List.setIfInBounds_toArray, List.set_cons_zero, List.set_cons_succ]
  refine wpAnyH_take (i := 1) (oi := { dst := some 13, op := _, type := _, pos := _, after := _, guard := _ }) (v := ?_) rfl (by kernel_rfl) (by kernel_rfl) (by kernel_rfl) (fun _ _ _ h => h) (Or.inl ⟨by rfl, ?_⟩) (by assumption) ?_
  rotate_left
  · intro w hSw
    first | (go_simp; done) | (go_simp; with_reducible rfl) | with_reducible rfl | rfl
  try simp only [Act.put, List.setIfInBounds_toArray, List.set_cons_zero, List.set_cons_succ]
  have HD := below_drew W
  generalize W.drew = V0 at *
  refine wpAnyH_ready (rs := [2]) (by kernel_rfl) (by simp) ?_
  refine AllReadyH.cons (o := { dst := some 14, op := _, type := _, pos := _, after := _, guard := _ }) rfl (fun K hK => ?_) AllReadyH.nil
  go_simp
  go_at_call 23
  refine (c23 p a m c _ (unhide HL) (by omega) (unhide HZ) ((unhide HP).bel HD)).mono ?_
  rintro e V1 ⟨⟨bz0, jz0, bz1, jz1, bz2, jz2, bz4, jz4, bz5, jz5⟩, rfl, ho, hb⟩
  replace HD := below_then HD hb
  clear hb
  rw [unhide HNW] at ho ⊢
  have hoV := ho.rd
  clear ho
  try go_wp2_with fail
  refine hK.out _ _ HD (fun hHeld => ?_)
  clear hK K hHeld
  try simp only [Act.put, List.setIfInBounds_toArray, List.set_cons_zero, List.set_cons_succ]
  refine wpAnyH_ready (rs := [3]) (by kernel_rfl) (by simp) ?_
  refine AllReadyH.cons (o := { dst := some 15, op := _, type := _, pos := _, after := _, guard := _ }) rfl (fun K hK => ?_) AllReadyH.nil
  go_simp
  go_at_call 22
  refine (c22 ⟨es, pu, ds, cl, nu, sa⟩ ⟨es, pu, ds, cl, nu, sa⟩ ⟨bm0, jm0, bm1, jm1, bm2, jm2, bm4, jm4, bm5, jm5⟩ ⟨bz0, jz0, bz1, jz1, bz2, jz2, bz4, jz4, bz5, jz5⟩ _ (unhide HSM) (unhide HSM) ((unhide HX).bel HD) hoV).mono ?_
  rintro e V2 ⟨rfl, hb⟩
  replace hoV := hoV.bel hb
  replace HD := below_then HD hb
  clear hb
  rw [swM_self]
  try go_wp2_with fail
  refine hK.out _ _ HD (fun hHeld => ?_)
  clear hK K hHeld
  try simp only [Act.put, List.setIfInBounds_toArray, List.set_cons_zero, List.set_cons_succ]
  refine wpAnyH_take (i := 4) (oi := { dst := some 16, op := _, type := _, pos := _, after := _, guard := _ }) (v := ?_) rfl (by kernel_rfl) (by kernel_rfl) (by kernel_rfl) (fun _ _ _ h => h) (Or.inl ⟨by rfl, ?_⟩) (by assumption) ?_
  rotate_left
  · intro w hSw
    first | (go_simp; done) | (go_simp; with_reducible rfl) | with_reducible rfl | rfl
  try simp only [Act.put, List.setIfInBounds_toArray, List.set_cons_zero, List.set_cons_succ]
  refine wpAnyH_done (by kernel_rfl) ?_ _
  replace HB := hide (below_tr (unhide HB) HD)
  replace HP := hide ((unhide HP).bel HD)
  replace HX := hide ((unhide HX).bel HD)
  replace HY := hide ((unhide HY).bel HD)
  have HhoV := hide hoV
  clear HD hoV
  have y0 := (unhide HY).cell 0 rfl
  have y1 := (unhide HY).cell 1 rfl
  have y2 := (unhide HY).cell 2 rfl
  have y3 := (unhide HY).cell 3 rfl
  have y4 := (unhide HY).cell 4 rfl
  have y5 := (unhide HY).cell 5 rfl
  go_wp2_with fail
  clear HhoV
  rcases h1 : Tm.monOk p with _ | _
  case false =>
    refine (c24 p a m c _ (unhide HL) (by omega) (unhide HP)).mono ?_
    rintro e w3 ⟨rfl, hww⟩
    have hww := hww.symm
    subst hww
    rw [h1]
    go_wp2_with fail
    have hbad := newH_bad (p := p) (by rw [h1]; simp)
    rw [unhide HNW] at hbad
    have HE := hide hbad
    clear hbad
    refine (c22 ⟨es, pu, ds, cl, nu, sa⟩ ⟨[], [], [], 0, [], []⟩ ⟨bm0, jm0, bm1, jm1, bm2, jm2, bm4, jm4, bm5, jm5⟩ ⟨none, 0, none, 0, none, 0, none, 0, none, 0⟩ _ (unhide HSM) zsmall (unhide HX) (zrow _)).mono ?_
    rintro e w4 ⟨rfl, hb⟩
    rw [unhide HE, swM_self]
    (try clear y0 y1 y2 y3 y4 y5)
    replace HB := hide (below_tr (unhide HB) hb)
    replace HP := hide ((unhide HP).bel hb)
    replace HX := hide ((unhide HX).bel hb)
    replace HY := hide ((unhide HY).bel hb)
    clear hb
    have y0 := (unhide HY).cell 0 rfl
    have y1 := (unhide HY).cell 1 rfl
    have y2 := (unhide HY).cell 2 rfl
    have y3 := (unhide HY).cell 3 rfl
    have y4 := (unhide HY).cell 4 rfl
    have y5 := (unhide HY).cell 5 rfl
    go_wp2_with fail
    refine (c26 ⟨es, pu, ds, cl, nu, sa⟩ ⟨bm0, jm0, bm1, jm1, bm2, jm2, bm4, jm4, bm5, jm5⟩ _ (unhide HSM) (unhide HX)).mono ?_
    rintro e w5 ⟨rfl, hb⟩
    rw [unhide HE, mktOk_none]
    (try clear y0 y1 y2 y3 y4 y5)
    replace HB := hide (below_tr (unhide HB) hb)
    replace HP := hide ((unhide HP).bel hb)
    replace HX := hide ((unhide HX).bel hb)
    replace HY := hide ((unhide HY).bel hb)
    clear hb
    have y0 := (unhide HY).cell 0 rfl
    have y1 := (unhide HY).cell 1 rfl
    have y2 := (unhide HY).cell 2 rfl
    have y3 := (unhide HY).cell 3 rfl
    have y4 := (unhide HY).cell 4 rfl
    have y5 := (unhide HY).cell 5 rfl
    go_wp2_with fail
    refine (c27 _).mono ?_
    rintro e w6 ⟨rfl, hww⟩
    have hww := hww.symm
    subst hww
    go_wp2_with fail
    go_ret
    exact ⟨rfl, unhide HB⟩
  refine (c24 p a m c _ (unhide HL) (by omega) (unhide HP)).mono ?_
  rintro e w3 ⟨rfl, hww⟩
  have hww := hww.symm
  subst hww
  rw [h1]
  go_wp2_with fail
  by_cases h2 : monSum p ≤ 100000
  case neg =>
    have h3 : (100000 : Int) < monSum p := by omega
    refine (c25 p a m c _ (unhide HL) (by omega) (unhide HP)).mono ?_
    rintro e w4 ⟨rfl, hww⟩
    have hww := hww.symm
    subst hww
    go_wp2_with fail
    have hbad := newH_bad (p := p) (fun h => by have := h.2; omega)
    rw [unhide HNW] at hbad
    have HE := hide hbad
    clear hbad
    refine (c22 ⟨es, pu, ds, cl, nu, sa⟩ ⟨[], [], [], 0, [], []⟩ ⟨bm0, jm0, bm1, jm1, bm2, jm2, bm4, jm4, bm5, jm5⟩ ⟨none, 0, none, 0, none, 0, none, 0, none, 0⟩ _ (unhide HSM) zsmall (unhide HX) (zrow _)).mono ?_
    rintro e w5 ⟨rfl, hb⟩
    rw [unhide HE, swM_self]
    (try clear y0 y1 y2 y3 y4 y5)
    replace HB := hide (below_tr (unhide HB) hb)
    replace HP := hide ((unhide HP).bel hb)
    replace HX := hide ((unhide HX).bel hb)
    replace HY := hide ((unhide HY).bel hb)
    clear hb
    have y0 := (unhide HY).cell 0 rfl
    have y1 := (unhide HY).cell 1 rfl
    have y2 := (unhide HY).cell 2 rfl
    have y3 := (unhide HY).cell 3 rfl
    have y4 := (unhide HY).cell 4 rfl
    have y5 := (unhide HY).cell 5 rfl
    go_wp2_with fail
    refine (c26 ⟨es, pu, ds, cl, nu, sa⟩ ⟨bm0, jm0, bm1, jm1, bm2, jm2, bm4, jm4, bm5, jm5⟩ _ (unhide HSM) (unhide HX)).mono ?_
    rintro e w6 ⟨rfl, hb⟩
    rw [unhide HE, mktOk_none]
    (try clear y0 y1 y2 y3 y4 y5)
    replace HB := hide (below_tr (unhide HB) hb)
    replace HP := hide ((unhide HP).bel hb)
    replace HX := hide ((unhide HX).bel hb)
    replace HY := hide ((unhide HY).bel hb)
    clear hb
    have y0 := (unhide HY).cell 0 rfl
    have y1 := (unhide HY).cell 1 rfl
    have y2 := (unhide HY).cell 2 rfl
    have y3 := (unhide HY).cell 3 rfl
    have y4 := (unhide HY).cell 4 rfl
    have y5 := (unhide HY).cell 5 rfl
    go_wp2_with fail
    refine (c27 _).mono ?_
    rintro e w7 ⟨rfl, hww⟩
    have hww := hww.symm
    subst hww
    go_wp2_with fail
    go_ret
    exact ⟨rfl, unhide HB⟩
  have h3 : ¬ ((100000 : Int) < monSum p) := by omega
  refine (c25 p a m c _ (unhide HL) (by omega) (unhide HP)).mono ?_
  rintro e w4 ⟨rfl, hww⟩
  have hww := hww.symm
  subst hww
  have HG := hide (newH_good h1 h2)
  rw [unhide HNW] at HG
  have HMO := hide (mktOk_new h1 h2)
  rw [← unhide HG] at HMO
  have hg := unhide HG
  have E0 : es = [] := congrArg House.es hg
  have E1 : pu = p := congrArg House.pu hg
  have E2 : ds = [] := congrArg House.ds hg
  have E3 : cl = 0 := congrArg House.cl hg
  have l0 : es.length = 0 := by rw [E0]; rfl
  have l2 : ds.length = 0 := by rw [E2]; rfl
  have HE1 := hide E1
  have HE2 := hide E2
  have HL0 := hide l0
  have HL2 := hide l2
  subst E3
  clear hg E0 E1 E2
  have hw0 : ((es.length : Int) + (ds.length : Int)) = 0 := by omega
  have hw1 : IntKind.i64.wrap ((es.length : Int) + (ds.length : Int)) = 0 := by rw [hw0]; rfl
  clear l0 l2
  go_wp2_with fail
  refine (c26 ⟨es, pu, ds, 0, nu, sa⟩ ⟨bm0, jm0, bm1, jm1, bm2, jm2, bm4, jm4, bm5, jm5⟩ _ (unhide HSM) (unhide HX)).mono ?_
  rintro e w5 ⟨rfl, hb⟩
  rw [unhide HMO]
  (try clear y0 y1 y2 y3 y4 y5)
  replace HB := hide (below_tr (unhide HB) hb)
  replace HP := hide ((unhide HP).bel hb)
  replace HX := hide ((unhide HX).bel hb)
  replace HY := hide ((unhide HY).bel hb)
  clear hb
  have y0 := (unhide HY).cell 0 rfl
  have y1 := (unhide HY).cell 1 rfl
  have y2 := (unhide HY).cell 2 rfl
  have y3 := (unhide HY).cell 3 rfl
  have y4 := (unhide HY).cell 4 rfl
  have y5 := (unhide HY).cell 5 rfl
  go_wp2_with fail
  refine (c28 pu p bm1 a pu.length jm1 m c _ rfl (unhide HL) (by have := (unhide HSM).2.1; dsimp only at this; omega) (by omega) (unhide HX).2.1 (unhide HP)).mono ?_
  rintro e w6 ⟨rfl, hb⟩
  replace hb := below_ex hb
  rw [decide_eq_true (unhide HE1)]
  (try clear y0 y1 y2 y3 y4 y5)
  replace HB := hide (below_tr (unhide HB) hb)
  replace HP := hide ((unhide HP).bel hb)
  replace HX := hide ((unhide HX).bel hb)
  replace HY := hide ((unhide HY).bel hb)
  clear hb
  have y0 := (unhide HY).cell 0 rfl
  have y1 := (unhide HY).cell 1 rfl
  have y2 := (unhide HY).cell 2 rfl
  have y3 := (unhide HY).cell 3 rfl
  have y4 := (unhide HY).cell 4 rfl
  have y5 := (unhide HY).cell 5 rfl
  go_wp2_with fail
  refine (c29 ⟨es, pu, ds, 0, nu, sa⟩ ⟨bm0, jm0, bm1, jm1, bm2, jm2, bm4, jm4, bm5, jm5⟩ _ (by have := unhide HL2; dsimp only; omega) (by dsimp only; rw [unhide HE2]; intro d hd; simp at hd) (unhide HX)).mono ?_
  rintro e w7 ⟨rfl, hb⟩
  dsimp only
  rw [unhide HE2]
  rw [show heldSum [] = 0 from rfl]
  (try clear y0 y1 y2 y3 y4 y5)
  replace HB := hide (below_tr (unhide HB) hb)
  replace HP := hide ((unhide HP).bel hb)
  replace HX := hide ((unhide HX).bel hb)
  replace HY := hide ((unhide HY).bel hb)
  clear hb
  have y0 := (unhide HY).cell 0 rfl
  have y1 := (unhide HY).cell 1 rfl
  have y2 := (unhide HY).cell 2 rfl
  have y3 := (unhide HY).cell 3 rfl
  have y4 := (unhide HY).cell 4 rfl
  have y5 := (unhide HY).cell 5 rfl
  go_wp2_with fail
  go_ret
  exact ⟨rfl, unhide HB⟩
end Go.Proofs.Ytmlbphmbffkdnaa
