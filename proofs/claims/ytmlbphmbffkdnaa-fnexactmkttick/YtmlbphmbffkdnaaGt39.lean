/-
  Texts of the proof, what it needs of them: Mokp.
-/
import Derived.Test.YtmlbphmbffkdnaaGt37
import Derived.Test.YtmlbphmbffkdnaaGt38
namespace Go.Proofs.Ytmlbphmbffkdnaa
open Go.RowKit
set_option linter.unusedVariables false
set_option maxRecDepth 100000

/-- a market is ok -/
def mktOk (h : House) : Bool := foldIs h.es && (Tm.monOk h.pu && (decide (0 ≤ h.cl ∧ h.cl ≤ 99999) && (dealsFrom (foldRows h.es) h.cl (-1) h.ds && (numsOk h.nu h.sa && decide (monSum h.pu + heldSum h.ds ≤ 100000)))))
theorem fold8 {es : List Tm.Ent} (hf : foldIs es = true) : Tm.ownOk (foldRows es) = true := by
  unfold foldIs at hf
  unfold foldRows
  rcases h : Tm.ownFold es with _ | rs
  · rw [h] at hf; cases hf
  · exact ownFold_ok h
theorem deals_len {rs : List Tm.Rw} {c : Int} : ∀ (ds : List Tm.Deal) (l : Int), dealsFrom rs c l ds = true → l ≤ 7 → l + (ds.length : Int) ≤ 7 := by
  intro ds
  induction ds with
  | nil => intro l _ h; simpa using h
  | cons d t ih =>
    intro l h hl
    unfold dealsFrom at h
    simp only [Bool.and_eq_true, decide_eq_true_eq] at h
    have := ih d.1 h.2.2.2 h.1.2
    simp only [List.length_cons]
    omega
theorem deal_price {r : Tm.Rw} {c : Int} {d : Tm.Deal} (h : dealOk r c d = true) : 0 ≤ d.2.2.1 ∧ d.2.2.1 ≤ 100 ∧ 0 ≤ d.2.2.2.1 := by
  unfold dealOk dealBase dealWait at h
  simp only [Bool.and_eq_true, decide_eq_true_eq] at h
  have hc := Tm.cap_bd r.2.1
  have h1 := h.1.2.2
  refine ⟨by omega, by omega, ?_⟩
  have h2 := h.2
  split at h2
  · omega
  · simp only [Bool.and_eq_true, decide_eq_true_eq] at h2; omega
theorem deals_prices {rs : List Tm.Rw} {c : Int} : ∀ (ds : List Tm.Deal) (l : Int), dealsFrom rs c l ds = true → Prices ds := by
  intro ds
  induction ds with
  | nil => intro l _ d hd; cases hd
  | cons x t ih =>
    intro l h d hd
    unfold dealsFrom at h
    simp only [Bool.and_eq_true] at h
    rcases List.mem_cons.1 hd with rfl | hd
    · exact deal_price h.2.2.1
    · exact ih _ h.2.2.2 d hd
theorem sum_bd {p : List Int} (hp : ∀ x ∈ p, 0 ≤ x ∧ x ≤ 100000) (h5 : p.length = 5) : ∀ k, k ≤ p.length → 0 ≤ sumTo p k ∧ sumTo p k ≤ 100000 * (k : Int) := by
  intro k
  induction k with
  | zero => intro _; rw [sumTo_zero]; omega
  | succ k ih =>
    intro hk
    have h1 := ih (by omega)
    have h2 : 0 ≤ p.getD k 0 ∧ p.getD k 0 ≤ 100000 := by
      rw [List.getD_eq_getElem?_getD, List.getElem?_eq_getElem (by omega : k < p.length)]
      exact hp _ (List.getElem_mem _)
    rw [sumTo_succ p k (by omega), show wrap64 (sumTo p k + p.getD k 0) = sumTo p k + p.getD k 0 by unfold wrap64; omega]
    omega
theorem mon_bd {p : List Int} (h : Tm.monOk p = true) : 0 ≤ monSum p ∧ monSum p ≤ 500000 := by
  obtain ⟨h5, hp⟩ := Tm.monOk_iff.1 h
  have := sum_bd hp h5 p.length (Nat.le_refl _)
  unfold monSum
  omega
theorem mo_1 {h : House} (e : foldIs h.es = false) : mktOk h = false := by unfold mktOk; rw [e]; rfl
theorem mo_2 {h : House} (e : Tm.monOk h.pu = false) : mktOk h = false := by unfold mktOk; rw [e]; simp
theorem mo_3 {h : House} (e : decide (0 ≤ h.cl ∧ h.cl ≤ 99999) = false) : mktOk h = false := by unfold mktOk; rw [e]; simp
theorem mo_4 {h : House} (e : dealsFrom (foldRows h.es) h.cl (-1) h.ds = false) : mktOk h = false := by unfold mktOk; rw [e]; simp
theorem mo_5 {h : House} (e : numsOk h.nu h.sa = false) : mktOk h = false := by unfold mktOk; rw [e]; simp
theorem mo_6 {h : House} (e1 : foldIs h.es = true) (e2 : Tm.monOk h.pu = true) (e3 : decide (0 ≤ h.cl ∧ h.cl ≤ 99999) = true) (e4 : dealsFrom (foldRows h.es) h.cl (-1) h.ds = true) (e5 : numsOk h.nu h.sa = true) : mktOk h = decide (monSum h.pu + heldSum h.ds ≤ 100000) := by unfold mktOk; rw [e1, e2, e3, e4, e5]; rfl

set_option maxHeartbeats 8000000 in
theorem c26 (h : House) (q : HP) (w : World) (hs : Small h) (hr : HRow w q h) : Calls Try.prog 26 #[hV q h] w fun e w' => e = .returned (.bool (mktOk h)) ∧ Below w.heap.size w w' := by
  obtain ⟨es, pu, ds, cl, nu, sa⟩ := h
  obtain ⟨a0, k0, a1, k1, a2, k2, a4, k4, a5, k5⟩ := q
  have HRR := hide hr
  clear hr
  have HSM := hide hs
  clear hs
  have HB := hide (Below.refl w.heap.size w)
  replace HB := hide (below_al (o := .cells #[.slice a0 es.length k0, .slice a1 pu.length k1, .slice a2 ds.length k2, .int .i64 cl, .slice a4 nu.length k4, .slice a5 sa.length k5] 28) (unhide HB))
  replace HRR := hide ((unhide HRR).bel (below_a (.cells #[.slice a0 es.length k0, .slice a1 pu.length k1, .slice a2 ds.length k2, .int .i64 cl, .slice a4 nu.length k4, .slice a5 sa.length k5] 28)))
  have HX := hide (box_new w [.slice a0 es.length k0, .slice a1 pu.length k1, .slice a2 ds.length k2, .int .i64 cl, .slice a4 nu.length k4, .slice a5 sa.length k5] 28 (by simp [Value.oneCell']))
  (try simp only [World.size_alloc] at HX)
  rcases h1 : foldIs es with _ | _
  case false =>
    have HU := hide (mo_1 (h := ⟨es, pu, ds, cl, nu, sa⟩) h1)
    have x0c := (unhide HX).cell 0 rfl
    have x1c := (unhide HX).cell 1 rfl
    have x2c := (unhide HX).cell 2 rfl
    have x3c := (unhide HX).cell 3 rfl
    have x4c := (unhide HX).cell 4 rfl
    have x5c := (unhide HX).cell 5 rfl
    go_enter Try.func26, Try.ntmps26
    go_wp2_with fail
    refine (c47 es a0 es.length k0 _ rfl (unhide HSM).1 (unhide HRR).1).mono ?_
    rintro e w1 ⟨v, rfl, ho, hb⟩
    obtain ⟨ar, cr, rfl, hcr, hrr, -⟩ := ho.row
    rw [h1]
    (try rw [unhide H8])
    (try clear x0c x1c x2c x3c x4c x5c)
    replace HB := hide (below_tr (unhide HB) hb)
    replace HRR := hide ((unhide HRR).bel hb)
    replace HX := hide ((unhide HX).bel hb)
    have HW := hide (hrr)
    clear hb ho hrr
    have x0c := (unhide HX).cell 0 rfl
    have x1c := (unhide HX).cell 1 rfl
    have x2c := (unhide HX).cell 2 rfl
    have x3c := (unhide HX).cell 3 rfl
    have x4c := (unhide HX).cell 4 rfl
    have x5c := (unhide HX).cell 5 rfl
    go_wp2_with fail
    go_ret
    exact ⟨ret_bool (unhide HU).symm, unhide HB⟩
  rcases h2 : Tm.monOk pu with _ | _
  case false =>
    have HU := hide (mo_2 (h := ⟨es, pu, ds, cl, nu, sa⟩) h2)
    have x0c := (unhide HX).cell 0 rfl
    have x1c := (unhide HX).cell 1 rfl
    have x2c := (unhide HX).cell 2 rfl
    have x3c := (unhide HX).cell 3 rfl
    have x4c := (unhide HX).cell 4 rfl
    have x5c := (unhide HX).cell 5 rfl
    go_enter Try.func26, Try.ntmps26
    go_wp2_with fail
    refine (c47 es a0 es.length k0 _ rfl (unhide HSM).1 (unhide HRR).1).mono ?_
    rintro e w1 ⟨v, rfl, ho, hb⟩
    obtain ⟨ar, cr, rfl, hcr, hrr, -⟩ := ho.row
    rw [h1]
    (try rw [unhide H8])
    (try clear x0c x1c x2c x3c x4c x5c)
    replace HB := hide (below_tr (unhide HB) hb)
    replace HRR := hide ((unhide HRR).bel hb)
    replace HX := hide ((unhide HX).bel hb)
    have HW := hide (hrr)
    clear hb ho hrr
    have x0c := (unhide HX).cell 0 rfl
    have x1c := (unhide HX).cell 1 rfl
    have x2c := (unhide HX).cell 2 rfl
    have x3c := (unhide HX).cell 3 rfl
    have x4c := (unhide HX).cell 4 rfl
    have x5c := (unhide HX).cell 5 rfl
    go_wp2_with fail
    refine (c105 pu a1 pu.length k1 _ rfl (by have := (unhide HSM).2.1; dsimp only at this; omega) (unhide HRR).2.1).mono ?_
    rintro e w2 ⟨rfl, hww⟩
    have hww := hww.symm
    subst hww
    rw [h2]
    go_wp2_with fail
    go_ret
    exact ⟨ret_bool (unhide HU).symm, unhide HB⟩
  rcases h3 : decide (0 ≤ cl ∧ cl ≤ 99999) with _ | _
  case false =>
    have HU := hide (mo_3 (h := ⟨es, pu, ds, cl, nu, sa⟩) h3)
    have x0c := (unhide HX).cell 0 rfl
    have x1c := (unhide HX).cell 1 rfl
    have x2c := (unhide HX).cell 2 rfl
    have x3c := (unhide HX).cell 3 rfl
    have x4c := (unhide HX).cell 4 rfl
    have x5c := (unhide HX).cell 5 rfl
    go_enter Try.func26, Try.ntmps26
    go_wp2_with fail
    refine (c47 es a0 es.length k0 _ rfl (unhide HSM).1 (unhide HRR).1).mono ?_
    rintro e w1 ⟨v, rfl, ho, hb⟩
    obtain ⟨ar, cr, rfl, hcr, hrr, -⟩ := ho.row
    rw [h1]
    (try rw [unhide H8])
    (try clear x0c x1c x2c x3c x4c x5c)
    replace HB := hide (below_tr (unhide HB) hb)
    replace HRR := hide ((unhide HRR).bel hb)
    replace HX := hide ((unhide HX).bel hb)
    have HW := hide (hrr)
    clear hb ho hrr
    have x0c := (unhide HX).cell 0 rfl
    have x1c := (unhide HX).cell 1 rfl
    have x2c := (unhide HX).cell 2 rfl
    have x3c := (unhide HX).cell 3 rfl
    have x4c := (unhide HX).cell 4 rfl
    have x5c := (unhide HX).cell 5 rfl
    go_wp2_with fail
    refine (c105 pu a1 pu.length k1 _ rfl (by have := (unhide HSM).2.1; dsimp only at this; omega) (unhide HRR).2.1).mono ?_
    rintro e w2 ⟨rfl, hww⟩
    have hww := hww.symm
    subst hww
    rw [h2]
    go_wp2_with fail
    refine (c110 cl 0 99999 _).mono ?_
    rintro e w3 ⟨rfl, hww⟩
    have hww := hww.symm
    subst hww
    rw [h3]
    go_wp2_with fail
    go_ret
    exact ⟨ret_bool (unhide HU).symm, unhide HB⟩
  have HO8 := hide (fold8 h1)
  have H8 : Hid ((foldRows es).length = 8) := (Tm.ownOk_iff.1 (unhide HO8)).1
  have HCL : Hid (0 ≤ cl ∧ cl ≤ 99999) := by unfold Hid; simpa using h3
  rcases h4 : dealsFrom (foldRows es) cl (-1) ds with _ | _
  case false =>
    have HU := hide (mo_4 (h := ⟨es, pu, ds, cl, nu, sa⟩) h4)
    have HDE := hide h4
    clear h4
    have x0c := (unhide HX).cell 0 rfl
    have x1c := (unhide HX).cell 1 rfl
    have x2c := (unhide HX).cell 2 rfl
    have x3c := (unhide HX).cell 3 rfl
    have x4c := (unhide HX).cell 4 rfl
    have x5c := (unhide HX).cell 5 rfl
    go_enter Try.func26, Try.ntmps26
    go_wp2_with fail
    refine (c47 es a0 es.length k0 _ rfl (unhide HSM).1 (unhide HRR).1).mono ?_
    rintro e w1 ⟨v, rfl, ho, hb⟩
    obtain ⟨ar, cr, rfl, hcr, hrr, -⟩ := ho.row
    rw [h1]
    (try rw [unhide H8])
    (try clear x0c x1c x2c x3c x4c x5c)
    replace HB := hide (below_tr (unhide HB) hb)
    replace HRR := hide ((unhide HRR).bel hb)
    replace HX := hide ((unhide HX).bel hb)
    have HW := hide (hrr)
    clear hb ho hrr
    have x0c := (unhide HX).cell 0 rfl
    have x1c := (unhide HX).cell 1 rfl
    have x2c := (unhide HX).cell 2 rfl
    have x3c := (unhide HX).cell 3 rfl
    have x4c := (unhide HX).cell 4 rfl
    have x5c := (unhide HX).cell 5 rfl
    go_wp2_with fail
    refine (c105 pu a1 pu.length k1 _ rfl (by have := (unhide HSM).2.1; dsimp only at this; omega) (unhide HRR).2.1).mono ?_
    rintro e w2 ⟨rfl, hww⟩
    have hww := hww.symm
    subst hww
    rw [h2]
    go_wp2_with fail
    refine (c110 cl 0 99999 _).mono ?_
    rintro e w3 ⟨rfl, hww⟩
    have hww := hww.symm
    subst hww
    rw [h3]
    go_wp2_with fail
    (try clear x0c x1c x2c x3c x4c x5c)
    (try clear x0c x1c x2c x3c x4c x5c)
    refine wp_region_held_drew (S := fun w' => Below w1.heap.size w1 w') (by kernel_rfl) (below_drew w1) (fun hHeld => ?_)
    refine tk 0 (some 25) (v := ?_) ?_ ?_
    rotate_left
    · intro w hSw
      have hT := (unhide HX).below hSw; have x0c := hT.cell 0 rfl; have x1c := hT.cell 1 rfl; have x2c := hT.cell 2 rfl; have x3c := hT.cell 3 rfl; have x4c := hT.cell 4 rfl; have x5c := hT.cell 5 rfl; clear hT
      first | (go_simp; done) | (go_simp; with_reducible rfl) | with_reducible rfl | rfl
    try simp only [Act.put, List.setIfInBounds_toArray, List.set_cons_zero, List.set_cons_succ]
    refine tk 1 (some 26) (v := ?_) ?_ ?_
    rotate_left
    · intro w hSw
      first | (go_simp; done) | (go_simp; with_reducible rfl) | with_reducible rfl | rfl
    try simp only [Act.put, List.setIfInBounds_toArray, List.set_cons_zero, List.set_cons_succ]
    have HD := below_drew w1
    generalize w1.drew = V0 at *
    refine wpAnyH_ready (rs := [2]) (by kernel_rfl) (by simp) ?_
    refine AllReadyH.cons (o := { dst := some 27, op := _, type := _, pos := _, after := _, guard := _ }) rfl (fun K hK => ?_) AllReadyH.nil
    go_simp
    go_at_call 111
    refine (c111 ⟨es, pu, ds, cl, nu, sa⟩ ⟨a0, k0, a1, k1, a2, k2, a4, k4, a5, k5⟩ (foldRows es) ar cr _ (unhide HSM).2.2.1 (unhide H8) (unhide HCL) ((unhide HRR).bel HD) ((unhide HW).bel HD)).mono ?_
    rintro e V1 ⟨rfl, hb⟩
    replace HD := below_then HD hb
    clear hb
    dsimp only
    rw [unhide HDE]
    try go_wp2_with fail
    refine hK.out _ _ HD (fun hHeld => ?_)
    clear hK K hHeld
    try simp only [Act.put, List.setIfInBounds_toArray, List.set_cons_zero, List.set_cons_succ]
    refine tk 3 (some 28) (v := ?_) ?_ ?_
    rotate_left
    · intro w hSw
      first | (go_simp; done) | (go_simp; with_reducible rfl) | with_reducible rfl | rfl
    try simp only [Act.put, List.setIfInBounds_toArray, List.set_cons_zero, List.set_cons_succ]
    refine sk 4 (some 29) ?_
    try simp only [Act.put, List.setIfInBounds_toArray, List.set_cons_zero, List.set_cons_succ]
    refine sk 5 (some 30) ?_
    try simp only [Act.put, List.setIfInBounds_toArray, List.set_cons_zero, List.set_cons_succ]
    refine tk 6 (some 31) (v := ?_) ?_ ?_
    rotate_left
    · intro w hSw
      first | (go_simp; done) | (go_simp; with_reducible rfl) | with_reducible rfl | rfl
    try simp only [Act.put, List.setIfInBounds_toArray, List.set_cons_zero, List.set_cons_succ]
    refine tk 7 (some 32) (v := ?_) ?_ ?_
    rotate_left
    · intro w hSw
      first | (go_simp; done) | (go_simp; with_reducible rfl) | with_reducible rfl | rfl
    try simp only [Act.put, List.setIfInBounds_toArray, List.set_cons_zero, List.set_cons_succ]
    refine sk 8 (some 33) ?_
    try simp only [Act.put, List.setIfInBounds_toArray, List.set_cons_zero, List.set_cons_succ]
    refine sk 9 (some 34) ?_
    try simp only [Act.put, List.setIfInBounds_toArray, List.set_cons_zero, List.set_cons_succ]
    refine sk 11 (some 36) ?_
    try simp only [Act.put, List.setIfInBounds_toArray, List.set_cons_zero, List.set_cons_succ]
    refine sk 10 (some 35) ?_
    try simp only [Act.put, List.setIfInBounds_toArray, List.set_cons_zero, List.set_cons_succ]
    refine sk 12 (some 37) ?_
    try simp only [Act.put, List.setIfInBounds_toArray, List.set_cons_zero, List.set_cons_succ]
    refine sk 13 (some 38) ?_
    try simp only [Act.put, List.setIfInBounds_toArray, List.set_cons_zero, List.set_cons_succ]
    refine sk 14 (some 39) ?_
    try simp only [Act.put, List.setIfInBounds_toArray, List.set_cons_zero, List.set_cons_succ]
    refine tk 15 (some 40) (v := ?_) ?_ ?_
    rotate_left
    · intro w hSw
      first | (go_simp; done) | (go_simp; with_reducible rfl) | with_reducible rfl | rfl
    try simp only [Act.put, List.setIfInBounds_toArray, List.set_cons_zero, List.set_cons_succ]
    refine tk 16 (some 2) (v := ?_) ?_ ?_
    rotate_left
    · intro w hSw
      first | (go_simp; done) | (go_simp; with_reducible rfl) | with_reducible rfl | rfl
    try simp only [Act.put, List.setIfInBounds_toArray, List.set_cons_zero, List.set_cons_succ]
    refine wpAnyH_done (by kernel_rfl) ?_ _
    replace HB := hide (below_tr (unhide HB) HD)
    replace HRR := hide ((unhide HRR).bel HD)
    replace HX := hide ((unhide HX).bel HD)
    replace HW := hide ((unhide HW).bel HD)
    clear HD 
    have x0c := (unhide HX).cell 0 rfl
    have x1c := (unhide HX).cell 1 rfl
    have x2c := (unhide HX).cell 2 rfl
    have x3c := (unhide HX).cell 3 rfl
    have x4c := (unhide HX).cell 4 rfl
    have x5c := (unhide HX).cell 5 rfl
    go_wp2_with fail
    go_ret
    exact ⟨ret_bool (unhide HU).symm, unhide HB⟩
  have HDE := hide h4
  rcases h5 : numsOk nu sa with _ | _
  case false =>
    have HU := hide (mo_5 (h := ⟨es, pu, ds, cl, nu, sa⟩) h5)
    have HNU := hide h5
    clear h4 h5
    have x0c := (unhide HX).cell 0 rfl
    have x1c := (unhide HX).cell 1 rfl
    have x2c := (unhide HX).cell 2 rfl
    have x3c := (unhide HX).cell 3 rfl
    have x4c := (unhide HX).cell 4 rfl
    have x5c := (unhide HX).cell 5 rfl
    go_enter Try.func26, Try.ntmps26
    go_wp2_with fail
    refine (c47 es a0 es.length k0 _ rfl (unhide HSM).1 (unhide HRR).1).mono ?_
    rintro e w1 ⟨v, rfl, ho, hb⟩
    obtain ⟨ar, cr, rfl, hcr, hrr, -⟩ := ho.row
    rw [h1]
    (try rw [unhide H8])
    (try clear x0c x1c x2c x3c x4c x5c)
    replace HB := hide (below_tr (unhide HB) hb)
    replace HRR := hide ((unhide HRR).bel hb)
    replace HX := hide ((unhide HX).bel hb)
    have HW := hide (hrr)
    clear hb ho hrr
    have x0c := (unhide HX).cell 0 rfl
    have x1c := (unhide HX).cell 1 rfl
    have x2c := (unhide HX).cell 2 rfl
    have x3c := (unhide HX).cell 3 rfl
    have x4c := (unhide HX).cell 4 rfl
    have x5c := (unhide HX).cell 5 rfl
    go_wp2_with fail
    refine (c105 pu a1 pu.length k1 _ rfl (by have := (unhide HSM).2.1; dsimp only at this; omega) (unhide HRR).2.1).mono ?_
    rintro e w2 ⟨rfl, hww⟩
    have hww := hww.symm
    subst hww
    rw [h2]
    go_wp2_with fail
    refine (c110 cl 0 99999 _).mono ?_
    rintro e w3 ⟨rfl, hww⟩
    have hww := hww.symm
    subst hww
    rw [h3]
    go_wp2_with fail
    (try clear x0c x1c x2c x3c x4c x5c)
    (try clear x0c x1c x2c x3c x4c x5c)
    refine wp_region_held_drew (S := fun w' => Below w1.heap.size w1 w') (by kernel_rfl) (below_drew w1) (fun hHeld => ?_)
    refine tk 0 (some 25) (v := ?_) ?_ ?_
    rotate_left
    · intro w hSw
      have hT := (unhide HX).below hSw; have x0c := hT.cell 0 rfl; have x1c := hT.cell 1 rfl; have x2c := hT.cell 2 rfl; have x3c := hT.cell 3 rfl; have x4c := hT.cell 4 rfl; have x5c := hT.cell 5 rfl; clear hT
      first | (go_simp; done) | (go_simp; with_reducible rfl) | with_reducible rfl | rfl
    try simp only [Act.put, List.setIfInBounds_toArray, List.set_cons_zero, List.set_cons_succ]
    refine tk 1 (some 26) (v := ?_) ?_ ?_
    rotate_left
    · intro w hSw
      first | (go_simp; done) | (go_simp; with_reducible rfl) | with_reducible rfl | rfl
    try simp only [Act.put, List.setIfInBounds_toArray, List.set_cons_zero, List.set_cons_succ]
    have HD := below_drew w1
    generalize w1.drew = V0 at *
    refine wpAnyH_ready (rs := [2]) (by kernel_rfl) (by simp) ?_
    refine AllReadyH.cons (o := { dst := some 27, op := _, type := _, pos := _, after := _, guard := _ }) rfl (fun K hK => ?_) AllReadyH.nil
    go_simp
    go_at_call 111
    refine (c111 ⟨es, pu, ds, cl, nu, sa⟩ ⟨a0, k0, a1, k1, a2, k2, a4, k4, a5, k5⟩ (foldRows es) ar cr _ (unhide HSM).2.2.1 (unhide H8) (unhide HCL) ((unhide HRR).bel HD) ((unhide HW).bel HD)).mono ?_
    rintro e V1 ⟨rfl, hb⟩
    replace HD := below_then HD hb
    clear hb
    dsimp only
    rw [unhide HDE]
    try go_wp2_with fail
    refine hK.out _ _ HD (fun hHeld => ?_)
    clear hK K hHeld
    try simp only [Act.put, List.setIfInBounds_toArray, List.set_cons_zero, List.set_cons_succ]
    refine tk 3 (some 28) (v := ?_) ?_ ?_
    rotate_left
    · intro w hSw
      first | (go_simp; done) | (go_simp; with_reducible rfl) | with_reducible rfl | rfl
    try simp only [Act.put, List.setIfInBounds_toArray, List.set_cons_zero, List.set_cons_succ]
    refine tk 4 (some 29) (v := ?_) ?_ ?_
    rotate_left
    · intro w hSw
      have hT := (unhide HX).below hSw; have x0c := hT.cell 0 rfl; have x1c := hT.cell 1 rfl; have x2c := hT.cell 2 rfl; have x3c := hT.cell 3 rfl; have x4c := hT.cell 4 rfl; have x5c := hT.cell 5 rfl; clear hT
      first | (go_simp; done) | (go_simp; with_reducible rfl) | with_reducible rfl | rfl
    try simp only [Act.put, List.setIfInBounds_toArray, List.set_cons_zero, List.set_cons_succ]
    refine wpAnyH_ready (rs := [5]) (by kernel_rfl) (by simp) ?_
    refine AllReadyH.cons (o := { dst := some 30, op := _, type := _, pos := _, after := _, guard := _ }) rfl (fun K hK => ?_) AllReadyH.nil
    go_simp
    go_at_call 112
    refine (c112 ⟨es, pu, ds, cl, nu, sa⟩ ⟨a0, k0, a1, k1, a2, k2, a4, k4, a5, k5⟩ _ (unhide HSM) ((unhide HRR).bel HD)).mono ?_
    rintro e V2 ⟨rfl, hb⟩
    replace HD := below_then HD hb
    clear hb
    dsimp only
    rw [unhide HNU]
    try go_wp2_with fail
    refine hK.out _ _ HD (fun hHeld => ?_)
    clear hK K hHeld
    try simp only [Act.put, List.setIfInBounds_toArray, List.set_cons_zero, List.set_cons_succ]
    refine tk 6 (some 31) (v := ?_) ?_ ?_
    rotate_left
    · intro w hSw
      first | (go_simp; done) | (go_simp; with_reducible rfl) | with_reducible rfl | rfl
    try simp only [Act.put, List.setIfInBounds_toArray, List.set_cons_zero, List.set_cons_succ]
    refine tk 7 (some 32) (v := ?_) ?_ ?_
    rotate_left
    · intro w hSw
      first | (go_simp; done) | (go_simp; with_reducible rfl) | with_reducible rfl | rfl
    try simp only [Act.put, List.setIfInBounds_toArray, List.set_cons_zero, List.set_cons_succ]
    refine sk 8 (some 33) ?_
    try simp only [Act.put, List.setIfInBounds_toArray, List.set_cons_zero, List.set_cons_succ]
    refine sk 9 (some 34) ?_
    try simp only [Act.put, List.setIfInBounds_toArray, List.set_cons_zero, List.set_cons_succ]
    refine sk 11 (some 36) ?_
    try simp only [Act.put, List.setIfInBounds_toArray, List.set_cons_zero, List.set_cons_succ]
    refine sk 10 (some 35) ?_
    try simp only [Act.put, List.setIfInBounds_toArray, List.set_cons_zero, List.set_cons_succ]
    refine sk 12 (some 37) ?_
    try simp only [Act.put, List.setIfInBounds_toArray, List.set_cons_zero, List.set_cons_succ]
    refine sk 13 (some 38) ?_
    try simp only [Act.put, List.setIfInBounds_toArray, List.set_cons_zero, List.set_cons_succ]
    refine sk 14 (some 39) ?_
    try simp only [Act.put, List.setIfInBounds_toArray, List.set_cons_zero, List.set_cons_succ]
    refine tk 15 (some 40) (v := ?_) ?_ ?_
    rotate_left
    · intro w hSw
      first | (go_simp; done) | (go_simp; with_reducible rfl) | with_reducible rfl | rfl
    try simp only [Act.put, List.setIfInBounds_toArray, List.set_cons_zero, List.set_cons_succ]
    refine tk 16 (some 2) (v := ?_) ?_ ?_
    rotate_left
    · intro w hSw
      first | (go_simp; done) | (go_simp; with_reducible rfl) | with_reducible rfl | rfl
    try simp only [Act.put, List.setIfInBounds_toArray, List.set_cons_zero, List.set_cons_succ]
    refine wpAnyH_done (by kernel_rfl) ?_ _
    replace HB := hide (below_tr (unhide HB) HD)
    replace HRR := hide ((unhide HRR).bel HD)
    replace HX := hide ((unhide HX).bel HD)
    replace HW := hide ((unhide HW).bel HD)
    clear HD 
    have x0c := (unhide HX).cell 0 rfl
    have x1c := (unhide HX).cell 1 rfl
    have x2c := (unhide HX).cell 2 rfl
    have x3c := (unhide HX).cell 3 rfl
    have x4c := (unhide HX).cell 4 rfl
    have x5c := (unhide HX).cell 5 rfl
    go_wp2_with fail
    go_ret
    exact ⟨ret_bool (unhide HU).symm, unhide HB⟩
  have HNU := hide h5
  have HV := hide (mo_6 (h := ⟨es, pu, ds, cl, nu, sa⟩) h1 h2 h3 h4 h5)
  have HD8 : Hid (ds.length ≤ 8) := by have := deals_len _ _ h4 (by omega); unfold Hid; omega
  have HPR := hide (deals_prices _ _ h4)
  have hb1 := mon_bd h2
  have hb2 := held_bd (unhide HPR) ds.length (Nat.le_refl _)
  rw [List.take_length] at hb2
  have hd8 := unhide HD8
  dsimp only at HV
  generalize hm1 : monSum pu = m1 at *
  generalize hm2 : heldSum ds = m2 at *
  have HM1 := hide hm1
  have HM2 := hide hm2
  have hwr : IntKind.i64.wrap (m1 + m2) = m1 + m2 := wrap_sub (by omega) (by omega)
  obtain ⟨z, HZ⟩ : ∃ z, Hid (decide (m1 + m2 ≤ 100000) = z) := ⟨_, rfl⟩
  have HU : Hid (_ = z) := (unhide HV).trans (unhide HZ)
  clear hm1 hm2 h4 h5 hb1 hb2 hd8
  by_cases h6 : m1 + m2 ≤ 100000
  case pos =>
    have hzz : z = true := by rw [← unhide HZ]; exact decide_eq_true h6
    subst hzz
    have x0c := (unhide HX).cell 0 rfl
    have x1c := (unhide HX).cell 1 rfl
    have x2c := (unhide HX).cell 2 rfl
    have x3c := (unhide HX).cell 3 rfl
    have x4c := (unhide HX).cell 4 rfl
    have x5c := (unhide HX).cell 5 rfl
    go_enter Try.func26, Try.ntmps26
    go_wp2_with fail
    refine (c47 es a0 es.length k0 _ rfl (unhide HSM).1 (unhide HRR).1).mono ?_
    rintro e w1 ⟨v, rfl, ho, hb⟩
    obtain ⟨ar, cr, rfl, hcr, hrr, -⟩ := ho.row
    rw [h1]
    (try rw [unhide H8])
    (try clear x0c x1c x2c x3c x4c x5c)
    replace HB := hide (below_tr (unhide HB) hb)
    replace HRR := hide ((unhide HRR).bel hb)
    replace HX := hide ((unhide HX).bel hb)
    have HW := hide (hrr)
    clear hb ho hrr
    have x0c := (unhide HX).cell 0 rfl
    have x1c := (unhide HX).cell 1 rfl
    have x2c := (unhide HX).cell 2 rfl
    have x3c := (unhide HX).cell 3 rfl
    have x4c := (unhide HX).cell 4 rfl
    have x5c := (unhide HX).cell 5 rfl
    go_wp2_with fail
    refine (c105 pu a1 pu.length k1 _ rfl (by have := (unhide HSM).2.1; dsimp only at this; omega) (unhide HRR).2.1).mono ?_
    rintro e w2 ⟨rfl, hww⟩
    have hww := hww.symm
    subst hww
    rw [h2]
    go_wp2_with fail
    refine (c110 cl 0 99999 _).mono ?_
    rintro e w3 ⟨rfl, hww⟩
    have hww := hww.symm
    subst hww
    rw [h3]
    go_wp2_with fail
    (try clear x0c x1c x2c x3c x4c x5c)
    (try clear x0c x1c x2c x3c x4c x5c)
    refine wp_region_held_drew (S := fun w' => Below w1.heap.size w1 w') (by kernel_rfl) (below_drew w1) (fun hHeld => ?_)
    refine tk 0 (some 25) (v := ?_) ?_ ?_
    rotate_left
    · intro w hSw
      have hT := (unhide HX).below hSw; have x0c := hT.cell 0 rfl; have x1c := hT.cell 1 rfl; have x2c := hT.cell 2 rfl; have x3c := hT.cell 3 rfl; have x4c := hT.cell 4 rfl; have x5c := hT.cell 5 rfl; clear hT
      first | (go_simp; done) | (go_simp; with_reducible rfl) | with_reducible rfl | rfl
    try simp only [Act.put, List.setIfInBounds_toArray, List.set_cons_zero, List.set_cons_succ]
    refine tk 1 (some 26) (v := ?_) ?_ ?_
    rotate_left
    · intro w hSw
      first | (go_simp; done) | (go_simp; with_reducible rfl) | with_reducible rfl | rfl
    try simp only [Act.put, List.setIfInBounds_toArray, List.set_cons_zero, List.set_cons_succ]
    have HD := below_drew w1
    generalize w1.drew = V0 at *
    refine wpAnyH_ready (rs := [2]) (by kernel_rfl) (by simp) ?_
    refine AllReadyH.cons (o := { dst := some 27, op := _, type := _, pos := _, after := _, guard := _ }) rfl (fun K hK => ?_) AllReadyH.nil
    go_simp
    go_at_call 111
    refine (c111 ⟨es, pu, ds, cl, nu, sa⟩ ⟨a0, k0, a1, k1, a2, k2, a4, k4, a5, k5⟩ (foldRows es) ar cr _ (unhide HSM).2.2.1 (unhide H8) (unhide HCL) ((unhide HRR).bel HD) ((unhide HW).bel HD)).mono ?_
    rintro e V1 ⟨rfl, hb⟩
    replace HD := below_then HD hb
    clear hb
    dsimp only
    rw [unhide HDE]
    try go_wp2_with fail
    refine hK.out _ _ HD (fun hHeld => ?_)
    clear hK K hHeld
    try simp only [Act.put, List.setIfInBounds_toArray, List.set_cons_zero, List.set_cons_succ]
    refine tk 3 (some 28) (v := ?_) ?_ ?_
    rotate_left
    · intro w hSw
      first | (go_simp; done) | (go_simp; with_reducible rfl) | with_reducible rfl | rfl
    try simp only [Act.put, List.setIfInBounds_toArray, List.set_cons_zero, List.set_cons_succ]
    refine tk 4 (some 29) (v := ?_) ?_ ?_
    rotate_left
    · intro w hSw
      have hT := (unhide HX).below hSw; have x0c := hT.cell 0 rfl; have x1c := hT.cell 1 rfl; have x2c := hT.cell 2 rfl; have x3c := hT.cell 3 rfl; have x4c := hT.cell 4 rfl; have x5c := hT.cell 5 rfl; clear hT
      first | (go_simp; done) | (go_simp; with_reducible rfl) | with_reducible rfl | rfl
    try simp only [Act.put, List.setIfInBounds_toArray, List.set_cons_zero, List.set_cons_succ]
    refine wpAnyH_ready (rs := [5]) (by kernel_rfl) (by simp) ?_
    refine AllReadyH.cons (o := { dst := some 30, op := _, type := _, pos := _, after := _, guard := _ }) rfl (fun K hK => ?_) AllReadyH.nil
    go_simp
    go_at_call 112
    refine (c112 ⟨es, pu, ds, cl, nu, sa⟩ ⟨a0, k0, a1, k1, a2, k2, a4, k4, a5, k5⟩ _ (unhide HSM) ((unhide HRR).bel HD)).mono ?_
    rintro e V2 ⟨rfl, hb⟩
    replace HD := below_then HD hb
    clear hb
    dsimp only
    rw [unhide HNU]
    try go_wp2_with fail
    refine hK.out _ _ HD (fun hHeld => ?_)
    clear hK K hHeld
    try simp only [Act.put, List.setIfInBounds_toArray, List.set_cons_zero, List.set_cons_succ]
    refine tk 6 (some 31) (v := ?_) ?_ ?_
    rotate_left
    · intro w hSw
      first | (go_simp; done) | (go_simp; with_reducible rfl) | with_reducible rfl | rfl
    try simp only [Act.put, List.setIfInBounds_toArray, List.set_cons_zero, List.set_cons_succ]
    refine tk 7 (some 32) (v := ?_) ?_ ?_
    rotate_left
    · intro w hSw
      first | (go_simp; done) | (go_simp; with_reducible rfl) | with_reducible rfl | rfl
    try simp only [Act.put, List.setIfInBounds_toArray, List.set_cons_zero, List.set_cons_succ]
    refine tk 8 (some 33) (v := ?_) ?_ ?_
    rotate_left
    · intro w hSw
      have hT := (unhide HX).below hSw; have x0c := hT.cell 0 rfl; have x1c := hT.cell 1 rfl; have x2c := hT.cell 2 rfl; have x3c := hT.cell 3 rfl; have x4c := hT.cell 4 rfl; have x5c := hT.cell 5 rfl; clear hT
      first | (go_simp; done) | (go_simp; with_reducible rfl) | with_reducible rfl | rfl
    try simp only [Act.put, List.setIfInBounds_toArray, List.set_cons_zero, List.set_cons_succ]
    refine tk 9 (some 34) (v := ?_) ?_ ?_
    rotate_left
    · intro w hSw
      have hT := (unhide HX).below hSw; have x0c := hT.cell 0 rfl; have x1c := hT.cell 1 rfl; have x2c := hT.cell 2 rfl; have x3c := hT.cell 3 rfl; have x4c := hT.cell 4 rfl; have x5c := hT.cell 5 rfl; clear hT
      first | (go_simp; done) | (go_simp; with_reducible rfl) | with_reducible rfl | rfl
    try simp only [Act.put, List.setIfInBounds_toArray, List.set_cons_zero, List.set_cons_succ]
    refine tk 11 (some 36) (v := ?_) ?_ ?_
    rotate_left
    · intro w hSw
      have hT := (unhide HX).below hSw; have x0c := hT.cell 0 rfl; have x1c := hT.cell 1 rfl; have x2c := hT.cell 2 rfl; have x3c := hT.cell 3 rfl; have x4c := hT.cell 4 rfl; have x5c := hT.cell 5 rfl; clear hT
      first | (go_simp; done) | (go_simp; with_reducible rfl) | with_reducible rfl | rfl
    try simp only [Act.put, List.setIfInBounds_toArray, List.set_cons_zero, List.set_cons_succ]
    refine wpAnyH_ready (rs := [10]) (by kernel_rfl) (by simp) ?_
    refine AllReadyH.cons (o := { dst := some 35, op := _, type := _, pos := _, after := _, guard := _ }) rfl (fun K hK => ?_) AllReadyH.nil
    go_simp
    go_at_call 25
    refine (c25 pu a1 pu.length k1 _ rfl (by have := (unhide HSM).2.1; dsimp only at this; omega) ((unhide HRR).bel HD).2.1).mono ?_
    rintro e V3 ⟨rfl, hww⟩
    have hww := hww.symm
    subst hww
    rw [unhide HM1]
    try go_wp2_with fail
    refine hK.out _ _ HD (fun hHeld => ?_)
    clear hK K hHeld
    try simp only [Act.put, List.setIfInBounds_toArray, List.set_cons_zero, List.set_cons_succ]
    refine wpAnyH_ready (rs := [12]) (by kernel_rfl) (by simp) ?_
    refine AllReadyH.cons (o := { dst := some 37, op := _, type := _, pos := _, after := _, guard := _ }) rfl (fun K hK => ?_) AllReadyH.nil
    go_simp
    go_at_call 29
    refine (c29 ⟨es, pu, ds, cl, nu, sa⟩ ⟨a0, k0, a1, k1, a2, k2, a4, k4, a5, k5⟩ _ (unhide HD8) (unhide HPR) ((unhide HRR).bel HD)).mono ?_
    rintro e V4 ⟨rfl, hb⟩
    replace HD := below_then HD hb
    clear hb
    dsimp only
    rw [unhide HM2]
    try go_wp2_with fail
    refine hK.out _ _ HD (fun hHeld => ?_)
    clear hK K hHeld
    try simp only [Act.put, List.setIfInBounds_toArray, List.set_cons_zero, List.set_cons_succ]
    refine tk 13 (some 38) (v := ?_) ?_ ?_
    rotate_left
    · intro w hSw
      first | (go_simp; done) | (go_simp; with_reducible rfl) | with_reducible rfl | rfl
    try simp only [Act.put, List.setIfInBounds_toArray, List.set_cons_zero, List.set_cons_succ]
    refine tk 14 (some 39) (v := ?_) ?_ ?_
    rotate_left
    · intro w hSw
      first | (go_simp; done) | (go_simp; with_reducible rfl) | with_reducible rfl | rfl
    try simp only [Act.put, List.setIfInBounds_toArray, List.set_cons_zero, List.set_cons_succ]
    refine tk 15 (some 40) (v := ?_) ?_ ?_
    rotate_left
    · intro w hSw
      first | (go_simp; done) | (go_simp; with_reducible rfl) | with_reducible rfl | rfl
    try simp only [Act.put, List.setIfInBounds_toArray, List.set_cons_zero, List.set_cons_succ]
    refine tk 16 (some 2) (v := ?_) ?_ ?_
    rotate_left
    · intro w hSw
      first | (go_simp; done) | (go_simp; with_reducible rfl) | with_reducible rfl | rfl
    try simp only [Act.put, List.setIfInBounds_toArray, List.set_cons_zero, List.set_cons_succ]
    refine wpAnyH_done (by kernel_rfl) ?_ _
    replace HB := hide (below_tr (unhide HB) HD)
    replace HRR := hide ((unhide HRR).bel HD)
    replace HX := hide ((unhide HX).bel HD)
    replace HW := hide ((unhide HW).bel HD)
    clear HD 
    have x0c := (unhide HX).cell 0 rfl
    have x1c := (unhide HX).cell 1 rfl
    have x2c := (unhide HX).cell 2 rfl
    have x3c := (unhide HX).cell 3 rfl
    have x4c := (unhide HX).cell 4 rfl
    have x5c := (unhide HX).cell 5 rfl
    go_wp2_with fail
    go_ret
    exact ⟨ret_bool (unhide HU).symm, unhide HB⟩
  have hzz : z = false := by rw [← unhide HZ]; exact decide_eq_false h6
  have hd6 : decide (m1 + m2 ≤ 100000) = false := decide_eq_false h6
  subst hzz
  have x0c := (unhide HX).cell 0 rfl
  have x1c := (unhide HX).cell 1 rfl
  have x2c := (unhide HX).cell 2 rfl
  have x3c := (unhide HX).cell 3 rfl
  have x4c := (unhide HX).cell 4 rfl
  have x5c := (unhide HX).cell 5 rfl
  go_enter Try.func26, Try.ntmps26
  go_wp2_with fail
  refine (c47 es a0 es.length k0 _ rfl (unhide HSM).1 (unhide HRR).1).mono ?_
  rintro e w1 ⟨v, rfl, ho, hb⟩
  obtain ⟨ar, cr, rfl, hcr, hrr, -⟩ := ho.row
  rw [h1]
  (try rw [unhide H8])
  (try clear x0c x1c x2c x3c x4c x5c)
  replace HB := hide (below_tr (unhide HB) hb)
  replace HRR := hide ((unhide HRR).bel hb)
  replace HX := hide ((unhide HX).bel hb)
  have HW := hide (hrr)
  clear hb ho hrr
  have x0c := (unhide HX).cell 0 rfl
  have x1c := (unhide HX).cell 1 rfl
  have x2c := (unhide HX).cell 2 rfl
  have x3c := (unhide HX).cell 3 rfl
  have x4c := (unhide HX).cell 4 rfl
  have x5c := (unhide HX).cell 5 rfl
  go_wp2_with fail
  refine (c105 pu a1 pu.length k1 _ rfl (by have := (unhide HSM).2.1; dsimp only at this; omega) (unhide HRR).2.1).mono ?_
  rintro e w2 ⟨rfl, hww⟩
  have hww := hww.symm
  subst hww
  rw [h2]
  go_wp2_with fail
  refine (c110 cl 0 99999 _).mono ?_
  rintro e w3 ⟨rfl, hww⟩
  have hww := hww.symm
  subst hww
  rw [h3]
  go_wp2_with fail
  (try clear x0c x1c x2c x3c x4c x5c)
  (try clear x0c x1c x2c x3c x4c x5c)
  refine wp_region_held_drew (S := fun w' => Below w1.heap.size w1 w') (by kernel_rfl) (below_drew w1) (fun hHeld => ?_)
  refine tk 0 (some 25) (v := ?_) ?_ ?_
  rotate_left
  · intro w hSw
    have hT := (unhide HX).below hSw; have x0c := hT.cell 0 rfl; have x1c := hT.cell 1 rfl; have x2c := hT.cell 2 rfl; have x3c := hT.cell 3 rfl; have x4c := hT.cell 4 rfl; have x5c := hT.cell 5 rfl; clear hT
    first | (go_simp; done) | (go_simp; with_reducible rfl) | with_reducible rfl | rfl
  try simp only [Act.put, List.setIfInBounds_toArray, List.set_cons_zero, List.set_cons_succ]
  refine tk 1 (some 26) (v := ?_) ?_ ?_
  rotate_left
  · intro w hSw
    first | (go_simp; done) | (go_simp; with_reducible rfl) | with_reducible rfl | rfl
  try simp only [Act.put, List.setIfInBounds_toArray, List.set_cons_zero, List.set_cons_succ]
  have HD := below_drew w1
  generalize w1.drew = V0 at *
  refine wpAnyH_ready (rs := [2]) (by kernel_rfl) (by simp) ?_
  refine AllReadyH.cons (o := { dst := some 27, op := _, type := _, pos := _, after := _, guard := _ }) rfl (fun K hK => ?_) AllReadyH.nil
  go_simp
  go_at_call 111
  refine (c111 ⟨es, pu, ds, cl, nu, sa⟩ ⟨a0, k0, a1, k1, a2, k2, a4, k4, a5, k5⟩ (foldRows es) ar cr _ (unhide HSM).2.2.1 (unhide H8) (unhide HCL) ((unhide HRR).bel HD) ((unhide HW).bel HD)).mono ?_
  rintro e V1 ⟨rfl, hb⟩
  replace HD := below_then HD hb
  clear hb
  dsimp only
  rw [unhide HDE]
  try go_wp2_with fail
  refine hK.out _ _ HD (fun hHeld => ?_)
  clear hK K hHeld
  try simp only [Act.put, List.setIfInBounds_toArray, List.set_cons_zero, List.set_cons_succ]
  refine tk 3 (some 28) (v := ?_) ?_ ?_
  rotate_left
  · intro w hSw
    first | (go_simp; done) | (go_simp; with_reducible rfl) | with_reducible rfl | rfl
  try simp only [Act.put, List.setIfInBounds_toArray, List.set_cons_zero, List.set_cons_succ]
  refine tk 4 (some 29) (v := ?_) ?_ ?_
  rotate_left
  · intro w hSw
    have hT := (unhide HX).below hSw; have x0c := hT.cell 0 rfl; have x1c := hT.cell 1 rfl; have x2c := hT.cell 2 rfl; have x3c := hT.cell 3 rfl; have x4c := hT.cell 4 rfl; have x5c := hT.cell 5 rfl; clear hT
    first | (go_simp; done) | (go_simp; with_reducible rfl) | with_reducible rfl | rfl
  try simp only [Act.put, List.setIfInBounds_toArray, List.set_cons_zero, List.set_cons_succ]
  refine wpAnyH_ready (rs := [5]) (by kernel_rfl) (by simp) ?_
  refine AllReadyH.cons (o := { dst := some 30, op := _, type := _, pos := _, after := _, guard := _ }) rfl (fun K hK => ?_) AllReadyH.nil
  go_simp
  go_at_call 112
  refine (c112 ⟨es, pu, ds, cl, nu, sa⟩ ⟨a0, k0, a1, k1, a2, k2, a4, k4, a5, k5⟩ _ (unhide HSM) ((unhide HRR).bel HD)).mono ?_
  rintro e V2 ⟨rfl, hb⟩
  replace HD := below_then HD hb
  clear hb
  dsimp only
  rw [unhide HNU]
  try go_wp2_with fail
  refine hK.out _ _ HD (fun hHeld => ?_)
  clear hK K hHeld
  try simp only [Act.put, List.setIfInBounds_toArray, List.set_cons_zero, List.set_cons_succ]
  refine tk 6 (some 31) (v := ?_) ?_ ?_
  rotate_left
  · intro w hSw
    first | (go_simp; done) | (go_simp; with_reducible rfl) | with_reducible rfl | rfl
  try simp only [Act.put, List.setIfInBounds_toArray, List.set_cons_zero, List.set_cons_succ]
  refine tk 7 (some 32) (v := ?_) ?_ ?_
  rotate_left
  · intro w hSw
    first | (go_simp; done) | (go_simp; with_reducible rfl) | with_reducible rfl | rfl
  try simp only [Act.put, List.setIfInBounds_toArray, List.set_cons_zero, List.set_cons_succ]
  refine tk 8 (some 33) (v := ?_) ?_ ?_
  rotate_left
  · intro w hSw
    have hT := (unhide HX).below hSw; have x0c := hT.cell 0 rfl; have x1c := hT.cell 1 rfl; have x2c := hT.cell 2 rfl; have x3c := hT.cell 3 rfl; have x4c := hT.cell 4 rfl; have x5c := hT.cell 5 rfl; clear hT
    first | (go_simp; done) | (go_simp; with_reducible rfl) | with_reducible rfl | rfl
  try simp only [Act.put, List.setIfInBounds_toArray, List.set_cons_zero, List.set_cons_succ]
  refine tk 9 (some 34) (v := ?_) ?_ ?_
  rotate_left
  · intro w hSw
    have hT := (unhide HX).below hSw; have x0c := hT.cell 0 rfl; have x1c := hT.cell 1 rfl; have x2c := hT.cell 2 rfl; have x3c := hT.cell 3 rfl; have x4c := hT.cell 4 rfl; have x5c := hT.cell 5 rfl; clear hT
    first | (go_simp; done) | (go_simp; with_reducible rfl) | with_reducible rfl | rfl
  try simp only [Act.put, List.setIfInBounds_toArray, List.set_cons_zero, List.set_cons_succ]
  refine tk 11 (some 36) (v := ?_) ?_ ?_
  rotate_left
  · intro w hSw
    have hT := (unhide HX).below hSw; have x0c := hT.cell 0 rfl; have x1c := hT.cell 1 rfl; have x2c := hT.cell 2 rfl; have x3c := hT.cell 3 rfl; have x4c := hT.cell 4 rfl; have x5c := hT.cell 5 rfl; clear hT
    first | (go_simp; done) | (go_simp; with_reducible rfl) | with_reducible rfl | rfl
  try simp only [Act.put, List.setIfInBounds_toArray, List.set_cons_zero, List.set_cons_succ]
  refine wpAnyH_ready (rs := [10]) (by kernel_rfl) (by simp) ?_
  refine AllReadyH.cons (o := { dst := some 35, op := _, type := _, pos := _, after := _, guard := _ }) rfl (fun K hK => ?_) AllReadyH.nil
  go_simp
  go_at_call 25
  refine (c25 pu a1 pu.length k1 _ rfl (by have := (unhide HSM).2.1; dsimp only at this; omega) ((unhide HRR).bel HD).2.1).mono ?_
  rintro e V3 ⟨rfl, hww⟩
  have hww := hww.symm
  subst hww
  rw [unhide HM1]
  try go_wp2_with fail
  refine hK.out _ _ HD (fun hHeld => ?_)
  clear hK K hHeld
  try simp only [Act.put, List.setIfInBounds_toArray, List.set_cons_zero, List.set_cons_succ]
  refine wpAnyH_ready (rs := [12]) (by kernel_rfl) (by simp) ?_
  refine AllReadyH.cons (o := { dst := some 37, op := _, type := _, pos := _, after := _, guard := _ }) rfl (fun K hK => ?_) AllReadyH.nil
  go_simp
  go_at_call 29
  refine (c29 ⟨es, pu, ds, cl, nu, sa⟩ ⟨a0, k0, a1, k1, a2, k2, a4, k4, a5, k5⟩ _ (unhide HD8) (unhide HPR) ((unhide HRR).bel HD)).mono ?_
  rintro e V4 ⟨rfl, hb⟩
  replace HD := below_then HD hb
  clear hb
  dsimp only
  rw [unhide HM2]
  try go_wp2_with fail
  refine hK.out _ _ HD (fun hHeld => ?_)
  clear hK K hHeld
  try simp only [Act.put, List.setIfInBounds_toArray, List.set_cons_zero, List.set_cons_succ]
  refine tk 13 (some 38) (v := ?_) ?_ ?_
  rotate_left
  · intro w hSw
    first | (go_simp; done) | (go_simp; with_reducible rfl) | with_reducible rfl | rfl
  try simp only [Act.put, List.setIfInBounds_toArray, List.set_cons_zero, List.set_cons_succ]
  refine tk 14 (some 39) (v := ?_) ?_ ?_
  rotate_left
  · intro w hSw
    first | (go_simp; done) | (go_simp; with_reducible rfl) | with_reducible rfl | rfl
  try simp only [Act.put, List.setIfInBounds_toArray, List.set_cons_zero, List.set_cons_succ]
  refine tk 15 (some 40) (v := ?_) ?_ ?_
  rotate_left
  · intro w hSw
    first | (go_simp; done) | (go_simp; with_reducible rfl) | with_reducible rfl | rfl
  try simp only [Act.put, List.setIfInBounds_toArray, List.set_cons_zero, List.set_cons_succ]
  refine tk 16 (some 2) (v := ?_) ?_ ?_
  rotate_left
  · intro w hSw
    first | (go_simp; done) | (go_simp; with_reducible rfl) | with_reducible rfl | rfl
  try simp only [Act.put, List.setIfInBounds_toArray, List.set_cons_zero, List.set_cons_succ]
  refine wpAnyH_done (by kernel_rfl) ?_ _
  replace HB := hide (below_tr (unhide HB) HD)
  replace HRR := hide ((unhide HRR).bel HD)
  replace HX := hide ((unhide HX).bel HD)
  replace HW := hide ((unhide HW).bel HD)
  clear HD 
  have x0c := (unhide HX).cell 0 rfl
  have x1c := (unhide HX).cell 1 rfl
  have x2c := (unhide HX).cell 2 rfl
  have x3c := (unhide HX).cell 3 rfl
  have x4c := (unhide HX).cell 4 rfl
  have x5c := (unhide HX).cell 5 rfl
  go_wp2_with fail
  go_ret
  exact ⟨ret_bool (unhide HU).symm, unhide HB⟩
end Go.Proofs.Ytmlbphmbffkdnaa
