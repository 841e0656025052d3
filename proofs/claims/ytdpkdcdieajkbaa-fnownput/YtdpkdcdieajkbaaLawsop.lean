/-
  The walk of the law FnOwnPut: at every code it answers true, and nothing that was there is written.
-/
import Derived.Test.YtdpkdcdieajkbaaL20p
import Derived.Test.YtdpkdcdieajkbaaLawsof
namespace Go.Proofs.Ytdpkdcdieajkbaa
open Go.RowKit
set_option linter.unusedVariables false
set_option maxRecDepth 100000

theorem eqRowS (a c : Int) (d : Bool) (w : World) : (Op.equalIn 10000 34 (.agg #[.int .i64 a, .int .i64 c, .bool d]) (.agg #[.int .i64 a, .int .i64 c, .bool d])).run Try.prog w = .ok true w := by
  have u3 := Try.underlying3
  have ub := Try.underlying4
  have a3 := Try.isAgg3
  have z3 := Try.sizeOf3
  have hS : Try.prog.underlying 34 = some (.struct (Try.prog.fieldsOf 34)) := by kernel_rfl
  have hp : Try.prog.stoodInHeld 34 = false := by kernel_rfl
  rw [run_equalIn_agg w 9999 34 _ _ hS hp]
  simp only [Program.fieldsOf, Try.underlying34]
  go_simp
theorem put_get {rs : List Tm.Rw} {k j : Nat} {u p : Int} {q : Int} {x : Tm.Rw} (hne : k ≠ j) (h : rs[k]? = some x) : (Tm.put rs (q, (j : Int), u, p))[k]? = some x := by
  unfold Tm.put
  rw [Int.toNat_natCast, List.getElem?_set_ne (by omega)]
  exact h
theorem put_self {rs : List Tm.Rw} {j : Nat} {u p q : Int} {x : Tm.Rw} (h : rs[j]? = some x) : (Tm.put rs (q, (j : Int), u, p))[j]? = some (Tm.turned x (q, (j : Int), u, p)) := by
  unfold Tm.put
  rw [Int.toNat_natCast, List.getElem?_set_self (lt_of_get h)]
  show some (Tm.turned (Tm.at' rs (j : Int)) _) = _
  rw [at_get h]

set_option maxHeartbeats 8000000 in
theorem law3 (bs : List Int) (ao : Option Addr) (n cap : Nat) (w : World) (hn : bs.length = n) (hc : n ≤ cap) (hm : cap ≤ maxLen) (hB : Bytes w ao bs) :
    Calls Try.prog 3 #[.slice ao n cap] w (Holds w) := by
  have HM := hide hm
  unfold maxLen at hm
  have HBY := hide hB
  have HN := hide hn
  have HB := hide (Below.refl w.heap.size w)
  clear hB hn
  by_cases hbig : (1048576 : Int) < (n : Int)
  case pos =>
    go_enter Try.func3, Try.ntmps3
    go_wp2_with fail
    go_ret
    exact ⟨rfl, unhide HB⟩
  go_enter Try.func3, Try.ntmps3
  go_wp2_with fail
  refine (c25 bs ao n cap _ HN.out hc (unhide HM) (unhide HBY)).mono ?_
  rintro e w1 ⟨ar, nr, cr, rs, ek, et, eu, ep, rfl, hnr, h8, hcr, hz, hr, hb⟩
  replace HB := hide (below_tr (unhide HB) hb)
  clear HBY
  have HR := hide (hr.1)
  clear hb hr
  have HNR := hide hnr
  have HNZ := hide hz
  clear hnr hz
  replace HB := hide (below_al (o := .cells #[.int .i64 ek, .int .i64 et, .int .i64 eu, .int .i64 ep] 25) (unhide HB))
  replace HR := hide ((unhide HR).bel (below_a (.cells #[.int .i64 ek, .int .i64 et, .int .i64 eu, .int .i64 ep] 25)))
  have HE := hide (box_new w1 [.int .i64 ek, .int .i64 et, .int .i64 eu, .int .i64 ep] 25 (by simp [Value.oneCell']))
  have x0 := (unhide HE).cell 0 rfl
  have x1 := (unhide HE).cell 1 rfl
  have x2 := (unhide HE).cell 2 rfl
  have x3 := (unhide HE).cell 3 rfl
  have HPL : Hid ((Tm.ownPut rs (ek, et, eu, ep)).length = nr) := (ownPut_len _ _).trans (unhide HNR)
  have HPO := hide (fun h => ownPut_of (rs := rs) (e := (ek, et, eu, ep)) h)
  have HPN := hide (fun h => ownPut_no (rs := rs) (e := (ek, et, eu, ep)) h)
  generalize hfb : Tm.fits rs (ek, et, eu, ep) = fb at *
  generalize hpr : Tm.ownPut rs (ek, et, eu, ep) = pr at *
  have HFB := hide hfb
  have HPR := hide hpr
  clear hfb hpr
  go_wp2_with fail
  refine (c26 rs ek et eu ep ar nr cr _ (unhide HNR) (by omega) (unhide HNZ) (unhide HR)).mono ?_
  rintro e w2 ⟨v, rfl, ho, hb⟩
  rw [unhide HFB]
  rw [unhide HPR] at ho
  obtain ⟨ag, cg, rfl, hcg, hrg, -⟩ := ho.row
  rw [unhide HPL] at hcg ⊢
  (try clear x0 x1 x2 x3)
  replace HB := hide (below_tr (unhide HB) hb)
  replace HR := hide ((unhide HR).bel hb)
  replace HE := hide ((unhide HE).bel hb)
  have HG := hide (hrg)
  clear hb ho hrg
  have x0 := (unhide HE).cell 0 rfl
  have x1 := (unhide HE).cell 1 rfl
  have x2 := (unhide HE).cell 2 rfl
  have x3 := (unhide HE).cell 3 rfl
  go_wp2_with fail
  refine (c27 rs ek et eu ep ar nr cr _ (unhide HNR) (by omega) (unhide HNZ) (unhide HR)).mono ?_
  rintro e w3 ⟨v, rfl, ho, hb⟩
  rw [unhide HFB]
  rw [unhide HPR] at ho
  obtain ⟨av, cv, rfl, hcv, hrv, -⟩ := ho.row
  rw [unhide HPL] at hcv ⊢
  (try clear x0 x1 x2 x3)
  replace HB := hide (below_tr (unhide HB) hb)
  replace HR := hide ((unhide HR).bel hb)
  replace HE := hide ((unhide HE).bel hb)
  replace HG := hide ((unhide HG).bel hb)
  have HW := hide (hrv)
  clear hb ho hrv
  have x0 := (unhide HE).cell 0 rfl
  have x1 := (unhide HE).cell 1 rfl
  have x2 := (unhide HE).cell 2 rfl
  have x3 := (unhide HE).cell 3 rfl
  go_wp2_with fail
  refine (c28 pr pr ag av nr cg nr cv _ (unhide HPL) (unhide HPL) (by omega) (by omega) (unhide HG) (unhide HW)).mono ?_
  rintro e w4 ⟨rfl, hb⟩
  rw [decide_eq_true (rfl : pr = pr)]
  (try clear x0 x1 x2 x3)
  replace HB := hide (below_tr (unhide HB) hb)
  replace HR := hide ((unhide HR).bel hb)
  replace HE := hide ((unhide HE).bel hb)
  replace HG := hide ((unhide HG).bel hb)
  clear HW
  clear hb
  have x0 := (unhide HE).cell 0 rfl
  have x1 := (unhide HE).cell 1 rfl
  have x2 := (unhide HE).cell 2 rfl
  have x3 := (unhide HE).cell 3 rfl
  go_wp2_with fail
  refine (c29 rs ek et eu ep ar nr cr _ (unhide HNR) (by omega) (unhide HR)).mono ?_
  rintro e w5 ⟨rfl, hb⟩
  rw [unhide HFB]
  (try clear x0 x1 x2 x3)
  replace HB := hide (below_tr (unhide HB) hb)
  replace HR := hide ((unhide HR).bel hb)
  replace HE := hide ((unhide HE).bel hb)
  replace HG := hide ((unhide HG).bel hb)
  clear hb
  have x0 := (unhide HE).cell 0 rfl
  have x1 := (unhide HE).cell 1 rfl
  have x2 := (unhide HE).cell 2 rfl
  have x3 := (unhide HE).cell 3 rfl
  cases fb
  case false =>
    have e1 := unhide HPN rfl
    subst e1
    clear HPO HPN
    go_wp2_with fail
    refine (c28 _ _ ag ar nr cg nr cr _ (unhide HPL) (unhide HNR) (by omega) (by omega) (unhide HG) (unhide HR)).mono ?_
    rintro e w6 ⟨rfl, hb⟩
    rw [decide_eq_true rfl]
    (try clear x0 x1 x2 x3)
    replace HB := hide (below_tr (unhide HB) hb)
    replace HR := hide ((unhide HR).bel hb)
    replace HE := hide ((unhide HE).bel hb)
    replace HG := hide ((unhide HG).bel hb)
    clear hb
    have x0 := (unhide HE).cell 0 rfl
    have x1 := (unhide HE).cell 1 rfl
    have x2 := (unhide HE).cell 2 rfl
    have x3 := (unhide HE).cell 3 rfl
    go_wp2_with fail
    refine (c30 _).mono ?_
    rintro e w7 ⟨rfl, hww⟩
    have hww := hww.symm
    subst hww
    go_wp2_with fail
    go_ret
    exact ⟨rfl, unhide HB⟩
  have hpe := unhide HPO rfl
  subst hpe
  clear HPO HPN HPR
  have hfit := Tm.fits_iff.1 (unhide HFB)
  have HOKP := hide (Tm.put_ok (unhide HFB))
  have hke2 := Tm.entOk_iff.1 hfit.2.1
  dsimp only at hke2
  have hn8 : nr = 8 := by rw [← unhide HNR]; exact (Tm.ownOk_iff.1 hfit.1).1
  subst hn8
  obtain ⟨j, rfl⟩ : ∃ j : Nat, et = (j : Int) := ⟨et.toNat, by omega⟩
  have hj8 : j < 8 := by omega
  obtain ⟨a, c, d, hj⟩ := r_at (show j < rs.length by rw [unhide HNR]; exact hj8)
  have HJ := hide hj
  have HPS := hide (put_self (u := eu) (p := ep) (q := ek) hj)
  have hmay := fits_of hfit.1 hfit.2.1 (j := j) rfl hj
  rw [unhide HFB] at hmay
  have HMAY := hide hmay
  have hkk : ek = 1 ∨ ek = 2 ∨ ek = 3 := by omega
  have hu1 : 1 ≤ eu := by omega
  obtain ⟨b, off, rfl, -⟩ := (unhide HR).2 (by intro e; rw [e] at hj; simp at hj)
  obtain ⟨b', off', rfl, -⟩ := (unhide HG).2 (by intro e; have := unhide HPL; rw [e] at this; simp at this)
  have hjI : (j : Int) < 8 := by omega
  have hj0 : (0 : Int) ≤ (j : Int) := by omega
  clear hke2 hj hmay hfit
  go_wp2_with fail
  (try clear x0 x1 x2 x3)
  go_loopw [9] (fun i wr => ∃ k : Nat, k ≤ 8 ∧ i = .int .i64 k ∧ BelowOf w5 wr) (fun i _ => 8 - (intOf i).toNat)
  case atStart => exact ⟨0, Nat.zero_le _, rfl, Below.refl _ _⟩
  case round =>
    obtain ⟨k, hk, rfl, hbw⟩ := hrel
    have hb := hbw
    unfold BelowOf at hb
    have HBW := hide hbw
    clear hbw
    replace HB := hide (below_tr (unhide HB) hb)
    replace HR := hide ((unhide HR).bel hb)
    replace HE := hide ((unhide HE).bel hb)
    replace HG := hide ((unhide HG).bel hb)
    clear hb
    obtain ⟨WA, hWA⟩ : ∃ A : World, A = wr := ⟨_, rfl⟩
    subst hWA
    by_cases hlt : k < 8
    case pos =>
      have e0 : (0 : Int) ≤ (k : Int) := by omega
      have e1 : (k : Int) < 8 := by omega
      by_cases hkj : k = j
      case pos =>
        subst hkj
        have x0 := (unhide HE).cell 0 rfl
        have x1 := (unhide HE).cell 1 rfl
        have x2 := (unhide HE).cell 2 rfl
        have x3 := (unhide HE).cell 3 rfl
        go_wp2_with fail
        (try clear x0 x1 x2 x3)
        refine wp_region_held_drew (S := fun w' => Below WA.heap.size WA w') (by kernel_rfl) (below_drew WA) (fun hHeld => ?_)
        refine wpAnyH_take (i := 0) (oi := { dst := some 62, op := _, type := _, pos := _, after := _, guard := _ }) (v := ?_) rfl (by kernel_rfl) (by kernel_rfl) (by kernel_rfl) (fun _ _ _ h => h) (Or.inl ⟨by rfl, ?_⟩) (by assumption) ?_
        rotate_left
        · intro w hSw
          first | (go_simp; done) | (go_simp; with_reducible rfl) | with_reducible rfl | rfl
        try simp only [Act.put, List.setIfInBounds_toArray, List.set_cons_zero, List.set_cons_succ]
        refine wpAnyH_take (i := 1) (oi := { dst := some 63, op := _, type := _, pos := _, after := _, guard := _ }) (v := ?_) rfl (by kernel_rfl) (by kernel_rfl) (by kernel_rfl) (fun _ _ _ h => h) (Or.inl ⟨by rfl, ?_⟩) (by assumption) ?_
        rotate_left
        · intro w hSw
          have hT := (unhide HE).below hSw; have x0 := hT.cell 0 rfl; have x1 := hT.cell 1 rfl; have x2 := hT.cell 2 rfl; have x3 := hT.cell 3 rfl; clear hT
          first | (go_simp; done) | (go_simp; with_reducible rfl) | with_reducible rfl | rfl
        try simp only [Act.put, List.setIfInBounds_toArray, List.set_cons_zero, List.set_cons_succ]
        refine wpAnyH_take (i := 2) (oi := { dst := some 64, op := _, type := _, pos := _, after := _, guard := _ }) (v := ?_) rfl (by kernel_rfl) (by kernel_rfl) (by kernel_rfl) (fun _ _ _ h => h) (Or.inl ⟨by rfl, ?_⟩) (by assumption) ?_
        rotate_left
        · intro w hSw
          have hT := (unhide HE).below hSw; have x0 := hT.cell 0 rfl; have x1 := hT.cell 1 rfl; have x2 := hT.cell 2 rfl; have x3 := hT.cell 3 rfl; clear hT
          first | (go_simp; done) | (go_simp; with_reducible rfl) | with_reducible rfl | rfl
        try simp only [Act.put, List.setIfInBounds_toArray, List.set_cons_zero, List.set_cons_succ]
        refine wpAnyH_take (i := 3) (oi := { dst := some 65, op := _, type := _, pos := _, after := _, guard := _ }) (v := ?_) rfl (by kernel_rfl) (by kernel_rfl) (by kernel_rfl) (fun _ _ _ h => h) (Or.inl ⟨by rfl, ?_⟩) (by assumption) ?_
        rotate_left
        · intro w hSw
          first | (go_simp; done) | (go_simp; with_reducible rfl) | with_reducible rfl | rfl
        try simp only [Act.put, List.setIfInBounds_toArray, List.set_cons_zero, List.set_cons_succ]
        refine wpAnyH_take (i := 4) (oi := { dst := some 66, op := _, type := _, pos := _, after := _, guard := _ }) (v := ?_) rfl (by kernel_rfl) (by kernel_rfl) (by kernel_rfl) (fun _ _ _ h => h) (Or.inl ⟨by rfl, ?_⟩) (by assumption) ?_
        rotate_left
        · intro w hSw
          first | (go_simp; done) | (go_simp; with_reducible rfl) | with_reducible rfl | rfl
        try simp only [Act.put, List.setIfInBounds_toArray, List.set_cons_zero, List.set_cons_succ]
        refine wpAnyH_take (i := 5) (oi := { dst := some 67, op := _, type := _, pos := _, after := _, guard := _ }) (v := undef) rfl (by kernel_rfl) (by kernel_rfl) (by kernel_rfl) (fun _ _ _ h => h) (Or.inr ⟨by rfl, rfl⟩) (by assumption) ?_
        try simp only [Act.put, List.setIfInBounds_toArray, List.set_cons_zero, List.set_cons_succ]
        refine wpAnyH_take (i := 6) (oi := { dst := some 68, op := _, type := _, pos := _, after := _, guard := _ }) (v := undef) rfl (by kernel_rfl) (by kernel_rfl) (by kernel_rfl) (fun _ _ _ h => h) (Or.inr ⟨by rfl, rfl⟩) (by assumption) ?_
        try simp only [Act.put, List.setIfInBounds_toArray, List.set_cons_zero, List.set_cons_succ]
        refine wpAnyH_take (i := 7) (oi := { dst := some 69, op := _, type := _, pos := _, after := _, guard := _ }) (v := undef) rfl (by kernel_rfl) (by kernel_rfl) (by kernel_rfl) (fun _ _ _ h => h) (Or.inr ⟨by rfl, rfl⟩) (by assumption) ?_
        try simp only [Act.put, List.setIfInBounds_toArray, List.set_cons_zero, List.set_cons_succ]
        refine wpAnyH_take (i := 8) (oi := { dst := some 70, op := _, type := _, pos := _, after := _, guard := _ }) (v := undef) rfl (by kernel_rfl) (by kernel_rfl) (by kernel_rfl) (fun _ _ _ h => h) (Or.inr ⟨by rfl, rfl⟩) (by assumption) ?_
        try simp only [Act.put, List.setIfInBounds_toArray, List.set_cons_zero, List.set_cons_succ]
        refine wpAnyH_take (i := 9) (oi := { dst := some 71, op := _, type := _, pos := _, after := _, guard := _ }) (v := undef) rfl (by kernel_rfl) (by kernel_rfl) (by kernel_rfl) (fun _ _ _ h => h) (Or.inr ⟨by rfl, rfl⟩) (by assumption) ?_
        try simp only [Act.put, List.setIfInBounds_toArray, List.set_cons_zero, List.set_cons_succ]
        refine wpAnyH_take (i := 10) (oi := { dst := some 72, op := _, type := _, pos := _, after := _, guard := _ }) (v := undef) rfl (by kernel_rfl) (by kernel_rfl) (by kernel_rfl) (fun _ _ _ h => h) (Or.inr ⟨by rfl, rfl⟩) (by assumption) ?_
        try simp only [Act.put, List.setIfInBounds_toArray, List.set_cons_zero, List.set_cons_succ]
        refine wpAnyH_take (i := 11) (oi := { dst := some 73, op := _, type := _, pos := _, after := _, guard := _ }) (v := undef) rfl (by kernel_rfl) (by kernel_rfl) (by kernel_rfl) (fun _ _ _ h => h) (Or.inr ⟨by rfl, rfl⟩) (by assumption) ?_
        try simp only [Act.put, List.setIfInBounds_toArray, List.set_cons_zero, List.set_cons_succ]
        refine wpAnyH_take (i := 12) (oi := { dst := some 74, op := _, type := _, pos := _, after := _, guard := _ }) (v := undef) rfl (by kernel_rfl) (by kernel_rfl) (by kernel_rfl) (fun _ _ _ h => h) (Or.inr ⟨by rfl, rfl⟩) (by assumption) ?_
        try simp only [Act.put, List.setIfInBounds_toArray, List.set_cons_zero, List.set_cons_succ]
        refine wpAnyH_take (i := 13) (oi := { dst := some 75, op := _, type := _, pos := _, after := _, guard := _ }) (v := undef) rfl (by kernel_rfl) (by kernel_rfl) (by kernel_rfl) (fun _ _ _ h => h) (Or.inr ⟨by rfl, rfl⟩) (by assumption) ?_
        try simp only [Act.put, List.setIfInBounds_toArray, List.set_cons_zero, List.set_cons_succ]
        refine wpAnyH_take (i := 14) (oi := { dst := some 76, op := _, type := _, pos := _, after := _, guard := _ }) (v := ?_) rfl (by kernel_rfl) (by kernel_rfl) (by kernel_rfl) (fun _ _ _ h => h) (Or.inl ⟨by rfl, ?_⟩) (by assumption) ?_
        rotate_left
        · intro w hSw
          first | (go_simp; done) | (go_simp; with_reducible rfl) | with_reducible rfl | rfl
        try simp only [Act.put, List.setIfInBounds_toArray, List.set_cons_zero, List.set_cons_succ]
        have HD := below_drew WA
        generalize WA.drew = V0 at *
        refine wpAnyH_done (by kernel_rfl) ?_ _
        replace HB := hide (below_tr (unhide HB) HD)
        replace HR := hide ((unhide HR).bel HD)
        replace HE := hide ((unhide HE).bel HD)
        replace HG := hide ((unhide HG).bel HD)
        replace HBW := hide ((unhide HBW).bel HD)
        clear HD 
        have x0 := (unhide HE).cell 0 rfl
        have x1 := (unhide HE).cell 1 rfl
        have x2 := (unhide HE).cell 2 rfl
        have x3 := (unhide HE).cell 3 rfl
        go_wp2_with fail
        (try clear x0 x1 x2 x3)
        go_roundw
        case rel => exact ⟨k + 1, by omega, by go_num, unhide HBW⟩
        case measure => simp [intOf]; omega
      have d1 : ((k : Int) != (j : Int)) = true := by rw [bne_iff_ne]; omega
      obtain ⟨x, y, z, hx⟩ := r_at (show k < rs.length by rw [unhide HNR]; exact hlt)
      obtain ⟨g0, g1, g2⟩ := (unhide HR).at' hx
      obtain ⟨h0, h1, h2⟩ := (unhide HG).at' (put_get (u := eu) (p := ep) (q := ek) hkj hx)
      have HC0 := hide g0
      have HC1 := hide g1
      have HC2 := hide g2
      have HD0 := hide h0
      have HD1 := hide h1
      have HD2 := hide h2
      clear g0 g1 g2 h0 h1 h2 hx hkj
      have heq := eqRowS x y z
      have hg : Try.prog.eqGuardType Try.prog.depth 34 = false := by kernel_rfl
      have x0 := (unhide HE).cell 0 rfl
      have x1 := (unhide HE).cell 1 rfl
      have x2 := (unhide HE).cell 2 rfl
      have x3 := (unhide HE).cell 3 rfl
      go_wp2_with fail
      (try clear x0 x1 x2 x3)
      refine wp_region_held_drew (S := fun w' => Below WA.heap.size WA w') (by kernel_rfl) (below_drew WA) (fun hHeld => ?_)
      refine wpAnyH_take (i := 0) (oi := { dst := some 62, op := _, type := _, pos := _, after := _, guard := _ }) (v := ?_) rfl (by kernel_rfl) (by kernel_rfl) (by kernel_rfl) (fun _ _ _ h => h) (Or.inl ⟨by rfl, ?_⟩) (by assumption) ?_
      rotate_left
      · intro w hSw
        first | (go_simp; done) | (go_simp; with_reducible rfl) | with_reducible rfl | rfl
      try simp only [Act.put, List.setIfInBounds_toArray, List.set_cons_zero, List.set_cons_succ]
      refine wpAnyH_take (i := 1) (oi := { dst := some 63, op := _, type := _, pos := _, after := _, guard := _ }) (v := ?_) rfl (by kernel_rfl) (by kernel_rfl) (by kernel_rfl) (fun _ _ _ h => h) (Or.inl ⟨by rfl, ?_⟩) (by assumption) ?_
      rotate_left
      · intro w hSw
        have hT := (unhide HE).below hSw; have x0 := hT.cell 0 rfl; have x1 := hT.cell 1 rfl; have x2 := hT.cell 2 rfl; have x3 := hT.cell 3 rfl; clear hT; have g0 := cell_bl hSw (unhide HC0); have g1 := cell_bl hSw (unhide HC1); have g2 := cell_bl hSw (unhide HC2); have h0 := cell_bl hSw (unhide HD0); have h1 := cell_bl hSw (unhide HD1); have h2 := cell_bl hSw (unhide HD2)
        first | (go_simp; done) | (go_simp; with_reducible rfl) | with_reducible rfl | rfl
      try simp only [Act.put, List.setIfInBounds_toArray, List.set_cons_zero, List.set_cons_succ]
      refine wpAnyH_take (i := 2) (oi := { dst := some 64, op := _, type := _, pos := _, after := _, guard := _ }) (v := ?_) rfl (by kernel_rfl) (by kernel_rfl) (by kernel_rfl) (fun _ _ _ h => h) (Or.inl ⟨by rfl, ?_⟩) (by assumption) ?_
      rotate_left
      · intro w hSw
        have hT := (unhide HE).below hSw; have x0 := hT.cell 0 rfl; have x1 := hT.cell 1 rfl; have x2 := hT.cell 2 rfl; have x3 := hT.cell 3 rfl; clear hT; have g0 := cell_bl hSw (unhide HC0); have g1 := cell_bl hSw (unhide HC1); have g2 := cell_bl hSw (unhide HC2); have h0 := cell_bl hSw (unhide HD0); have h1 := cell_bl hSw (unhide HD1); have h2 := cell_bl hSw (unhide HD2)
        first | (go_simp; done) | (go_simp; with_reducible rfl) | with_reducible rfl | rfl
      try simp only [Act.put, List.setIfInBounds_toArray, List.set_cons_zero, List.set_cons_succ]
      refine wpAnyH_take (i := 3) (oi := { dst := some 65, op := _, type := _, pos := _, after := _, guard := _ }) (v := ?_) rfl (by kernel_rfl) (by kernel_rfl) (by kernel_rfl) (fun _ _ _ h => h) (Or.inl ⟨by rfl, ?_⟩) (by assumption) ?_
      rotate_left
      · intro w hSw
        first | (go_simp; done) | (go_simp; with_reducible rfl) | with_reducible rfl | rfl
      try simp only [Act.put, List.setIfInBounds_toArray, List.set_cons_zero, List.set_cons_succ]
      refine wpAnyH_take (i := 4) (oi := { dst := some 66, op := _, type := _, pos := _, after := _, guard := _ }) (v := ?_) rfl (by kernel_rfl) (by kernel_rfl) (by kernel_rfl) (fun _ _ _ h => h) (Or.inl ⟨by rfl, ?_⟩) (by assumption) ?_
      rotate_left
      · intro w hSw
        first | (go_simp; done) | (go_simp; with_reducible rfl) | with_reducible rfl | rfl
      try simp only [Act.put, List.setIfInBounds_toArray, List.set_cons_zero, List.set_cons_succ]
      refine wpAnyH_take (i := 5) (oi := { dst := some 67, op := _, type := _, pos := _, after := _, guard := _ }) (v := ?_) rfl (by kernel_rfl) (by kernel_rfl) (by kernel_rfl) (fun _ _ _ h => h) (Or.inl ⟨by rfl, ?_⟩) (by assumption) ?_
      rotate_left
      · intro w hSw
        first | (go_simp; done) | (go_simp; with_reducible rfl) | with_reducible rfl | rfl
      try simp only [Act.put, List.setIfInBounds_toArray, List.set_cons_zero, List.set_cons_succ]
      refine wpAnyH_take (i := 6) (oi := { dst := some 68, op := _, type := _, pos := _, after := _, guard := _ }) (v := ?_) rfl (by kernel_rfl) (by kernel_rfl) (by kernel_rfl) (fun _ _ _ h => h) (Or.inl ⟨by rfl, ?_⟩) (by assumption) ?_
      rotate_left
      · intro w hSw
        first | (go_simp; done) | (go_simp; with_reducible rfl) | with_reducible rfl | rfl
      try simp only [Act.put, List.setIfInBounds_toArray, List.set_cons_zero, List.set_cons_succ]
      refine wpAnyH_take (i := 7) (oi := { dst := some 69, op := _, type := _, pos := _, after := _, guard := _ }) (v := ?_) rfl (by kernel_rfl) (by kernel_rfl) (by kernel_rfl) (fun _ _ _ h => h) (Or.inl ⟨by rfl, ?_⟩) (by assumption) ?_
      rotate_left
      · intro w hSw
        have hT := (unhide HE).below hSw; have x0 := hT.cell 0 rfl; have x1 := hT.cell 1 rfl; have x2 := hT.cell 2 rfl; have x3 := hT.cell 3 rfl; clear hT; have g0 := cell_bl hSw (unhide HC0); have g1 := cell_bl hSw (unhide HC1); have g2 := cell_bl hSw (unhide HC2); have h0 := cell_bl hSw (unhide HD0); have h1 := cell_bl hSw (unhide HD1); have h2 := cell_bl hSw (unhide HD2)
        first | (go_simp; done) | (go_simp; with_reducible rfl) | with_reducible rfl | rfl
      try simp only [Act.put, List.setIfInBounds_toArray, List.set_cons_zero, List.set_cons_succ]
      refine wpAnyH_take (i := 8) (oi := { dst := some 70, op := _, type := _, pos := _, after := _, guard := _ }) (v := ?_) rfl (by kernel_rfl) (by kernel_rfl) (by kernel_rfl) (fun _ _ _ h => h) (Or.inl ⟨by rfl, ?_⟩) (by assumption) ?_
      rotate_left
      · intro w hSw
        have hT := (unhide HE).below hSw; have x0 := hT.cell 0 rfl; have x1 := hT.cell 1 rfl; have x2 := hT.cell 2 rfl; have x3 := hT.cell 3 rfl; clear hT; have g0 := cell_bl hSw (unhide HC0); have g1 := cell_bl hSw (unhide HC1); have g2 := cell_bl hSw (unhide HC2); have h0 := cell_bl hSw (unhide HD0); have h1 := cell_bl hSw (unhide HD1); have h2 := cell_bl hSw (unhide HD2)
        first | (go_simp; done) | (go_simp; with_reducible rfl) | with_reducible rfl | rfl
      try simp only [Act.put, List.setIfInBounds_toArray, List.set_cons_zero, List.set_cons_succ]
      refine wpAnyH_take (i := 9) (oi := { dst := some 71, op := _, type := _, pos := _, after := _, guard := _ }) (v := ?_) rfl (by kernel_rfl) (by kernel_rfl) (by kernel_rfl) (fun _ _ _ h => h) (Or.inl ⟨by rfl, ?_⟩) (by assumption) ?_
      rotate_left
      · intro w hSw
        first | (go_simp; done) | (go_simp; with_reducible rfl) | with_reducible rfl | rfl
      try simp only [Act.put, List.setIfInBounds_toArray, List.set_cons_zero, List.set_cons_succ]
      refine wpAnyH_take (i := 10) (oi := { dst := some 72, op := _, type := _, pos := _, after := _, guard := _ }) (v := ?_) rfl (by kernel_rfl) (by kernel_rfl) (by kernel_rfl) (fun _ _ _ h => h) (Or.inl ⟨by rfl, ?_⟩) (by assumption) ?_
      rotate_left
      · intro w hSw
        first | (go_simp; done) | (go_simp; with_reducible rfl) | with_reducible rfl | rfl
      try simp only [Act.put, List.setIfInBounds_toArray, List.set_cons_zero, List.set_cons_succ]
      refine wpAnyH_take (i := 11) (oi := { dst := some 73, op := _, type := _, pos := _, after := _, guard := _ }) (v := ?_) rfl (by kernel_rfl) (by kernel_rfl) (by kernel_rfl) (fun _ _ _ h => h) (Or.inl ⟨by rfl, ?_⟩) (by assumption) ?_
      rotate_left
      · intro w hSw
        have hT := (unhide HE).below hSw; have x0 := hT.cell 0 rfl; have x1 := hT.cell 1 rfl; have x2 := hT.cell 2 rfl; have x3 := hT.cell 3 rfl; clear hT; have g0 := cell_bl hSw (unhide HC0); have g1 := cell_bl hSw (unhide HC1); have g2 := cell_bl hSw (unhide HC2); have h0 := cell_bl hSw (unhide HD0); have h1 := cell_bl hSw (unhide HD1); have h2 := cell_bl hSw (unhide HD2)
        first | (go_simp; done) | (go_simp; with_reducible rfl) | with_reducible rfl | rfl
      try simp only [Act.put, List.setIfInBounds_toArray, List.set_cons_zero, List.set_cons_succ]
      refine wpAnyH_take (i := 12) (oi := { dst := some 74, op := _, type := _, pos := _, after := _, guard := _ }) (v := ?_) rfl (by kernel_rfl) (by kernel_rfl) (by kernel_rfl) (fun _ _ _ h => h) (Or.inl ⟨by rfl, ?_⟩) (by assumption) ?_
      rotate_left
      · intro w hSw
        have hT := (unhide HE).below hSw; have x0 := hT.cell 0 rfl; have x1 := hT.cell 1 rfl; have x2 := hT.cell 2 rfl; have x3 := hT.cell 3 rfl; clear hT; have g0 := cell_bl hSw (unhide HC0); have g1 := cell_bl hSw (unhide HC1); have g2 := cell_bl hSw (unhide HC2); have h0 := cell_bl hSw (unhide HD0); have h1 := cell_bl hSw (unhide HD1); have h2 := cell_bl hSw (unhide HD2)
        first | (go_simp; done) | (go_simp; with_reducible rfl) | with_reducible rfl | rfl
      try simp only [Act.put, List.setIfInBounds_toArray, List.set_cons_zero, List.set_cons_succ]
      refine wpAnyH_take (i := 13) (oi := { dst := some 75, op := _, type := _, pos := _, after := _, guard := _ }) (v := ?_) rfl (by kernel_rfl) (by kernel_rfl) (by kernel_rfl) (fun _ _ _ h => h) (Or.inl ⟨by rfl, ?_⟩) (by assumption) ?_
      rotate_left
      · intro w hSw
        first | (go_simp; done) | (go_simp; with_reducible rfl) | with_reducible rfl | rfl
      try simp only [Act.put, List.setIfInBounds_toArray, List.set_cons_zero, List.set_cons_succ]
      refine wpAnyH_take (i := 14) (oi := { dst := some 76, op := _, type := _, pos := _, after := _, guard := _ }) (v := ?_) rfl (by kernel_rfl) (by kernel_rfl) (by kernel_rfl) (fun _ _ _ h => h) (Or.inl ⟨by rfl, ?_⟩) (by assumption) ?_
      rotate_left
      · intro w hSw
        first | (go_simp; done) | (go_simp; with_reducible rfl) | with_reducible rfl | rfl
      try simp only [Act.put, List.setIfInBounds_toArray, List.set_cons_zero, List.set_cons_succ]
      have HD := below_drew WA
      generalize WA.drew = V0 at *
      refine wpAnyH_done (by kernel_rfl) ?_ _
      replace HB := hide (below_tr (unhide HB) HD)
      replace HR := hide ((unhide HR).bel HD)
      replace HE := hide ((unhide HE).bel HD)
      replace HG := hide ((unhide HG).bel HD)
      replace HBW := hide ((unhide HBW).bel HD)
      clear HD 
      have x0 := (unhide HE).cell 0 rfl
      have x1 := (unhide HE).cell 1 rfl
      have x2 := (unhide HE).cell 2 rfl
      have x3 := (unhide HE).cell 3 rfl
      go_wp2_with fail
      (try clear x0 x1 x2 x3)
      go_roundw
      case rel => exact ⟨k + 1, by omega, by go_num, unhide HBW⟩
      case measure => simp [intOf]; omega
    obtain rfl : k = 8 := by omega
    clear HBW hlt hk
    obtain ⟨g0, g1, g2⟩ := (unhide HR).at' (unhide HJ)
    rcases hkk with rfl | rfl | rfl
    case inl =>
      have hm : a = 0 := by have := unhide HMAY; simpa [Tm.may] using this
      subst hm
      have hps : (Tm.put rs (1, (j : Int), eu, ep))[j]? = some (eu, ep, false) := by have := unhide HPS; simpa [Tm.turned] using this
      obtain ⟨h0, h1, h2⟩ := (unhide HG).at' hps
      clear hps
      have hlb : b < WA.heap.size := World.block_lt_of_cell? WA _ g0
      have hlb2 : b' < WA.heap.size := World.block_lt_of_cell? WA _ h0
      have hle := (unhide HE).lt
      have x0 := (unhide HE).cell 0 rfl
      have x1 := (unhide HE).cell 1 rfl
      have x2 := (unhide HE).cell 2 rfl
      have x3 := (unhide HE).cell 3 rfl
      go_wp2_with fail
      go_region
      all_goals (go_wp2_with fail)
      all_goals (refine (c31 (Tm.put rs (1, (j : Int), eu, ep)) _ 8 cg _ (unhide HPL) (by omega) ((unhide HG).bel (below_then (below_al (below_a _)) (below_drew _)))).mono ?_; rintro e wz ⟨rfl, hbz⟩; rw [unhide HOKP]; have HBZ : Hid (Below w.heap.size w wz) := below_tr (below_tr (unhide HB) (below_then (below_al (below_a _)) (below_drew _))) hbz; clear hbz x0 x1 x2 x3 g0 g1 g2 h0 h1 h2; go_wp2_with fail; go_ret; exact ⟨rfl, unhide HBZ⟩)
    case inr.inl =>
      have hm : ¬ a = 0 ∧ d = false ∧ ¬ a = eu ∧ ep ≤ Tm.cap c := by have := unhide HMAY; simpa [Tm.may] using this
      obtain ⟨hm1, hm2, hm3, -⟩ := hm
      subst hm2
      have g5 : (a == 0) = false := by rw [beq_eq_false_iff_ne]; exact hm1
      have hps : (Tm.put rs (2, (j : Int), eu, ep))[j]? = some (eu, c, false) := by have := unhide HPS; simpa [Tm.turned] using this
      obtain ⟨h0, h1, h2⟩ := (unhide HG).at' hps
      clear hps
      have hlb : b < WA.heap.size := World.block_lt_of_cell? WA _ g0
      have hlb2 : b' < WA.heap.size := World.block_lt_of_cell? WA _ h0
      have hle := (unhide HE).lt
      have x0 := (unhide HE).cell 0 rfl
      have x1 := (unhide HE).cell 1 rfl
      have x2 := (unhide HE).cell 2 rfl
      have x3 := (unhide HE).cell 3 rfl
      go_wp2_with fail
      go_region
      all_goals (go_wp2_with fail)
      all_goals (refine (c31 (Tm.put rs (2, (j : Int), eu, ep)) _ 8 cg _ (unhide HPL) (by omega) ((unhide HG).bel (below_then (below_al (below_a _)) (below_drew _)))).mono ?_; rintro e wz ⟨rfl, hbz⟩; rw [unhide HOKP]; have HBZ : Hid (Below w.heap.size w wz) := below_tr (below_tr (unhide HB) (below_then (below_al (below_a _)) (below_drew _))) hbz; clear hbz x0 x1 x2 x3 g0 g1 g2 h0 h1 h2; go_wp2_with fail; go_ret; exact ⟨rfl, unhide HBZ⟩)
    case inr.inr =>
      have hm : a = eu ∧ d = false := by have := unhide HMAY; simpa [Tm.may] using this
      obtain ⟨hm1, hm2⟩ := hm
      subst hm2
      subst hm1
      have g5 : (a == 0) = false := by rw [beq_eq_false_iff_ne]; omega
      have hps : (Tm.put rs (3, (j : Int), a, ep))[j]? = some (a, c, true) := by have := unhide HPS; simpa [Tm.turned] using this
      obtain ⟨h0, h1, h2⟩ := (unhide HG).at' hps
      clear hps
      have hlb : b < WA.heap.size := World.block_lt_of_cell? WA _ g0
      have hlb2 : b' < WA.heap.size := World.block_lt_of_cell? WA _ h0
      have hle := (unhide HE).lt
      have x0 := (unhide HE).cell 0 rfl
      have x1 := (unhide HE).cell 1 rfl
      have x2 := (unhide HE).cell 2 rfl
      have x3 := (unhide HE).cell 3 rfl
      go_wp2_with fail
      go_region
      all_goals (go_wp2_with fail)
      all_goals (refine (c31 (Tm.put rs (3, (j : Int), a, ep)) _ 8 cg _ (unhide HPL) (by omega) ((unhide HG).bel (below_then (below_al (below_a _)) (below_drew _)))).mono ?_; rintro e wz ⟨rfl, hbz⟩; rw [unhide HOKP]; have HBZ : Hid (Below w.heap.size w wz) := below_tr (below_tr (unhide HB) (below_then (below_al (below_a _)) (below_drew _))) hbz; clear hbz x0 x1 x2 x3 g0 g1 g2 h0 h1 h2; go_wp2_with fail; go_ret; exact ⟨rfl, unhide HBZ⟩)
end Go.Proofs.Ytdpkdcdieajkbaa
