/-
  Texts of the proof, what it needs of them: Moks.
-/
import Derived.Test.YtmlbphmbffkdnaaGt39
namespace Go.Proofs.Ytmlbphmbffkdnaa
open Go.RowKit
set_option linter.unusedVariables false
set_option maxRecDepth 100000

/-- the ticket of the deal ahead of the k-th -/
def dLast (ds : List Tm.Deal) : Nat → Int
  | 0 => -1
  | k + 1 => (ds.getD k (0, 0, 0, 0, 0)).1
theorem dLast_at {ds : List Tm.Deal} {k : Nat} {x : Tm.Deal} (h : ds[k]? = some x) : dLast ds (k + 1) = x.1 := by show (ds.getD k (0, 0, 0, 0, 0)).1 = x.1; rw [List.getD_eq_getElem?_getD, h]; rfl
theorem deals_many {rs : List Tm.Rw} {c : Int} {ds : List Tm.Deal} (h : (8 : Int) < (ds.length : Int)) : dealsFrom rs c (-1) ds = false := by
  rcases e : dealsFrom rs c (-1) ds with _ | _
  · rfl
  · have := deals_len ds _ e (by omega); omega
theorem row_noneM {r0 r1 : Int} {r2 : Bool} (h : Tm.rowOk (r0, r1, r2) = true) (h0 : r0 = 0) (x2 : Int) : decide (1 ≤ x2 ∧ x2 ≤ Tm.cap r1) = false := by
  rcases Tm.rowOk_iff.1 h with e | e
  · have h1 : r1 = 0 := congrArg (fun r : Tm.Rw => r.2.1) e
    rw [h1, Tm.cap_no (by omega)]
    exact decide_eq_false (by omega)
  · dsimp only at e; omega

theorem l1b {x lo hi : Int} {b : Bool} (h : decide (lo ≤ x ∧ x ≤ hi) = b) (w : World) : Calls Try.prog 109 #[.int .i64 x, .int .i64 lo, .int .i64 hi] w fun e w' => e = .returned (.bool b) ∧ w' = w :=
  (c109 x lo hi w).mono fun e w' hh => ⟨hh.1.trans (by rw [h]), hh.2⟩

set_option maxHeartbeats 16000000 in
theorem c33 (h : House) (q : HP) (w : World) (hs : Small h) (hr : HRow w q h) : Calls Try.prog 33 #[hV q h] w fun e w' => e = .returned (.bool (mktOk h)) ∧ Below w.heap.size w w' := by
  obtain ⟨es, pu, ds, cl, nu, sa⟩ := h
  obtain ⟨a0, k0, a1, k1, a2, k2, a4, k4, a5, k5⟩ := q
  have HRR := hide hr
  clear hr
  have HSM := hide hs
  clear hs
  have HB := hide (Below.refl w.heap.size w)
  replace HB := hide (below_al (o := .cells #[.slice a0 es.length k0, .slice a1 pu.length k1, .slice a2 ds.length k2, .int .i64 cl, .slice a4 nu.length k4, .slice a5 sa.length k5] 28) (unhide HB))
  replace HRR := hide ((unhide HRR).bel (below_a (.cells #[.slice a0 es.length k0, .slice a1 pu.length k1, .slice a2 ds.length k2, .int .i64 cl, .slice a4 nu.length k4, .slice a5 sa.length k5] 28)))
  have HX := hide (box_new w [.slice a0 es.length k0, .slice a1 pu.length k1, .slice a2 ds.length k2, .int .i64 cl, .slice a4 nu.length k4, .slice a5 sa.length k5] 28 (by simp [Value.oneCell']))
  (try simp only [World.size_alloc] at HX)
  rcases h1 : foldIs es with _ | _
  case false =>
    as_aux_lemma =>
      have HU := hide (mo_1 (h := ⟨es, pu, ds, cl, nu, sa⟩) h1)
      have x0c := (unhide HX).cell 0 rfl
      have x1c := (unhide HX).cell 1 rfl
      have x2c := (unhide HX).cell 2 rfl
      have x3c := (unhide HX).cell 3 rfl
      have x4c := (unhide HX).cell 4 rfl
      have x5c := (unhide HX).cell 5 rfl
      go_enter Try.func33, Try.ntmps33
      go_wp2_with fail
      refine (c121 es a0 es.length k0 _ rfl (unhide HSM).1 (unhide HRR).1).mono ?_
      rintro e w1 ⟨v, rfl, ho, hb⟩
      obtain ⟨ar, cr, rfl, hcr, hrr, -⟩ := ho.row
      rw [h1]
      (try rw [unhide H8])
      (try clear x0c x1c x2c x3c x4c x5c)
      replace HB := hide (below_tr (unhide HB) hb)
      replace HRR := hide ((unhide HRR).bel hb)
      replace HX := hide ((unhide HX).bel hb)
      have HW := hide (hrr)
      clear hb ho hrr
      have x0c := (unhide HX).cell 0 rfl
      have x1c := (unhide HX).cell 1 rfl
      have x2c := (unhide HX).cell 2 rfl
      have x3c := (unhide HX).cell 3 rfl
      have x4c := (unhide HX).cell 4 rfl
      have x5c := (unhide HX).cell 5 rfl
      go_wp2_with fail
      go_ret
      exact ⟨ret_bool (unhide HU).symm, unhide HB⟩
  have HO8 := hide (fold8 h1)
  have H8 : Hid ((foldRows es).length = 8) := (Tm.ownOk_iff.1 (unhide HO8)).1
  have HRK := hide (Tm.ownOk_iff.1 (unhide HO8)).2
  rcases h2 : Tm.monOk pu with _ | _
  case false =>
    as_aux_lemma =>
      have HU := hide (mo_2 (h := ⟨es, pu, ds, cl, nu, sa⟩) h2)
      have x0c := (unhide HX).cell 0 rfl
      have x1c := (unhide HX).cell 1 rfl
      have x2c := (unhide HX).cell 2 rfl
      have x3c := (unhide HX).cell 3 rfl
      have x4c := (unhide HX).cell 4 rfl
      have x5c := (unhide HX).cell 5 rfl
      go_enter Try.func33, Try.ntmps33
      go_wp2_with fail
      refine (c121 es a0 es.length k0 _ rfl (unhide HSM).1 (unhide HRR).1).mono ?_
      rintro e w1 ⟨v, rfl, ho, hb⟩
      obtain ⟨ar, cr, rfl, hcr, hrr, -⟩ := ho.row
      rw [h1]
      (try rw [unhide H8])
      (try clear x0c x1c x2c x3c x4c x5c)
      replace HB := hide (below_tr (unhide HB) hb)
      replace HRR := hide ((unhide HRR).bel hb)
      replace HX := hide ((unhide HX).bel hb)
      have HW := hide (hrr)
      clear hb ho hrr
      have x0c := (unhide HX).cell 0 rfl
      have x1c := (unhide HX).cell 1 rfl
      have x2c := (unhide HX).cell 2 rfl
      have x3c := (unhide HX).cell 3 rfl
      have x4c := (unhide HX).cell 4 rfl
      have x5c := (unhide HX).cell 5 rfl
      go_wp2_with fail
      refine (c24 pu a1 pu.length k1 _ rfl (by have := (unhide HSM).2.1; dsimp only at this; omega) (unhide HRR).2.1).mono ?_
      rintro e w2 ⟨rfl, hww⟩
      have hww := hww.symm
      subst hww
      rw [h2]
      go_wp2_with fail
      go_ret
      exact ⟨ret_bool (unhide HU).symm, unhide HB⟩
  by_cases hd8 : (8 : Int) < (ds.length : Int)
  case pos =>
    as_aux_lemma =>
      have HU := hide (mo_4 (h := ⟨es, pu, ds, cl, nu, sa⟩) (deals_many hd8))
      have x0c := (unhide HX).cell 0 rfl
      have x1c := (unhide HX).cell 1 rfl
      have x2c := (unhide HX).cell 2 rfl
      have x3c := (unhide HX).cell 3 rfl
      have x4c := (unhide HX).cell 4 rfl
      have x5c := (unhide HX).cell 5 rfl
      go_enter Try.func33, Try.ntmps33
      go_wp2_with fail
      refine (c121 es a0 es.length k0 _ rfl (unhide HSM).1 (unhide HRR).1).mono ?_
      rintro e w1 ⟨v, rfl, ho, hb⟩
      obtain ⟨ar, cr, rfl, hcr, hrr, -⟩ := ho.row
      rw [h1]
      (try rw [unhide H8])
      (try clear x0c x1c x2c x3c x4c x5c)
      replace HB := hide (below_tr (unhide HB) hb)
      replace HRR := hide ((unhide HRR).bel hb)
      replace HX := hide ((unhide HX).bel hb)
      have HW := hide (hrr)
      clear hb ho hrr
      have x0c := (unhide HX).cell 0 rfl
      have x1c := (unhide HX).cell 1 rfl
      have x2c := (unhide HX).cell 2 rfl
      have x3c := (unhide HX).cell 3 rfl
      have x4c := (unhide HX).cell 4 rfl
      have x5c := (unhide HX).cell 5 rfl
      go_wp2_with fail
      refine (c24 pu a1 pu.length k1 _ rfl (by have := (unhide HSM).2.1; dsimp only at this; omega) (unhide HRR).2.1).mono ?_
      rintro e w2 ⟨rfl, hww⟩
      have hww := hww.symm
      subst hww
      rw [h2]
      go_wp2_with fail
      go_ret
      exact ⟨ret_bool (unhide HU).symm, unhide HB⟩
  rcases h3 : decide (0 ≤ cl ∧ cl ≤ 99999) with _ | _
  case false =>
    as_aux_lemma =>
      have HU := hide (mo_3 (h := ⟨es, pu, ds, cl, nu, sa⟩) h3)
      have x0c := (unhide HX).cell 0 rfl
      have x1c := (unhide HX).cell 1 rfl
      have x2c := (unhide HX).cell 2 rfl
      have x3c := (unhide HX).cell 3 rfl
      have x4c := (unhide HX).cell 4 rfl
      have x5c := (unhide HX).cell 5 rfl
      go_enter Try.func33, Try.ntmps33
      go_wp2_with fail
      refine (c121 es a0 es.length k0 _ rfl (unhide HSM).1 (unhide HRR).1).mono ?_
      rintro e w1 ⟨v, rfl, ho, hb⟩
      obtain ⟨ar, cr, rfl, hcr, hrr, -⟩ := ho.row
      rw [h1]
      (try rw [unhide H8])
      (try clear x0c x1c x2c x3c x4c x5c)
      replace HB := hide (below_tr (unhide HB) hb)
      replace HRR := hide ((unhide HRR).bel hb)
      replace HX := hide ((unhide HX).bel hb)
      have HW := hide (hrr)
      clear hb ho hrr
      have x0c := (unhide HX).cell 0 rfl
      have x1c := (unhide HX).cell 1 rfl
      have x2c := (unhide HX).cell 2 rfl
      have x3c := (unhide HX).cell 3 rfl
      have x4c := (unhide HX).cell 4 rfl
      have x5c := (unhide HX).cell 5 rfl
      go_wp2_with fail
      refine (c24 pu a1 pu.length k1 _ rfl (by have := (unhide HSM).2.1; dsimp only at this; omega) (unhide HRR).2.1).mono ?_
      rintro e w2 ⟨rfl, hww⟩
      have hww := hww.symm
      subst hww
      rw [h2]
      go_wp2_with fail
      refine (c109 cl 0 99999 _).mono ?_
      rintro e w3 ⟨rfl, hww⟩
      have hww := hww.symm
      subst hww
      rw [h3]
      go_wp2_with fail
      go_ret
      exact ⟨ret_bool (unhide HU).symm, unhide HB⟩
  have HCL : Hid (0 ≤ cl ∧ cl ≤ 99999) := by unfold Hid; simpa using h3
  by_cases hn5 : nu.length = 5
  case neg =>
    as_aux_lemma =>
      have HU := hide (mo_5 (h := ⟨es, pu, ds, cl, nu, sa⟩) (nums_len1 (sa := sa) hn5))
      have hb1 : ((nu.length : Int) != 5) = true := by rw [bne_iff_ne]; omega
      clear hn5
      have x0c := (unhide HX).cell 0 rfl
      have x1c := (unhide HX).cell 1 rfl
      have x2c := (unhide HX).cell 2 rfl
      have x3c := (unhide HX).cell 3 rfl
      have x4c := (unhide HX).cell 4 rfl
      have x5c := (unhide HX).cell 5 rfl
      go_enter Try.func33, Try.ntmps33
      go_wp2_with fail
      refine (c121 es a0 es.length k0 _ rfl (unhide HSM).1 (unhide HRR).1).mono ?_
      rintro e w1 ⟨v, rfl, ho, hb⟩
      obtain ⟨ar, cr, rfl, hcr, hrr, -⟩ := ho.row
      rw [h1]
      (try rw [unhide H8])
      (try clear x0c x1c x2c x3c x4c x5c)
      replace HB := hide (below_tr (unhide HB) hb)
      replace HRR := hide ((unhide HRR).bel hb)
      replace HX := hide ((unhide HX).bel hb)
      have HW := hide (hrr)
      clear hb ho hrr
      have x0c := (unhide HX).cell 0 rfl
      have x1c := (unhide HX).cell 1 rfl
      have x2c := (unhide HX).cell 2 rfl
      have x3c := (unhide HX).cell 3 rfl
      have x4c := (unhide HX).cell 4 rfl
      have x5c := (unhide HX).cell 5 rfl
      go_wp2_with fail
      refine (c24 pu a1 pu.length k1 _ rfl (by have := (unhide HSM).2.1; dsimp only at this; omega) (unhide HRR).2.1).mono ?_
      rintro e w2 ⟨rfl, hww⟩
      have hww := hww.symm
      subst hww
      rw [h2]
      go_wp2_with fail
      refine (c109 cl 0 99999 _).mono ?_
      rintro e w3 ⟨rfl, hww⟩
      have hww := hww.symm
      subst hww
      rw [h3]
      go_wp2_with fail
      go_ret
      exact ⟨ret_bool (unhide HU).symm, unhide HB⟩
  have hb1 : ((nu.length : Int) != 5) = false := by rw [bne_eq_false_iff_eq]; omega
  by_cases hs5 : sa.length = 5
  case neg =>
    as_aux_lemma =>
      have HU := hide (mo_5 (h := ⟨es, pu, ds, cl, nu, sa⟩) (nums_len2 (nu := nu) hs5))
      have hb2 : ((sa.length : Int) != 5) = true := by rw [bne_iff_ne]; omega
      clear hn5 hs5
      have x0c := (unhide HX).cell 0 rfl
      have x1c := (unhide HX).cell 1 rfl
      have x2c := (unhide HX).cell 2 rfl
      have x3c := (unhide HX).cell 3 rfl
      have x4c := (unhide HX).cell 4 rfl
      have x5c := (unhide HX).cell 5 rfl
      go_enter Try.func33, Try.ntmps33
      go_wp2_with fail
      refine (c121 es a0 es.length k0 _ rfl (unhide HSM).1 (unhide HRR).1).mono ?_
      rintro e w1 ⟨v, rfl, ho, hb⟩
      obtain ⟨ar, cr, rfl, hcr, hrr, -⟩ := ho.row
      rw [h1]
      (try rw [unhide H8])
      (try clear x0c x1c x2c x3c x4c x5c)
      replace HB := hide (below_tr (unhide HB) hb)
      replace HRR := hide ((unhide HRR).bel hb)
      replace HX := hide ((unhide HX).bel hb)
      have HW := hide (hrr)
      clear hb ho hrr
      have x0c := (unhide HX).cell 0 rfl
      have x1c := (unhide HX).cell 1 rfl
      have x2c := (unhide HX).cell 2 rfl
      have x3c := (unhide HX).cell 3 rfl
      have x4c := (unhide HX).cell 4 rfl
      have x5c := (unhide HX).cell 5 rfl
      go_wp2_with fail
      refine (c24 pu a1 pu.length k1 _ rfl (by have := (unhide HSM).2.1; dsimp only at this; omega) (unhide HRR).2.1).mono ?_
      rintro e w2 ⟨rfl, hww⟩
      have hww := hww.symm
      subst hww
      rw [h2]
      go_wp2_with fail
      refine (c109 cl 0 99999 _).mono ?_
      rintro e w3 ⟨rfl, hww⟩
      have hww := hww.symm
      subst hww
      rw [h3]
      go_wp2_with fail
      go_ret
      exact ⟨ret_bool (unhide HU).symm, unhide HB⟩
  have hb2 : ((sa.length : Int) != 5) = false := by rw [bne_eq_false_iff_eq]; omega
  have HL1 := hide hn5
  have HL2 := hide hs5
  have HD8 : Hid (ds.length ≤ 8) := by unfold Hid; omega
  clear hn5 hs5
  have x0c := (unhide HX).cell 0 rfl
  have x1c := (unhide HX).cell 1 rfl
  have x2c := (unhide HX).cell 2 rfl
  have x3c := (unhide HX).cell 3 rfl
  have x4c := (unhide HX).cell 4 rfl
  have x5c := (unhide HX).cell 5 rfl
  go_enter Try.func33, Try.ntmps33
  go_wp2_with fail
  refine (c121 es a0 es.length k0 _ rfl (unhide HSM).1 (unhide HRR).1).mono ?_
  rintro e w1 ⟨v, rfl, ho, hb⟩
  obtain ⟨ar, cr, rfl, hcr, hrr, -⟩ := ho.row
  rw [h1]
  (try rw [unhide H8])
  (try clear x0c x1c x2c x3c x4c x5c)
  replace HB := hide (below_tr (unhide HB) hb)
  replace HRR := hide ((unhide HRR).bel hb)
  replace HX := hide ((unhide HX).bel hb)
  have HW := hide (hrr)
  clear hb ho hrr
  have x0c := (unhide HX).cell 0 rfl
  have x1c := (unhide HX).cell 1 rfl
  have x2c := (unhide HX).cell 2 rfl
  have x3c := (unhide HX).cell 3 rfl
  have x4c := (unhide HX).cell 4 rfl
  have x5c := (unhide HX).cell 5 rfl
  go_wp2_with fail
  refine (c24 pu a1 pu.length k1 _ rfl (by have := (unhide HSM).2.1; dsimp only at this; omega) (unhide HRR).2.1).mono ?_
  rintro e w2 ⟨rfl, hww⟩
  have hww := hww.symm
  subst hww
  rw [h2]
  go_wp2_with fail
  refine (c109 cl 0 99999 _).mono ?_
  rintro e w3 ⟨rfl, hww⟩
  have hww := hww.symm
  subst hww
  rw [h3]
  go_wp2_with fail
  (try clear x0c x1c x2c x3c x4c x5c)
  have H3 := hide h3
  have H2 := hide h2
  have H1 := hide h1
  clear h1 h2 h3
  go_loopw [5] (fun i wr => ∃ k : Nat, k ≤ ds.length ∧ i = .int .i64 k ∧ dealsFrom (foldRows es) cl (-1) ds = dealsFrom (foldRows es) cl (dLast ds k) (ds.drop k) ∧ BelowOf w1 wr) (fun i _ => ds.length - (intOf i).toNat)
  case atStart => exact ⟨0, Nat.zero_le _, rfl, rfl, Below.refl _ _⟩
  case round =>
    obtain ⟨k, hk, rfl, hw, hbw⟩ := hrel
    have hb := hbw
    unfold BelowOf at hb
    have HBW := hide hbw
    clear hbw
    replace HB := hide (below_tr (unhide HB) hb)
    replace HRR := hide ((unhide HRR).bel hb)
    replace HX := hide ((unhide HX).bel hb)
    replace HW := hide ((unhide HW).bel hb)
    clear hb
    obtain ⟨WA, hWA⟩ : ∃ A : World, A = wr := ⟨_, rfl⟩
    subst hWA
    by_cases hlt : k < ds.length
    case neg =>
      as_aux_lemma =>
        obtain rfl : k = ds.length := by omega
        rw [List.drop_length] at hw
        have HDT : Hid (dealsFrom (foldRows es) cl (-1) ds = true) := hw
        clear hw HBW
        have x0c := (unhide HX).cell 0 rfl
        have x1c := (unhide HX).cell 1 rfl
        have x2c := (unhide HX).cell 2 rfl
        have x3c := (unhide HX).cell 3 rfl
        have x4c := (unhide HX).cell 4 rfl
        have x5c := (unhide HX).cell 5 rfl
        go_wp2_with fail
        (try clear x0c x1c x2c x3c x4c x5c)
        go_loopw [7] (fun i wq => ∃ k : Nat, k ≤ 5 ∧ i = .int .i64 k ∧ numsTo nu sa k = true ∧ BelowOf WA wq) (fun i _ => 5 - (intOf i).toNat)
        case atStart => exact ⟨0, Nat.zero_le _, rfl, rfl, Below.refl _ _⟩
        case round =>
          obtain ⟨k, hk5, rfl, hnt, hbw⟩ := hrel
          have hb := hbw
          unfold BelowOf at hb
          have HBV := hide hbw
          clear hbw
          replace HB := hide (below_tr (unhide HB) hb)
          replace HRR := hide ((unhide HRR).bel hb)
          replace HX := hide ((unhide HX).bel hb)
          replace HW := hide ((unhide HW).bel hb)
          clear hb
          obtain ⟨WC, hWC⟩ : ∃ A : World, A = wr := ⟨_, rfl⟩
          subst hWC
          by_cases hlt5 : k < 5
          case neg =>
            as_aux_lemma =>
              obtain rfl : k = 5 := by omega
              have h5 := nums_all (unhide HL1) (unhide HL2) hnt
              have HV := hide (mo_6 (h := ⟨es, pu, ds, cl, nu, sa⟩) (unhide H1) (unhide H2) (unhide H3) (unhide HDT) h5)
              have HPR := hide (deals_prices _ _ (unhide HDT))
              have hb1' := mon_bd (unhide H2)
              have hb2' := held_bd (unhide HPR) ds.length (Nat.le_refl _)
              rw [List.take_length] at hb2'
              have hd8 := unhide HD8
              dsimp only at HV
              generalize hm1 : monSum pu = m1 at *
              generalize hm2 : heldSum ds = m2 at *
              have HM1 := hide hm1
              have HM2 := hide hm2
              have hwr : IntKind.i64.wrap (m1 + m2) = m1 + m2 := wrap_sub (by omega) (by omega)
              obtain ⟨z, HZ⟩ : ∃ z, Hid (decide (m1 + m2 ≤ 100000) = z) := ⟨_, rfl⟩
              have HU : Hid (_ = z) := (unhide HV).trans (unhide HZ)
              have hge : ¬ (((5 : Nat) : Int) < 5) := by omega
              clear hm1 hm2 h5 hb1' hb2' hd8 hnt HBV
              by_cases h6 : m1 + m2 ≤ 100000
              case pos =>
                have hzz : z = true := by rw [← unhide HZ]; exact decide_eq_true h6
                have hd6 : decide (m1 + m2 ≤ 100000) = true := decide_eq_true h6
                subst hzz
                have x0c := (unhide HX).cell 0 rfl
                have x1c := (unhide HX).cell 1 rfl
                have x2c := (unhide HX).cell 2 rfl
                have x3c := (unhide HX).cell 3 rfl
                have x4c := (unhide HX).cell 4 rfl
                have x5c := (unhide HX).cell 5 rfl
                go_wp2_with fail
                (try clear x0c x1c x2c x3c x4c x5c)
                refine wp_region_held_drew (S := fun w' => Below WC.heap.size WC w') (by kernel_rfl) (below_drew WC) (fun hHeld => ?_)
                refine tk 0 (some 187) (v := ?_) ?_ ?_
                rotate_left
                · intro w hSw
                  first | (go_simp; done) | (go_simp; with_reducible rfl) | with_reducible rfl | rfl
                try simp only [Act.put, List.setIfInBounds_toArray, List.set_cons_zero, List.set_cons_succ]
                refine tk 1 (some 188) (v := ?_) ?_ ?_
                rotate_left
                · intro w hSw
                  have hT := (unhide HX).below hSw; have x0c := hT.cell 0 rfl; have x1c := hT.cell 1 rfl; have x2c := hT.cell 2 rfl; have x3c := hT.cell 3 rfl; have x4c := hT.cell 4 rfl; have x5c := hT.cell 5 rfl
                  first | (go_simp; done) | (go_simp; with_reducible rfl) | with_reducible rfl | rfl
                try simp only [Act.put, List.setIfInBounds_toArray, List.set_cons_zero, List.set_cons_succ]
                refine tk 3 (some 190) (v := ?_) ?_ ?_
                rotate_left
                · intro w hSw
                  have hT := (unhide HX).below hSw; have x0c := hT.cell 0 rfl; have x1c := hT.cell 1 rfl; have x2c := hT.cell 2 rfl; have x3c := hT.cell 3 rfl; have x4c := hT.cell 4 rfl; have x5c := hT.cell 5 rfl
                  first | (go_simp; done) | (go_simp; with_reducible rfl) | with_reducible rfl | rfl
                try simp only [Act.put, List.setIfInBounds_toArray, List.set_cons_zero, List.set_cons_succ]
                have HD := below_drew WC
                generalize WC.drew = V0 at *
                refine wpAnyH_ready (rs := [2]) (by kernel_rfl) (by simp) ?_
                refine AllReadyH.cons (o := { dst := some 189, op := _, type := _, pos := _, after := _, guard := _ }) rfl (fun K hK => ?_) AllReadyH.nil
                go_simp
                go_at_call 108
                refine (c108 pu a1 pu.length k1 _ rfl (by have := (unhide HSM).2.1; dsimp only at this; omega) ((unhide HRR).bel HD).2.1).mono ?_
                rintro e V1 ⟨rfl, hww⟩
                have hww := hww.symm
                subst hww
                rw [unhide HM1]
                try go_wp2_with fail
                refine hK.out _ _ HD (fun hHeld => ?_)
                clear hK K hHeld
                try simp only [Act.put, List.setIfInBounds_toArray, List.set_cons_zero, List.set_cons_succ]
                refine wpAnyH_ready (rs := [4]) (by kernel_rfl) (by simp) ?_
                refine AllReadyH.cons (o := { dst := some 191, op := _, type := _, pos := _, after := _, guard := _ }) rfl (fun K hK => ?_) AllReadyH.nil
                go_simp
                go_at_call 50
                refine (c50 ⟨es, pu, ds, cl, nu, sa⟩ ⟨a0, k0, a1, k1, a2, k2, a4, k4, a5, k5⟩ _ (unhide HD8) (unhide HPR) ((unhide HRR).bel HD)).mono ?_
                rintro e V2 ⟨rfl, hb⟩
                replace HD := below_then HD hb
                clear hb
                dsimp only
                rw [unhide HM2]
                try go_wp2_with fail
                refine hK.out _ _ HD (fun hHeld => ?_)
                clear hK K hHeld
                try simp only [Act.put, List.setIfInBounds_toArray, List.set_cons_zero, List.set_cons_succ]
                refine tk 5 (some 192) (v := ?_) ?_ ?_
                rotate_left
                · intro w hSw
                  first | (go_simp; done) | (go_simp; with_reducible rfl) | with_reducible rfl | rfl
                try simp only [Act.put, List.setIfInBounds_toArray, List.set_cons_zero, List.set_cons_succ]
                refine tk 6 (some 193) (v := ?_) ?_ ?_
                rotate_left
                · intro w hSw
                  first | (go_simp; done) | (go_simp; with_reducible rfl) | with_reducible rfl | rfl
                try simp only [Act.put, List.setIfInBounds_toArray, List.set_cons_zero, List.set_cons_succ]
                refine tk 7 (some 2) (v := ?_) ?_ ?_
                rotate_left
                · intro w hSw
                  first | (go_simp; done) | (go_simp; with_reducible rfl) | with_reducible rfl | rfl
                try simp only [Act.put, List.setIfInBounds_toArray, List.set_cons_zero, List.set_cons_succ]
                refine wpAnyH_done (by kernel_rfl) ?_ _
                replace HB := hide (below_tr (unhide HB) HD)
                replace HRR := hide ((unhide HRR).bel HD)
                replace HX := hide ((unhide HX).bel HD)
                replace HW := hide ((unhide HW).bel HD)
                clear HD 
                have x0c := (unhide HX).cell 0 rfl
                have x1c := (unhide HX).cell 1 rfl
                have x2c := (unhide HX).cell 2 rfl
                have x3c := (unhide HX).cell 3 rfl
                have x4c := (unhide HX).cell 4 rfl
                have x5c := (unhide HX).cell 5 rfl
                go_wp2_with fail
                go_ret
                exact ⟨ret_bool (unhide HU).symm, unhide HB⟩
              have hzz : z = false := by rw [← unhide HZ]; exact decide_eq_false h6
              have hd6 : decide (m1 + m2 ≤ 100000) = false := decide_eq_false h6
              subst hzz
              have x0c := (unhide HX).cell 0 rfl
              have x1c := (unhide HX).cell 1 rfl
              have x2c := (unhide HX).cell 2 rfl
              have x3c := (unhide HX).cell 3 rfl
              have x4c := (unhide HX).cell 4 rfl
              have x5c := (unhide HX).cell 5 rfl
              go_wp2_with fail
              (try clear x0c x1c x2c x3c x4c x5c)
              refine wp_region_held_drew (S := fun w' => Below WC.heap.size WC w') (by kernel_rfl) (below_drew WC) (fun hHeld => ?_)
              refine tk 0 (some 187) (v := ?_) ?_ ?_
              rotate_left
              · intro w hSw
                first | (go_simp; done) | (go_simp; with_reducible rfl) | with_reducible rfl | rfl
              try simp only [Act.put, List.setIfInBounds_toArray, List.set_cons_zero, List.set_cons_succ]
              refine tk 1 (some 188) (v := ?_) ?_ ?_
              rotate_left
              · intro w hSw
                have hT := (unhide HX).below hSw; have x0c := hT.cell 0 rfl; have x1c := hT.cell 1 rfl; have x2c := hT.cell 2 rfl; have x3c := hT.cell 3 rfl; have x4c := hT.cell 4 rfl; have x5c := hT.cell 5 rfl
                first | (go_simp; done) | (go_simp; with_reducible rfl) | with_reducible rfl | rfl
              try simp only [Act.put, List.setIfInBounds_toArray, List.set_cons_zero, List.set_cons_succ]
              refine tk 3 (some 190) (v := ?_) ?_ ?_
              rotate_left
              · intro w hSw
                have hT := (unhide HX).below hSw; have x0c := hT.cell 0 rfl; have x1c := hT.cell 1 rfl; have x2c := hT.cell 2 rfl; have x3c := hT.cell 3 rfl; have x4c := hT.cell 4 rfl; have x5c := hT.cell 5 rfl
                first | (go_simp; done) | (go_simp; with_reducible rfl) | with_reducible rfl | rfl
              try simp only [Act.put, List.setIfInBounds_toArray, List.set_cons_zero, List.set_cons_succ]
              have HD := below_drew WC
              generalize WC.drew = V0 at *
              refine wpAnyH_ready (rs := [2]) (by kernel_rfl) (by simp) ?_
              refine AllReadyH.cons (o := { dst := some 189, op := _, type := _, pos := _, after := _, guard := _ }) rfl (fun K hK => ?_) AllReadyH.nil
              go_simp
              go_at_call 108
              refine (c108 pu a1 pu.length k1 _ rfl (by have := (unhide HSM).2.1; dsimp only at this; omega) ((unhide HRR).bel HD).2.1).mono ?_
              rintro e V1 ⟨rfl, hww⟩
              have hww := hww.symm
              subst hww
              rw [unhide HM1]
              try go_wp2_with fail
              refine hK.out _ _ HD (fun hHeld => ?_)
              clear hK K hHeld
              try simp only [Act.put, List.setIfInBounds_toArray, List.set_cons_zero, List.set_cons_succ]
              refine wpAnyH_ready (rs := [4]) (by kernel_rfl) (by simp) ?_
              refine AllReadyH.cons (o := { dst := some 191, op := _, type := _, pos := _, after := _, guard := _ }) rfl (fun K hK => ?_) AllReadyH.nil
              go_simp
              go_at_call 50
              refine (c50 ⟨es, pu, ds, cl, nu, sa⟩ ⟨a0, k0, a1, k1, a2, k2, a4, k4, a5, k5⟩ _ (unhide HD8) (unhide HPR) ((unhide HRR).bel HD)).mono ?_
              rintro e V2 ⟨rfl, hb⟩
              replace HD := below_then HD hb
              clear hb
              dsimp only
              rw [unhide HM2]
              try go_wp2_with fail
              refine hK.out _ _ HD (fun hHeld => ?_)
              clear hK K hHeld
              try simp only [Act.put, List.setIfInBounds_toArray, List.set_cons_zero, List.set_cons_succ]
              refine tk 5 (some 192) (v := ?_) ?_ ?_
              rotate_left
              · intro w hSw
                first | (go_simp; done) | (go_simp; with_reducible rfl) | with_reducible rfl | rfl
              try simp only [Act.put, List.setIfInBounds_toArray, List.set_cons_zero, List.set_cons_succ]
              refine tk 6 (some 193) (v := ?_) ?_ ?_
              rotate_left
              · intro w hSw
                first | (go_simp; done) | (go_simp; with_reducible rfl) | with_reducible rfl | rfl
              try simp only [Act.put, List.setIfInBounds_toArray, List.set_cons_zero, List.set_cons_succ]
              refine tk 7 (some 2) (v := ?_) ?_ ?_
              rotate_left
              · intro w hSw
                first | (go_simp; done) | (go_simp; with_reducible rfl) | with_reducible rfl | rfl
              try simp only [Act.put, List.setIfInBounds_toArray, List.set_cons_zero, List.set_cons_succ]
              refine wpAnyH_done (by kernel_rfl) ?_ _
              replace HB := hide (below_tr (unhide HB) HD)
              replace HRR := hide ((unhide HRR).bel HD)
              replace HX := hide ((unhide HX).bel HD)
              replace HW := hide ((unhide HW).bel HD)
              clear HD 
              have x0c := (unhide HX).cell 0 rfl
              have x1c := (unhide HX).cell 1 rfl
              have x2c := (unhide HX).cell 2 rfl
              have x3c := (unhide HX).cell 3 rfl
              have x4c := (unhide HX).cell 4 rfl
              have x5c := (unhide HX).cell 5 rfl
              go_wp2_with fail
              go_ret
              exact ⟨ret_bool (unhide HU).symm, unhide HB⟩
          as_aux_lemma =>
            have e0 : (0 : Int) ≤ (k : Int) := by omega
            have e1 : (k : Int) < (nu.length : Int) := by have := unhide HL1; omega
            have e2 : (k : Int) < (sa.length : Int) := by have := unhide HL2; omega
            have e3 : (k : Int) < 5 := by omega
            obtain ⟨x, hn⟩ := i_at (show k < nu.length by omega)
            obtain ⟨y, hs⟩ := i_at (show k < sa.length by omega)
            obtain ⟨b, off, rfl, hc, -, -⟩ := (unhide HRR).2.2.2.1.get hn
            obtain ⟨b', off', rfl, hc', -, -⟩ := (unhide HRR).2.2.2.2.get hs
            have HNB := hide (fun h => mo_5 (h := ⟨es, pu, ds, cl, nu, sa⟩) (nums_bad (nu := nu) (sa := sa) hlt5 h))
            have HNS := hide (numsTo_succ nu sa k)
            rw [getD_of hn, getD_of hs, hnt] at HNS
            rw [getD_of hn, getD_of hs] at HNB
            have HCN := hide hc
            have HCS := hide hc'
            clear hn hs hnt hc hc'
            have x0c := (unhide HX).cell 0 rfl
            have x1c := (unhide HX).cell 1 rfl
            have x2c := (unhide HX).cell 2 rfl
            have x3c := (unhide HX).cell 3 rfl
            have x4c := (unhide HX).cell 4 rfl
            have x5c := (unhide HX).cell 5 rfl
            go_wp2_with fail
            (try clear x0c x1c x2c x3c x4c x5c)
            refine wp_region_held_drew (S := fun w' => Below WC.heap.size WC w') (by kernel_rfl) (below_drew WC) (fun hHeld => ?_)
            refine tk 0 (some 156) (v := ?_) ?_ ?_
            rotate_left
            · intro w hSw
              first | (go_simp; done) | (go_simp; with_reducible rfl) | with_reducible rfl | rfl
            try simp only [Act.put, List.setIfInBounds_toArray, List.set_cons_zero, List.set_cons_succ]
            refine tk 1 (some 157) (v := ?_) ?_ ?_
            rotate_left
            · intro w hSw
              have hT := (unhide HX).below hSw; have x0c := hT.cell 0 rfl; have x1c := hT.cell 1 rfl; have x2c := hT.cell 2 rfl; have x3c := hT.cell 3 rfl; have x4c := hT.cell 4 rfl; have x5c := hT.cell 5 rfl
              first | (go_simp; done) | (go_simp; with_reducible rfl) | with_reducible rfl | rfl
            try simp only [Act.put, List.setIfInBounds_toArray, List.set_cons_zero, List.set_cons_succ]
            refine tk 2 (some 158) (v := ?_) ?_ ?_
            rotate_left
            · intro w hSw
              first | (go_simp; done) | (go_simp; with_reducible rfl) | with_reducible rfl | rfl
            try simp only [Act.put, List.setIfInBounds_toArray, List.set_cons_zero, List.set_cons_succ]
            refine tk 3 (some 159) (v := ?_) ?_ ?_
            rotate_left
            · intro w hSw
              first | (go_simp; done) | (go_simp; with_reducible rfl) | with_reducible rfl | rfl
            try simp only [Act.put, List.setIfInBounds_toArray, List.set_cons_zero, List.set_cons_succ]
            refine tk 4 (some 160) (v := ?_) ?_ ?_
            rotate_left
            · intro w hSw
              have hc := cell_bl hSw (unhide HCN)
              first | (go_simp; done) | (go_simp; with_reducible rfl) | with_reducible rfl | rfl
            try simp only [Act.put, List.setIfInBounds_toArray, List.set_cons_zero, List.set_cons_succ]
            rcases hp : decide (0 ≤ x ∧ x ≤ 99999) with _ | _
            case false =>
              have HD := below_drew WC
              generalize WC.drew = V0 at *
              refine wpAnyH_ready (rs := [5]) (by kernel_rfl) (by simp) ?_
              refine AllReadyH.cons (o := { dst := some 161, op := _, type := _, pos := _, after := _, guard := _ }) rfl (fun K hK => ?_) AllReadyH.nil
              go_simp
              go_at_call 109
              refine (l1b (hp) _).mono ?_
              rintro e V1 ⟨rfl, hww⟩
              have hww := hww.symm
              subst hww
              try go_wp2_with fail
              refine hK.out _ _ HD (fun hHeld => ?_)
              clear hK K hHeld
              try simp only [Act.put, List.setIfInBounds_toArray, List.set_cons_zero, List.set_cons_succ]
              refine tk 6 (some 162) (v := ?_) ?_ ?_
              rotate_left
              · intro w hSw
                first | (go_simp; done) | (go_simp; with_reducible rfl) | with_reducible rfl | rfl
              try simp only [Act.put, List.setIfInBounds_toArray, List.set_cons_zero, List.set_cons_succ]
              refine tk 7 (some 163) (v := ?_) ?_ ?_
              rotate_left
              · intro w hSw
                first | (go_simp; done) | (go_simp; with_reducible rfl) | with_reducible rfl | rfl
              try simp only [Act.put, List.setIfInBounds_toArray, List.set_cons_zero, List.set_cons_succ]
              refine sk 8 (some 164) ?_
              try simp only [Act.put, List.setIfInBounds_toArray, List.set_cons_zero, List.set_cons_succ]
              refine sk 9 (some 165) ?_
              try simp only [Act.put, List.setIfInBounds_toArray, List.set_cons_zero, List.set_cons_succ]
              refine sk 10 (some 166) ?_
              try simp only [Act.put, List.setIfInBounds_toArray, List.set_cons_zero, List.set_cons_succ]
              refine sk 11 (some 167) ?_
              try simp only [Act.put, List.setIfInBounds_toArray, List.set_cons_zero, List.set_cons_succ]
              refine sk 12 (some 168) ?_
              try simp only [Act.put, List.setIfInBounds_toArray, List.set_cons_zero, List.set_cons_succ]
              refine sk 13 (some 169) ?_
              try simp only [Act.put, List.setIfInBounds_toArray, List.set_cons_zero, List.set_cons_succ]
              refine sk 14 (some 170) ?_
              try simp only [Act.put, List.setIfInBounds_toArray, List.set_cons_zero, List.set_cons_succ]
              refine tk 15 (some 171) (v := ?_) ?_ ?_
              rotate_left
              · intro w hSw
                first | (go_simp; done) | (go_simp; with_reducible rfl) | with_reducible rfl | rfl
              try simp only [Act.put, List.setIfInBounds_toArray, List.set_cons_zero, List.set_cons_succ]
              refine tk 16 (some 172) (v := ?_) ?_ ?_
              rotate_left
              · intro w hSw
                first | (go_simp; done) | (go_simp; with_reducible rfl) | with_reducible rfl | rfl
              try simp only [Act.put, List.setIfInBounds_toArray, List.set_cons_zero, List.set_cons_succ]
              refine sk 17 (some 173) ?_
              try simp only [Act.put, List.setIfInBounds_toArray, List.set_cons_zero, List.set_cons_succ]
              refine sk 18 (some 174) ?_
              try simp only [Act.put, List.setIfInBounds_toArray, List.set_cons_zero, List.set_cons_succ]
              refine sk 19 (some 175) ?_
              try simp only [Act.put, List.setIfInBounds_toArray, List.set_cons_zero, List.set_cons_succ]
              refine sk 20 (some 176) ?_
              try simp only [Act.put, List.setIfInBounds_toArray, List.set_cons_zero, List.set_cons_succ]
              refine sk 21 (some 177) ?_
              try simp only [Act.put, List.setIfInBounds_toArray, List.set_cons_zero, List.set_cons_succ]
              refine sk 22 (some 178) ?_
              try simp only [Act.put, List.setIfInBounds_toArray, List.set_cons_zero, List.set_cons_succ]
              refine sk 23 (some 179) ?_
              try simp only [Act.put, List.setIfInBounds_toArray, List.set_cons_zero, List.set_cons_succ]
              refine sk 24 (some 180) ?_
              try simp only [Act.put, List.setIfInBounds_toArray, List.set_cons_zero, List.set_cons_succ]
              refine sk 25 (some 181) ?_
              try simp only [Act.put, List.setIfInBounds_toArray, List.set_cons_zero, List.set_cons_succ]
              refine sk 26 (some 182) ?_
              try simp only [Act.put, List.setIfInBounds_toArray, List.set_cons_zero, List.set_cons_succ]
              refine sk 27 (some 183) ?_
              try simp only [Act.put, List.setIfInBounds_toArray, List.set_cons_zero, List.set_cons_succ]
              refine sk 28 (some 184) ?_
              try simp only [Act.put, List.setIfInBounds_toArray, List.set_cons_zero, List.set_cons_succ]
              refine sk 29 (some 185) ?_
              try simp only [Act.put, List.setIfInBounds_toArray, List.set_cons_zero, List.set_cons_succ]
              refine tk 30 (some 186) (v := ?_) ?_ ?_
              rotate_left
              · intro w hSw
                first | (go_simp; done) | (go_simp; with_reducible rfl) | with_reducible rfl | rfl
              try simp only [Act.put, List.setIfInBounds_toArray, List.set_cons_zero, List.set_cons_succ]
              refine wpAnyH_done (by kernel_rfl) ?_ _
              replace HB := hide (below_tr (unhide HB) HD)
              replace HRR := hide ((unhide HRR).bel HD)
              replace HX := hide ((unhide HX).bel HD)
              replace HW := hide ((unhide HW).bel HD)
              replace HBV := hide ((unhide HBV).bel HD)
              clear HD 
              have x0c := (unhide HX).cell 0 rfl
              have x1c := (unhide HX).cell 1 rfl
              have x2c := (unhide HX).cell 2 rfl
              have x3c := (unhide HX).cell 3 rfl
              have x4c := (unhide HX).cell 4 rfl
              have x5c := (unhide HX).cell 5 rfl
              have HU := hide (unhide HNB (na_1 hp))
              go_wp2_with fail
              go_ret
              exact ⟨ret_bool (unhide HU).symm, unhide HB⟩
            have HD := below_drew WC
            generalize WC.drew = V0 at *
            refine wpAnyH_ready (rs := [5]) (by kernel_rfl) (by simp) ?_
            refine AllReadyH.cons (o := { dst := some 161, op := _, type := _, pos := _, after := _, guard := _ }) rfl (fun K hK => ?_) AllReadyH.nil
            go_simp
            go_at_call 109
            refine (l1b (hp) _).mono ?_
            rintro e V1 ⟨rfl, hww⟩
            have hww := hww.symm
            subst hww
            try go_wp2_with fail
            refine hK.out _ _ HD (fun hHeld => ?_)
            clear hK K hHeld
            try simp only [Act.put, List.setIfInBounds_toArray, List.set_cons_zero, List.set_cons_succ]
            refine tk 6 (some 162) (v := ?_) ?_ ?_
            rotate_left
            · intro w hSw
              first | (go_simp; done) | (go_simp; with_reducible rfl) | with_reducible rfl | rfl
            try simp only [Act.put, List.setIfInBounds_toArray, List.set_cons_zero, List.set_cons_succ]
            refine tk 7 (some 163) (v := ?_) ?_ ?_
            rotate_left
            · intro w hSw
              first | (go_simp; done) | (go_simp; with_reducible rfl) | with_reducible rfl | rfl
            try simp only [Act.put, List.setIfInBounds_toArray, List.set_cons_zero, List.set_cons_succ]
            refine tk 8 (some 164) (v := ?_) ?_ ?_
            rotate_left
            · intro w hSw
              first | (go_simp; done) | (go_simp; with_reducible rfl) | with_reducible rfl | rfl
            try simp only [Act.put, List.setIfInBounds_toArray, List.set_cons_zero, List.set_cons_succ]
            refine tk 9 (some 165) (v := ?_) ?_ ?_
            rotate_left
            · intro w hSw
              have hT := (unhide HX).below hSw; have x0c := hT.cell 0 rfl; have x1c := hT.cell 1 rfl; have x2c := hT.cell 2 rfl; have x3c := hT.cell 3 rfl; have x4c := hT.cell 4 rfl; have x5c := hT.cell 5 rfl
              first | (go_simp; done) | (go_simp; with_reducible rfl) | with_reducible rfl | rfl
            try simp only [Act.put, List.setIfInBounds_toArray, List.set_cons_zero, List.set_cons_succ]
            refine tk 10 (some 166) (v := ?_) ?_ ?_
            rotate_left
            · intro w hSw
              first | (go_simp; done) | (go_simp; with_reducible rfl) | with_reducible rfl | rfl
            try simp only [Act.put, List.setIfInBounds_toArray, List.set_cons_zero, List.set_cons_succ]
            refine tk 11 (some 167) (v := ?_) ?_ ?_
            rotate_left
            · intro w hSw
              first | (go_simp; done) | (go_simp; with_reducible rfl) | with_reducible rfl | rfl
            try simp only [Act.put, List.setIfInBounds_toArray, List.set_cons_zero, List.set_cons_succ]
            refine tk 12 (some 168) (v := ?_) ?_ ?_
            rotate_left
            · intro w hSw
              have hc' := cell_bl hSw (unhide HCS)
              first | (go_simp; done) | (go_simp; with_reducible rfl) | with_reducible rfl | rfl
            try simp only [Act.put, List.setIfInBounds_toArray, List.set_cons_zero, List.set_cons_succ]
            rcases hq : decide (0 ≤ y ∧ y ≤ 6) with _ | _
            case false =>
              refine wpAnyH_ready (rs := [13]) (by kernel_rfl) (by simp) ?_
              refine AllReadyH.cons (o := { dst := some 169, op := _, type := _, pos := _, after := _, guard := _ }) rfl (fun K hK => ?_) AllReadyH.nil
              go_simp
              go_at_call 109
              refine (l1b (hq) _).mono ?_
              rintro e V2 ⟨rfl, hww⟩
              have hww := hww.symm
              subst hww
              try go_wp2_with fail
              refine hK.out _ _ HD (fun hHeld => ?_)
              clear hK K hHeld
              try simp only [Act.put, List.setIfInBounds_toArray, List.set_cons_zero, List.set_cons_succ]
              refine tk 14 (some 170) (v := ?_) ?_ ?_
              rotate_left
              · intro w hSw
                first | (go_simp; done) | (go_simp; with_reducible rfl) | with_reducible rfl | rfl
              try simp only [Act.put, List.setIfInBounds_toArray, List.set_cons_zero, List.set_cons_succ]
              refine tk 15 (some 171) (v := ?_) ?_ ?_
              rotate_left
              · intro w hSw
                first | (go_simp; done) | (go_simp; with_reducible rfl) | with_reducible rfl | rfl
              try simp only [Act.put, List.setIfInBounds_toArray, List.set_cons_zero, List.set_cons_succ]
              refine tk 16 (some 172) (v := ?_) ?_ ?_
              rotate_left
              · intro w hSw
                first | (go_simp; done) | (go_simp; with_reducible rfl) | with_reducible rfl | rfl
              try simp only [Act.put, List.setIfInBounds_toArray, List.set_cons_zero, List.set_cons_succ]
              refine sk 17 (some 173) ?_
              try simp only [Act.put, List.setIfInBounds_toArray, List.set_cons_zero, List.set_cons_succ]
              refine sk 18 (some 174) ?_
              try simp only [Act.put, List.setIfInBounds_toArray, List.set_cons_zero, List.set_cons_succ]
              refine sk 19 (some 175) ?_
              try simp only [Act.put, List.setIfInBounds_toArray, List.set_cons_zero, List.set_cons_succ]
              refine sk 20 (some 176) ?_
              try simp only [Act.put, List.setIfInBounds_toArray, List.set_cons_zero, List.set_cons_succ]
              refine sk 21 (some 177) ?_
              try simp only [Act.put, List.setIfInBounds_toArray, List.set_cons_zero, List.set_cons_succ]
              refine sk 22 (some 178) ?_
              try simp only [Act.put, List.setIfInBounds_toArray, List.set_cons_zero, List.set_cons_succ]
              refine sk 23 (some 179) ?_
              try simp only [Act.put, List.setIfInBounds_toArray, List.set_cons_zero, List.set_cons_succ]
              refine sk 24 (some 180) ?_
              try simp only [Act.put, List.setIfInBounds_toArray, List.set_cons_zero, List.set_cons_succ]
              refine sk 25 (some 181) ?_
              try simp only [Act.put, List.setIfInBounds_toArray, List.set_cons_zero, List.set_cons_succ]
              refine sk 26 (some 182) ?_
              try simp only [Act.put, List.setIfInBounds_toArray, List.set_cons_zero, List.set_cons_succ]
              refine sk 27 (some 183) ?_
              try simp only [Act.put, List.setIfInBounds_toArray, List.set_cons_zero, List.set_cons_succ]
              refine sk 28 (some 184) ?_
              try simp only [Act.put, List.setIfInBounds_toArray, List.set_cons_zero, List.set_cons_succ]
              refine sk 29 (some 185) ?_
              try simp only [Act.put, List.setIfInBounds_toArray, List.set_cons_zero, List.set_cons_succ]
              refine tk 30 (some 186) (v := ?_) ?_ ?_
              rotate_left
              · intro w hSw
                first | (go_simp; done) | (go_simp; with_reducible rfl) | with_reducible rfl | rfl
              try simp only [Act.put, List.setIfInBounds_toArray, List.set_cons_zero, List.set_cons_succ]
              refine wpAnyH_done (by kernel_rfl) ?_ _
              replace HB := hide (below_tr (unhide HB) HD)
              replace HRR := hide ((unhide HRR).bel HD)
              replace HX := hide ((unhide HX).bel HD)
              replace HW := hide ((unhide HW).bel HD)
              replace HBV := hide ((unhide HBV).bel HD)
              clear HD 
              have x0c := (unhide HX).cell 0 rfl
              have x1c := (unhide HX).cell 1 rfl
              have x2c := (unhide HX).cell 2 rfl
              have x3c := (unhide HX).cell 3 rfl
              have x4c := (unhide HX).cell 4 rfl
              have x5c := (unhide HX).cell 5 rfl
              have HU := hide (unhide HNB (na_2 hq))
              go_wp2_with fail
              go_ret
              exact ⟨ret_bool (unhide HU).symm, unhide HB⟩
            have HNA := hide (na_3 hp hq)
            refine wpAnyH_ready (rs := [13]) (by kernel_rfl) (by simp) ?_
            refine AllReadyH.cons (o := { dst := some 169, op := _, type := _, pos := _, after := _, guard := _ }) rfl (fun K hK => ?_) AllReadyH.nil
            go_simp
            go_at_call 109
            refine (l1b (hq) _).mono ?_
            rintro e V2 ⟨rfl, hww⟩
            have hww := hww.symm
            subst hww
            try go_wp2_with fail
            refine hK.out _ _ HD (fun hHeld => ?_)
            clear hK K hHeld
            try simp only [Act.put, List.setIfInBounds_toArray, List.set_cons_zero, List.set_cons_succ]
            refine tk 14 (some 170) (v := ?_) ?_ ?_
            rotate_left
            · intro w hSw
              first | (go_simp; done) | (go_simp; with_reducible rfl) | with_reducible rfl | rfl
            try simp only [Act.put, List.setIfInBounds_toArray, List.set_cons_zero, List.set_cons_succ]
            refine tk 15 (some 171) (v := ?_) ?_ ?_
            rotate_left
            · intro w hSw
              first | (go_simp; done) | (go_simp; with_reducible rfl) | with_reducible rfl | rfl
            try simp only [Act.put, List.setIfInBounds_toArray, List.set_cons_zero, List.set_cons_succ]
            refine tk 16 (some 172) (v := ?_) ?_ ?_
            rotate_left
            · intro w hSw
              first | (go_simp; done) | (go_simp; with_reducible rfl) | with_reducible rfl | rfl
            try simp only [Act.put, List.setIfInBounds_toArray, List.set_cons_zero, List.set_cons_succ]
            refine tk 17 (some 173) (v := ?_) ?_ ?_
            rotate_left
            · intro w hSw
              first | (go_simp; done) | (go_simp; with_reducible rfl) | with_reducible rfl | rfl
            try simp only [Act.put, List.setIfInBounds_toArray, List.set_cons_zero, List.set_cons_succ]
            refine tk 18 (some 174) (v := ?_) ?_ ?_
            rotate_left
            · intro w hSw
              have hT := (unhide HX).below hSw; have x0c := hT.cell 0 rfl; have x1c := hT.cell 1 rfl; have x2c := hT.cell 2 rfl; have x3c := hT.cell 3 rfl; have x4c := hT.cell 4 rfl; have x5c := hT.cell 5 rfl
              first | (go_simp; done) | (go_simp; with_reducible rfl) | with_reducible rfl | rfl
            try simp only [Act.put, List.setIfInBounds_toArray, List.set_cons_zero, List.set_cons_succ]
            refine tk 19 (some 175) (v := ?_) ?_ ?_
            rotate_left
            · intro w hSw
              first | (go_simp; done) | (go_simp; with_reducible rfl) | with_reducible rfl | rfl
            try simp only [Act.put, List.setIfInBounds_toArray, List.set_cons_zero, List.set_cons_succ]
            refine tk 20 (some 176) (v := ?_) ?_ ?_
            rotate_left
            · intro w hSw
              first | (go_simp; done) | (go_simp; with_reducible rfl) | with_reducible rfl | rfl
            try simp only [Act.put, List.setIfInBounds_toArray, List.set_cons_zero, List.set_cons_succ]
            refine tk 21 (some 177) (v := ?_) ?_ ?_
            rotate_left
            · intro w hSw
              have hc := cell_bl hSw (unhide HCN)
              first | (go_simp; done) | (go_simp; with_reducible rfl) | with_reducible rfl | rfl
            try simp only [Act.put, List.setIfInBounds_toArray, List.set_cons_zero, List.set_cons_succ]
            by_cases hn0 : x = 0
            case pos =>
              have hz1 : (x == 0) = true := by rw [beq_iff_eq]; exact hn0
              refine tk 22 (some 178) (v := ?_) ?_ ?_
              rotate_left
              · intro w hSw
                first | (go_simp; done) | (go_simp; with_reducible rfl) | with_reducible rfl | rfl
              try simp only [Act.put, List.setIfInBounds_toArray, List.set_cons_zero, List.set_cons_succ]
              refine tk 23 (some 179) (v := ?_) ?_ ?_
              rotate_left
              · intro w hSw
                first | (go_simp; done) | (go_simp; with_reducible rfl) | with_reducible rfl | rfl
              try simp only [Act.put, List.setIfInBounds_toArray, List.set_cons_zero, List.set_cons_succ]
              refine tk 24 (some 180) (v := ?_) ?_ ?_
              rotate_left
              · intro w hSw
                have hT := (unhide HX).below hSw; have x0c := hT.cell 0 rfl; have x1c := hT.cell 1 rfl; have x2c := hT.cell 2 rfl; have x3c := hT.cell 3 rfl; have x4c := hT.cell 4 rfl; have x5c := hT.cell 5 rfl
                first | (go_simp; done) | (go_simp; with_reducible rfl) | with_reducible rfl | rfl
              try simp only [Act.put, List.setIfInBounds_toArray, List.set_cons_zero, List.set_cons_succ]
              refine tk 25 (some 181) (v := ?_) ?_ ?_
              rotate_left
              · intro w hSw
                first | (go_simp; done) | (go_simp; with_reducible rfl) | with_reducible rfl | rfl
              try simp only [Act.put, List.setIfInBounds_toArray, List.set_cons_zero, List.set_cons_succ]
              refine tk 26 (some 182) (v := ?_) ?_ ?_
              rotate_left
              · intro w hSw
                first | (go_simp; done) | (go_simp; with_reducible rfl) | with_reducible rfl | rfl
              try simp only [Act.put, List.setIfInBounds_toArray, List.set_cons_zero, List.set_cons_succ]
              refine tk 27 (some 183) (v := ?_) ?_ ?_
              rotate_left
              · intro w hSw
                have hc' := cell_bl hSw (unhide HCS)
                first | (go_simp; done) | (go_simp; with_reducible rfl) | with_reducible rfl | rfl
              try simp only [Act.put, List.setIfInBounds_toArray, List.set_cons_zero, List.set_cons_succ]
              by_cases hs0 : y = 0
              case pos =>
                have hz2 : (y == 0) = true := by rw [beq_iff_eq]; exact hs0
                have HV : Hid (numAt x y = true) := by unfold Hid; rw [unhide HNA]; simp [hn0, hs0]
                rw [unhide HV] at HNS
                clear hn0 hs0
                refine tk 28 (some 184) (v := ?_) ?_ ?_
                rotate_left
                · intro w hSw
                  first | (go_simp; done) | (go_simp; with_reducible rfl) | with_reducible rfl | rfl
                try simp only [Act.put, List.setIfInBounds_toArray, List.set_cons_zero, List.set_cons_succ]
                refine tk 29 (some 185) (v := ?_) ?_ ?_
                rotate_left
                · intro w hSw
                  first | (go_simp; done) | (go_simp; with_reducible rfl) | with_reducible rfl | rfl
                try simp only [Act.put, List.setIfInBounds_toArray, List.set_cons_zero, List.set_cons_succ]
                refine tk 30 (some 186) (v := ?_) ?_ ?_
                rotate_left
                · intro w hSw
                  first | (go_simp; done) | (go_simp; with_reducible rfl) | with_reducible rfl | rfl
                try simp only [Act.put, List.setIfInBounds_toArray, List.set_cons_zero, List.set_cons_succ]
                refine wpAnyH_done (by kernel_rfl) ?_ _
                replace HB := hide (below_tr (unhide HB) HD)
                replace HRR := hide ((unhide HRR).bel HD)
                replace HX := hide ((unhide HX).bel HD)
                replace HW := hide ((unhide HW).bel HD)
                replace HBV := hide ((unhide HBV).bel HD)
                clear HD 
                have x0c := (unhide HX).cell 0 rfl
                have x1c := (unhide HX).cell 1 rfl
                have x2c := (unhide HX).cell 2 rfl
                have x3c := (unhide HX).cell 3 rfl
                have x4c := (unhide HX).cell 4 rfl
                have x5c := (unhide HX).cell 5 rfl
                go_wp2_with fail
                (try clear x0c x1c x2c x3c x4c x5c)
                go_roundw
                case rel => exact ⟨k + 1, by omega, by go_num, by rw [unhide HNS]; rfl, unhide HBV⟩
                case measure => simp [intOf]; omega
              have hz2 : (y == 0) = false := by rw [beq_eq_false_iff_ne]; exact hs0
              have HV : Hid (numAt x y = false) := by unfold Hid; rw [unhide HNA]; simp [hn0, hs0]
              have HU := hide (unhide HNB (unhide HV))
              clear hn0 hs0
              refine tk 28 (some 184) (v := ?_) ?_ ?_
              rotate_left
              · intro w hSw
                first | (go_simp; done) | (go_simp; with_reducible rfl) | with_reducible rfl | rfl
              try simp only [Act.put, List.setIfInBounds_toArray, List.set_cons_zero, List.set_cons_succ]
              refine tk 29 (some 185) (v := ?_) ?_ ?_
              rotate_left
              · intro w hSw
                first | (go_simp; done) | (go_simp; with_reducible rfl) | with_reducible rfl | rfl
              try simp only [Act.put, List.setIfInBounds_toArray, List.set_cons_zero, List.set_cons_succ]
              refine tk 30 (some 186) (v := ?_) ?_ ?_
              rotate_left
              · intro w hSw
                first | (go_simp; done) | (go_simp; with_reducible rfl) | with_reducible rfl | rfl
              try simp only [Act.put, List.setIfInBounds_toArray, List.set_cons_zero, List.set_cons_succ]
              refine wpAnyH_done (by kernel_rfl) ?_ _
              replace HB := hide (below_tr (unhide HB) HD)
              replace HRR := hide ((unhide HRR).bel HD)
              replace HX := hide ((unhide HX).bel HD)
              replace HW := hide ((unhide HW).bel HD)
              replace HBV := hide ((unhide HBV).bel HD)
              clear HD 
              have x0c := (unhide HX).cell 0 rfl
              have x1c := (unhide HX).cell 1 rfl
              have x2c := (unhide HX).cell 2 rfl
              have x3c := (unhide HX).cell 3 rfl
              have x4c := (unhide HX).cell 4 rfl
              have x5c := (unhide HX).cell 5 rfl
              go_wp2_with fail
              go_ret
              exact ⟨ret_bool (unhide HU).symm, unhide HB⟩
            have hz1 : (x == 0) = false := by rw [beq_eq_false_iff_ne]; exact hn0
            refine tk 22 (some 178) (v := ?_) ?_ ?_
            rotate_left
            · intro w hSw
              first | (go_simp; done) | (go_simp; with_reducible rfl) | with_reducible rfl | rfl
            try simp only [Act.put, List.setIfInBounds_toArray, List.set_cons_zero, List.set_cons_succ]
            refine tk 23 (some 179) (v := ?_) ?_ ?_
            rotate_left
            · intro w hSw
              first | (go_simp; done) | (go_simp; with_reducible rfl) | with_reducible rfl | rfl
            try simp only [Act.put, List.setIfInBounds_toArray, List.set_cons_zero, List.set_cons_succ]
            refine tk 24 (some 180) (v := ?_) ?_ ?_
            rotate_left
            · intro w hSw
              have hT := (unhide HX).below hSw; have x0c := hT.cell 0 rfl; have x1c := hT.cell 1 rfl; have x2c := hT.cell 2 rfl; have x3c := hT.cell 3 rfl; have x4c := hT.cell 4 rfl; have x5c := hT.cell 5 rfl
              first | (go_simp; done) | (go_simp; with_reducible rfl) | with_reducible rfl | rfl
            try simp only [Act.put, List.setIfInBounds_toArray, List.set_cons_zero, List.set_cons_succ]
            refine tk 25 (some 181) (v := ?_) ?_ ?_
            rotate_left
            · intro w hSw
              first | (go_simp; done) | (go_simp; with_reducible rfl) | with_reducible rfl | rfl
            try simp only [Act.put, List.setIfInBounds_toArray, List.set_cons_zero, List.set_cons_succ]
            refine tk 26 (some 182) (v := ?_) ?_ ?_
            rotate_left
            · intro w hSw
              first | (go_simp; done) | (go_simp; with_reducible rfl) | with_reducible rfl | rfl
            try simp only [Act.put, List.setIfInBounds_toArray, List.set_cons_zero, List.set_cons_succ]
            refine tk 27 (some 183) (v := ?_) ?_ ?_
            rotate_left
            · intro w hSw
              have hc' := cell_bl hSw (unhide HCS)
              first | (go_simp; done) | (go_simp; with_reducible rfl) | with_reducible rfl | rfl
            try simp only [Act.put, List.setIfInBounds_toArray, List.set_cons_zero, List.set_cons_succ]
            by_cases hs0 : y = 0
            case pos =>
              have hz2 : (y == 0) = true := by rw [beq_iff_eq]; exact hs0
              have HV : Hid (numAt x y = false) := by unfold Hid; rw [unhide HNA]; simp [hn0, hs0]
              have HU := hide (unhide HNB (unhide HV))
              clear hn0 hs0
              refine tk 28 (some 184) (v := ?_) ?_ ?_
              rotate_left
              · intro w hSw
                first | (go_simp; done) | (go_simp; with_reducible rfl) | with_reducible rfl | rfl
              try simp only [Act.put, List.setIfInBounds_toArray, List.set_cons_zero, List.set_cons_succ]
              refine tk 29 (some 185) (v := ?_) ?_ ?_
              rotate_left
              · intro w hSw
                first | (go_simp; done) | (go_simp; with_reducible rfl) | with_reducible rfl | rfl
              try simp only [Act.put, List.setIfInBounds_toArray, List.set_cons_zero, List.set_cons_succ]
              refine tk 30 (some 186) (v := ?_) ?_ ?_
              rotate_left
              · intro w hSw
                first | (go_simp; done) | (go_simp; with_reducible rfl) | with_reducible rfl | rfl
              try simp only [Act.put, List.setIfInBounds_toArray, List.set_cons_zero, List.set_cons_succ]
              refine wpAnyH_done (by kernel_rfl) ?_ _
              replace HB := hide (below_tr (unhide HB) HD)
              replace HRR := hide ((unhide HRR).bel HD)
              replace HX := hide ((unhide HX).bel HD)
              replace HW := hide ((unhide HW).bel HD)
              replace HBV := hide ((unhide HBV).bel HD)
              clear HD 
              have x0c := (unhide HX).cell 0 rfl
              have x1c := (unhide HX).cell 1 rfl
              have x2c := (unhide HX).cell 2 rfl
              have x3c := (unhide HX).cell 3 rfl
              have x4c := (unhide HX).cell 4 rfl
              have x5c := (unhide HX).cell 5 rfl
              go_wp2_with fail
              go_ret
              exact ⟨ret_bool (unhide HU).symm, unhide HB⟩
            have hz2 : (y == 0) = false := by rw [beq_eq_false_iff_ne]; exact hs0
            have HV : Hid (numAt x y = true) := by unfold Hid; rw [unhide HNA]; simp [hn0, hs0]
            rw [unhide HV] at HNS
            clear hn0 hs0
            refine tk 28 (some 184) (v := ?_) ?_ ?_
            rotate_left
            · intro w hSw
              first | (go_simp; done) | (go_simp; with_reducible rfl) | with_reducible rfl | rfl
            try simp only [Act.put, List.setIfInBounds_toArray, List.set_cons_zero, List.set_cons_succ]
            refine tk 29 (some 185) (v := ?_) ?_ ?_
            rotate_left
            · intro w hSw
              first | (go_simp; done) | (go_simp; with_reducible rfl) | with_reducible rfl | rfl
            try simp only [Act.put, List.setIfInBounds_toArray, List.set_cons_zero, List.set_cons_succ]
            refine tk 30 (some 186) (v := ?_) ?_ ?_
            rotate_left
            · intro w hSw
              first | (go_simp; done) | (go_simp; with_reducible rfl) | with_reducible rfl | rfl
            try simp only [Act.put, List.setIfInBounds_toArray, List.set_cons_zero, List.set_cons_succ]
            refine wpAnyH_done (by kernel_rfl) ?_ _
            replace HB := hide (below_tr (unhide HB) HD)
            replace HRR := hide ((unhide HRR).bel HD)
            replace HX := hide ((unhide HX).bel HD)
            replace HW := hide ((unhide HW).bel HD)
            replace HBV := hide ((unhide HBV).bel HD)
            clear HD 
            have x0c := (unhide HX).cell 0 rfl
            have x1c := (unhide HX).cell 1 rfl
            have x2c := (unhide HX).cell 2 rfl
            have x3c := (unhide HX).cell 3 rfl
            have x4c := (unhide HX).cell 4 rfl
            have x5c := (unhide HX).cell 5 rfl
            go_wp2_with fail
            (try clear x0c x1c x2c x3c x4c x5c)
            go_roundw
            case rel => exact ⟨k + 1, by omega, by go_num, by rw [unhide HNS]; rfl, unhide HBV⟩
            case measure => simp [intOf]; omega
    as_aux_lemma =>
      have e0 : (0 : Int) ≤ (k : Int) := by omega
      have e1 : (k : Int) < (ds.length : Int) := by omega
      obtain ⟨b, off, rfl, hc⟩ := (unhide HRR).2.2.1.2 (by intro e; dsimp only at e; subst e; simp at hlt)
      obtain ⟨⟨x0, x1, x2, x3, x4⟩, hx⟩ := atDD hlt
      obtain ⟨g0, g1, g2, g3, g4⟩ := d_cells (Below.refl _ _) hc hx
      rw [d_drop hx] at hw
      have HDL := hide (dLast_at hx)
      dsimp only at HDL
      have HMO := hide (fun h => mo_4 (h := ⟨es, pu, ds, cl, nu, sa⟩) h)
      dsimp only at HMO
      rcases hp : decide (0 ≤ x0 ∧ x0 ≤ 7) with _ | _
      case false =>
        as_aux_lemma =>
          have HU := hide (unhide HMO (hw.trans (df_1 hp)))
          clear hw hc hx
          have x0c := (unhide HX).cell 0 rfl
          have x1c := (unhide HX).cell 1 rfl
          have x2c := (unhide HX).cell 2 rfl
          have x3c := (unhide HX).cell 3 rfl
          have x4c := (unhide HX).cell 4 rfl
          have x5c := (unhide HX).cell 5 rfl
          go_wp2_with fail
          (try clear x0c x1c x2c x3c x4c x5c)
          clear g0 g1 g2 g3 g4
          (try clear x0c x1c x2c x3c x4c x5c)
          have HQ := hide (box_new WA [.int .i64 x0, .int .i64 x1, .int .i64 x2, .int .i64 x3, .int .i64 x4] 42 (by simp [Value.oneCell']))
          replace HB := hide (below_al (o := .cells #[.int .i64 x0, .int .i64 x1, .int .i64 x2, .int .i64 x3, .int .i64 x4] 42) (unhide HB))
          replace HRR := hide ((unhide HRR).bel (below_a (.cells #[.int .i64 x0, .int .i64 x1, .int .i64 x2, .int .i64 x3, .int .i64 x4] 42)))
          replace HX := hide ((unhide HX).bel (below_a (.cells #[.int .i64 x0, .int .i64 x1, .int .i64 x2, .int .i64 x3, .int .i64 x4] 42)))
          replace HW := hide ((unhide HW).bel (below_a (.cells #[.int .i64 x0, .int .i64 x1, .int .i64 x2, .int .i64 x3, .int .i64 x4] 42)))
          replace HBW := hide ((unhide HBW).bel (below_a (.cells #[.int .i64 x0, .int .i64 x1, .int .i64 x2, .int .i64 x3, .int .i64 x4] 42)))
          generalize WA.alloc (.cells #[.int .i64 x0, .int .i64 x1, .int .i64 x2, .int .i64 x3, .int .i64 x4] 42) = W1 at *
          (try clear x0c x1c x2c x3c x4c x5c q0 q1 q2 q3 q4)
          refine wp_region_held_drew (S := fun w' => Below W1.heap.size W1 w') (by kernel_rfl) (below_drew W1) (fun hHeld => ?_)
          refine tk 0 (some 58) (v := ?_) ?_ ?_
          rotate_left
          · intro w hSw
            first | (go_simp; done) | (go_simp; with_reducible rfl) | with_reducible rfl | rfl
          try simp only [Act.put, List.setIfInBounds_toArray, List.set_cons_zero, List.set_cons_succ]
          refine tk 1 (some 59) (v := ?_) ?_ ?_
          rotate_left
          · intro w hSw
            have hT := (unhide HQ).below hSw; have q0 := hT.cell 0 rfl; have q1 := hT.cell 1 rfl; have q2 := hT.cell 2 rfl; have q3 := hT.cell 3 rfl; have q4 := hT.cell 4 rfl
            first | (go_simp; done) | (go_simp; with_reducible rfl) | with_reducible rfl | rfl
          try simp only [Act.put, List.setIfInBounds_toArray, List.set_cons_zero, List.set_cons_succ]
          have HD := below_drew W1
          generalize W1.drew = V0 at *
          refine wpAnyH_ready (rs := [2]) (by kernel_rfl) (by simp) ?_
          refine AllReadyH.cons (o := { dst := some 60, op := _, type := _, pos := _, after := _, guard := _ }) rfl (fun K hK => ?_) AllReadyH.nil
          go_simp
          go_at_call 109
          refine (l1b hp _).mono ?_
          rintro e V1 ⟨rfl, hww⟩
          have hww := hww.symm
          subst hww
          try go_wp2_with fail
          refine hK.out _ _ HD (fun hHeld => ?_)
          clear hK K hHeld
          try simp only [Act.put, List.setIfInBounds_toArray, List.set_cons_zero, List.set_cons_succ]
          refine tk 3 (some 61) (v := ?_) ?_ ?_
          rotate_left
          · intro w hSw
            first | (go_simp; done) | (go_simp; with_reducible rfl) | with_reducible rfl | rfl
          try simp only [Act.put, List.setIfInBounds_toArray, List.set_cons_zero, List.set_cons_succ]
          refine tk 4 (some 62) (v := ?_) ?_ ?_
          rotate_left
          · intro w hSw
            first | (go_simp; done) | (go_simp; with_reducible rfl) | with_reducible rfl | rfl
          try simp only [Act.put, List.setIfInBounds_toArray, List.set_cons_zero, List.set_cons_succ]
          refine sk 5 (some 63) ?_
          try simp only [Act.put, List.setIfInBounds_toArray, List.set_cons_zero, List.set_cons_succ]
          refine sk 6 (some 64) ?_
          try simp only [Act.put, List.setIfInBounds_toArray, List.set_cons_zero, List.set_cons_succ]
          refine sk 7 (some 65) ?_
          try simp only [Act.put, List.setIfInBounds_toArray, List.set_cons_zero, List.set_cons_succ]
          refine sk 8 (some 66) ?_
          try simp only [Act.put, List.setIfInBounds_toArray, List.set_cons_zero, List.set_cons_succ]
          refine sk 9 (some 67) ?_
          try simp only [Act.put, List.setIfInBounds_toArray, List.set_cons_zero, List.set_cons_succ]
          refine sk 10 (some 68) ?_
          try simp only [Act.put, List.setIfInBounds_toArray, List.set_cons_zero, List.set_cons_succ]
          refine sk 11 (some 69) ?_
          try simp only [Act.put, List.setIfInBounds_toArray, List.set_cons_zero, List.set_cons_succ]
          refine sk 12 (some 70) ?_
          try simp only [Act.put, List.setIfInBounds_toArray, List.set_cons_zero, List.set_cons_succ]
          refine sk 13 (some 71) ?_
          try simp only [Act.put, List.setIfInBounds_toArray, List.set_cons_zero, List.set_cons_succ]
          refine sk 14 (some 72) ?_
          try simp only [Act.put, List.setIfInBounds_toArray, List.set_cons_zero, List.set_cons_succ]
          refine sk 15 (some 73) ?_
          try simp only [Act.put, List.setIfInBounds_toArray, List.set_cons_zero, List.set_cons_succ]
          refine sk 16 (some 74) ?_
          try simp only [Act.put, List.setIfInBounds_toArray, List.set_cons_zero, List.set_cons_succ]
          refine sk 17 (some 75) ?_
          try simp only [Act.put, List.setIfInBounds_toArray, List.set_cons_zero, List.set_cons_succ]
          refine sk 18 (some 76) ?_
          try simp only [Act.put, List.setIfInBounds_toArray, List.set_cons_zero, List.set_cons_succ]
          refine tk 19 (some 77) (v := ?_) ?_ ?_
          rotate_left
          · intro w hSw
            first | (go_simp; done) | (go_simp; with_reducible rfl) | with_reducible rfl | rfl
          try simp only [Act.put, List.setIfInBounds_toArray, List.set_cons_zero, List.set_cons_succ]
          refine tk 20 (some 78) (v := ?_) ?_ ?_
          rotate_left
          · intro w hSw
            first | (go_simp; done) | (go_simp; with_reducible rfl) | with_reducible rfl | rfl
          try simp only [Act.put, List.setIfInBounds_toArray, List.set_cons_zero, List.set_cons_succ]
          refine sk 21 (some 79) ?_
          try simp only [Act.put, List.setIfInBounds_toArray, List.set_cons_zero, List.set_cons_succ]
          refine sk 22 (some 80) ?_
          try simp only [Act.put, List.setIfInBounds_toArray, List.set_cons_zero, List.set_cons_succ]
          refine sk 23 (some 81) ?_
          try simp only [Act.put, List.setIfInBounds_toArray, List.set_cons_zero, List.set_cons_succ]
          refine sk 24 (some 82) ?_
          try simp only [Act.put, List.setIfInBounds_toArray, List.set_cons_zero, List.set_cons_succ]
          refine sk 25 (some 83) ?_
          try simp only [Act.put, List.setIfInBounds_toArray, List.set_cons_zero, List.set_cons_succ]
          refine sk 26 (some 84) ?_
          try simp only [Act.put, List.setIfInBounds_toArray, List.set_cons_zero, List.set_cons_succ]
          refine sk 27 (some 85) ?_
          try simp only [Act.put, List.setIfInBounds_toArray, List.set_cons_zero, List.set_cons_succ]
          refine sk 28 (some 86) ?_
          try simp only [Act.put, List.setIfInBounds_toArray, List.set_cons_zero, List.set_cons_succ]
          refine sk 29 (some 87) ?_
          try simp only [Act.put, List.setIfInBounds_toArray, List.set_cons_zero, List.set_cons_succ]
          refine tk 30 (some 88) (v := ?_) ?_ ?_
          rotate_left
          · intro w hSw
            first | (go_simp; done) | (go_simp; with_reducible rfl) | with_reducible rfl | rfl
          try simp only [Act.put, List.setIfInBounds_toArray, List.set_cons_zero, List.set_cons_succ]
          refine tk 31 (some 89) (v := ?_) ?_ ?_
          rotate_left
          · intro w hSw
            first | (go_simp; done) | (go_simp; with_reducible rfl) | with_reducible rfl | rfl
          try simp only [Act.put, List.setIfInBounds_toArray, List.set_cons_zero, List.set_cons_succ]
          refine sk 32 (some 90) ?_
          try simp only [Act.put, List.setIfInBounds_toArray, List.set_cons_zero, List.set_cons_succ]
          refine sk 33 (some 91) ?_
          try simp only [Act.put, List.setIfInBounds_toArray, List.set_cons_zero, List.set_cons_succ]
          refine sk 34 (some 92) ?_
          try simp only [Act.put, List.setIfInBounds_toArray, List.set_cons_zero, List.set_cons_succ]
          refine tk 35 (some 93) (v := ?_) ?_ ?_
          rotate_left
          · intro w hSw
            first | (go_simp; done) | (go_simp; with_reducible rfl) | with_reducible rfl | rfl
          try simp only [Act.put, List.setIfInBounds_toArray, List.set_cons_zero, List.set_cons_succ]
          refine tk 36 (some 94) (v := ?_) ?_ ?_
          rotate_left
          · intro w hSw
            first | (go_simp; done) | (go_simp; with_reducible rfl) | with_reducible rfl | rfl
          try simp only [Act.put, List.setIfInBounds_toArray, List.set_cons_zero, List.set_cons_succ]
          refine sk 37 (some 95) ?_
          try simp only [Act.put, List.setIfInBounds_toArray, List.set_cons_zero, List.set_cons_succ]
          refine sk 38 (some 96) ?_
          try simp only [Act.put, List.setIfInBounds_toArray, List.set_cons_zero, List.set_cons_succ]
          refine sk 39 (some 97) ?_
          try simp only [Act.put, List.setIfInBounds_toArray, List.set_cons_zero, List.set_cons_succ]
          refine sk 40 (some 98) ?_
          try simp only [Act.put, List.setIfInBounds_toArray, List.set_cons_zero, List.set_cons_succ]
          refine sk 41 (some 99) ?_
          try simp only [Act.put, List.setIfInBounds_toArray, List.set_cons_zero, List.set_cons_succ]
          refine sk 42 (some 100) ?_
          try simp only [Act.put, List.setIfInBounds_toArray, List.set_cons_zero, List.set_cons_succ]
          refine tk 43 (some 101) (v := ?_) ?_ ?_
          rotate_left
          · intro w hSw
            first | (go_simp; done) | (go_simp; with_reducible rfl) | with_reducible rfl | rfl
          try simp only [Act.put, List.setIfInBounds_toArray, List.set_cons_zero, List.set_cons_succ]
          refine tk 44 (some 102) (v := ?_) ?_ ?_
          rotate_left
          · intro w hSw
            first | (go_simp; done) | (go_simp; with_reducible rfl) | with_reducible rfl | rfl
          try simp only [Act.put, List.setIfInBounds_toArray, List.set_cons_zero, List.set_cons_succ]
          refine sk 45 (some 103) ?_
          try simp only [Act.put, List.setIfInBounds_toArray, List.set_cons_zero, List.set_cons_succ]
          refine sk 46 (some 104) ?_
          try simp only [Act.put, List.setIfInBounds_toArray, List.set_cons_zero, List.set_cons_succ]
          refine sk 47 (some 105) ?_
          try simp only [Act.put, List.setIfInBounds_toArray, List.set_cons_zero, List.set_cons_succ]
          refine sk 48 (some 106) ?_
          try simp only [Act.put, List.setIfInBounds_toArray, List.set_cons_zero, List.set_cons_succ]
          refine sk 49 (some 107) ?_
          try simp only [Act.put, List.setIfInBounds_toArray, List.set_cons_zero, List.set_cons_succ]
          refine sk 50 (some 108) ?_
          try simp only [Act.put, List.setIfInBounds_toArray, List.set_cons_zero, List.set_cons_succ]
          refine sk 51 (some 109) ?_
          try simp only [Act.put, List.setIfInBounds_toArray, List.set_cons_zero, List.set_cons_succ]
          refine sk 52 (some 110) ?_
          try simp only [Act.put, List.setIfInBounds_toArray, List.set_cons_zero, List.set_cons_succ]
          refine sk 53 (some 111) ?_
          try simp only [Act.put, List.setIfInBounds_toArray, List.set_cons_zero, List.set_cons_succ]
          refine sk 54 (some 112) ?_
          try simp only [Act.put, List.setIfInBounds_toArray, List.set_cons_zero, List.set_cons_succ]
          refine sk 55 (some 113) ?_
          try simp only [Act.put, List.setIfInBounds_toArray, List.set_cons_zero, List.set_cons_succ]
          refine tk 56 (some 114) (v := ?_) ?_ ?_
          rotate_left
          · intro w hSw
            first | (go_simp; done) | (go_simp; with_reducible rfl) | with_reducible rfl | rfl
          try simp only [Act.put, List.setIfInBounds_toArray, List.set_cons_zero, List.set_cons_succ]
          refine wpAnyH_done (by kernel_rfl) ?_ _
          replace HB := hide (below_tr (unhide HB) HD)
          replace HRR := hide ((unhide HRR).bel HD)
          replace HX := hide ((unhide HX).bel HD)
          replace HW := hide ((unhide HW).bel HD)
          replace HBW := hide ((unhide HBW).bel HD)
          replace HQ := hide ((unhide HQ).bel HD)
          clear HD 
          have x0c := (unhide HX).cell 0 rfl
          have x1c := (unhide HX).cell 1 rfl
          have x2c := (unhide HX).cell 2 rfl
          have x3c := (unhide HX).cell 3 rfl
          have x4c := (unhide HX).cell 4 rfl
          have x5c := (unhide HX).cell 5 rfl
          have q0 := (unhide HQ).cell 0 rfl
          have q1 := (unhide HQ).cell 1 rfl
          have q2 := (unhide HQ).cell 2 rfl
          have q3 := (unhide HQ).cell 3 rfl
          have q4 := (unhide HQ).cell 4 rfl
          go_wp2_with fail
          go_ret
          exact ⟨ret_bool (unhide HU).symm, unhide HB⟩
      have HPK := hide hp
      have hp2 := hp
      simp only [decide_eq_true_eq] at hp2
      obtain ⟨j, rfl⟩ := Int.eq_ofNat_of_zero_le hp2.1
      obtain ⟨r0, r1, r2, hj⟩ := r_at (show j < (foldRows es).length by have := unhide H8; omega)
      have hjI : (j : Int) < 8 := by omega
      have hj0 : (0 : Int) ≤ (j : Int) := by omega
      have HGD : Hid ((foldRows es).getD (j : Int).toNat (0, 0, false) = (r0, r1, r2)) := by unfold Hid; rw [Int.toNat_natCast, List.getD_eq_getElem?_getD, hj]; rfl
      have HROK := hide (unhide HRK _ (List.mem_of_getElem? hj))
      obtain ⟨b', off', rfl, -⟩ := (unhide HW).2 (by intro e; rw [e] at hj; simp at hj)
      obtain ⟨c0, c1, c2⟩ := (unhide HW).at2 hj
      have HC0 := hide (cell_bl (below_a (.cells #[.int .i64 (j : Int), .int .i64 x1, .int .i64 x2, .int .i64 x3, .int .i64 x4] 42)) c0)
      have HC1 := hide (cell_bl (below_a (.cells #[.int .i64 (j : Int), .int .i64 x1, .int .i64 x2, .int .i64 x3, .int .i64 x4] 42)) c1)
      have HC2 := hide (cell_bl (below_a (.cells #[.int .i64 (j : Int), .int .i64 x1, .int .i64 x2, .int .i64 x3, .int .i64 x4] 42)) c2)
      clear c0 c1 c2 hj
      rcases Nat.eq_zero_or_pos k with hk0 | hk0
      case inl =>
        as_aux_lemma =>
          subst hk0
          (try simp only [Nat.zero_mul, Nat.add_zero] at g0 g1 g2 g3 g4)
          have HWW := hide hw
          have HLL : Hid (dLast ds 0 < (j : Int)) := by unfold Hid; simp only [dLast]; omega
          clear hw hc hx hp hp2
          have x0c := (unhide HX).cell 0 rfl
          have x1c := (unhide HX).cell 1 rfl
          have x2c := (unhide HX).cell 2 rfl
          have x3c := (unhide HX).cell 3 rfl
          have x4c := (unhide HX).cell 4 rfl
          have x5c := (unhide HX).cell 5 rfl
          go_wp2_with fail
          (try clear x0c x1c x2c x3c x4c x5c)
          clear g0 g1 g2 g3 g4
          (try clear x0c x1c x2c x3c x4c x5c)
          have HQ := hide (box_new WA [.int .i64 (j : Int), .int .i64 x1, .int .i64 x2, .int .i64 x3, .int .i64 x4] 42 (by simp [Value.oneCell']))
          replace HB := hide (below_al (o := .cells #[.int .i64 (j : Int), .int .i64 x1, .int .i64 x2, .int .i64 x3, .int .i64 x4] 42) (unhide HB))
          replace HRR := hide ((unhide HRR).bel (below_a (.cells #[.int .i64 (j : Int), .int .i64 x1, .int .i64 x2, .int .i64 x3, .int .i64 x4] 42)))
          replace HX := hide ((unhide HX).bel (below_a (.cells #[.int .i64 (j : Int), .int .i64 x1, .int .i64 x2, .int .i64 x3, .int .i64 x4] 42)))
          replace HW := hide ((unhide HW).bel (below_a (.cells #[.int .i64 (j : Int), .int .i64 x1, .int .i64 x2, .int .i64 x3, .int .i64 x4] 42)))
          replace HBW := hide ((unhide HBW).bel (below_a (.cells #[.int .i64 (j : Int), .int .i64 x1, .int .i64 x2, .int .i64 x3, .int .i64 x4] 42)))
          generalize WA.alloc (.cells #[.int .i64 (j : Int), .int .i64 x1, .int .i64 x2, .int .i64 x3, .int .i64 x4] 42) = W1 at *
          (try clear x0c x1c x2c x3c x4c x5c q0 q1 q2 q3 q4)
          refine wp_region_held_drew (S := fun w' => Below W1.heap.size W1 w') (by kernel_rfl) (below_drew W1) (fun hHeld => ?_)
          refine tk 0 (some 58) (v := ?_) ?_ ?_
          rotate_left
          · intro w hSw
            first | (go_simp; done) | (go_simp; with_reducible rfl) | with_reducible rfl | rfl
          try simp only [Act.put, List.setIfInBounds_toArray, List.set_cons_zero, List.set_cons_succ]
          refine tk 1 (some 59) (v := ?_) ?_ ?_
          rotate_left
          · intro w hSw
            have hT := (unhide HQ).below hSw; have q0 := hT.cell 0 rfl; have q1 := hT.cell 1 rfl; have q2 := hT.cell 2 rfl; have q3 := hT.cell 3 rfl; have q4 := hT.cell 4 rfl
            first | (go_simp; done) | (go_simp; with_reducible rfl) | with_reducible rfl | rfl
          try simp only [Act.put, List.setIfInBounds_toArray, List.set_cons_zero, List.set_cons_succ]
          have HD := below_drew W1
          generalize W1.drew = V0 at *
          refine wpAnyH_ready (rs := [2]) (by kernel_rfl) (by simp) ?_
          refine AllReadyH.cons (o := { dst := some 60, op := _, type := _, pos := _, after := _, guard := _ }) rfl (fun K hK => ?_) AllReadyH.nil
          go_simp
          go_at_call 109
          refine (l1b (unhide HPK) _).mono ?_
          rintro e V1 ⟨rfl, hww⟩
          have hww := hww.symm
          subst hww
          try go_wp2_with fail
          refine hK.out _ _ HD (fun hHeld => ?_)
          clear hK K hHeld
          try simp only [Act.put, List.setIfInBounds_toArray, List.set_cons_zero, List.set_cons_succ]
          refine tk 3 (some 61) (v := ?_) ?_ ?_
          rotate_left
          · intro w hSw
            first | (go_simp; done) | (go_simp; with_reducible rfl) | with_reducible rfl | rfl
          try simp only [Act.put, List.setIfInBounds_toArray, List.set_cons_zero, List.set_cons_succ]
          refine tk 4 (some 62) (v := ?_) ?_ ?_
          rotate_left
          · intro w hSw
            first | (go_simp; done) | (go_simp; with_reducible rfl) | with_reducible rfl | rfl
          try simp only [Act.put, List.setIfInBounds_toArray, List.set_cons_zero, List.set_cons_succ]
          refine tk 5 (some 63) (v := ?_) ?_ ?_
          rotate_left
          · intro w hSw
            first | (go_simp; done) | (go_simp; with_reducible rfl) | with_reducible rfl | rfl
          try simp only [Act.put, List.setIfInBounds_toArray, List.set_cons_zero, List.set_cons_succ]
          refine tk 6 (some 64) (v := ?_) ?_ ?_
          rotate_left
          · intro w hSw
            first | (go_simp; done) | (go_simp; with_reducible rfl) | with_reducible rfl | rfl
          try simp only [Act.put, List.setIfInBounds_toArray, List.set_cons_zero, List.set_cons_succ]
          refine tk 7 (some 65) (v := ?_) ?_ ?_
          rotate_left
          · intro w hSw
            first | (go_simp; done) | (go_simp; with_reducible rfl) | with_reducible rfl | rfl
          try simp only [Act.put, List.setIfInBounds_toArray, List.set_cons_zero, List.set_cons_succ]
          refine sk 8 (some 66) ?_
          try simp only [Act.put, List.setIfInBounds_toArray, List.set_cons_zero, List.set_cons_succ]
          refine sk 9 (some 67) ?_
          try simp only [Act.put, List.setIfInBounds_toArray, List.set_cons_zero, List.set_cons_succ]
          refine sk 10 (some 68) ?_
          try simp only [Act.put, List.setIfInBounds_toArray, List.set_cons_zero, List.set_cons_succ]
          refine sk 11 (some 69) ?_
          try simp only [Act.put, List.setIfInBounds_toArray, List.set_cons_zero, List.set_cons_succ]
          refine sk 12 (some 70) ?_
          try simp only [Act.put, List.setIfInBounds_toArray, List.set_cons_zero, List.set_cons_succ]
          refine sk 13 (some 71) ?_
          try simp only [Act.put, List.setIfInBounds_toArray, List.set_cons_zero, List.set_cons_succ]
          refine sk 14 (some 72) ?_
          try simp only [Act.put, List.setIfInBounds_toArray, List.set_cons_zero, List.set_cons_succ]
          refine sk 15 (some 73) ?_
          try simp only [Act.put, List.setIfInBounds_toArray, List.set_cons_zero, List.set_cons_succ]
          refine sk 16 (some 74) ?_
          try simp only [Act.put, List.setIfInBounds_toArray, List.set_cons_zero, List.set_cons_succ]
          refine sk 17 (some 75) ?_
          try simp only [Act.put, List.setIfInBounds_toArray, List.set_cons_zero, List.set_cons_succ]
          refine tk 18 (some 76) (v := ?_) ?_ ?_
          rotate_left
          · intro w hSw
            first | (go_simp; done) | (go_simp; with_reducible rfl) | with_reducible rfl | rfl
          try simp only [Act.put, List.setIfInBounds_toArray, List.set_cons_zero, List.set_cons_succ]
          refine tk 19 (some 77) (v := ?_) ?_ ?_
          rotate_left
          · intro w hSw
            first | (go_simp; done) | (go_simp; with_reducible rfl) | with_reducible rfl | rfl
          try simp only [Act.put, List.setIfInBounds_toArray, List.set_cons_zero, List.set_cons_succ]
          refine tk 20 (some 78) (v := ?_) ?_ ?_
          rotate_left
          · intro w hSw
            first | (go_simp; done) | (go_simp; with_reducible rfl) | with_reducible rfl | rfl
          try simp only [Act.put, List.setIfInBounds_toArray, List.set_cons_zero, List.set_cons_succ]
          refine tk 21 (some 79) (v := ?_) ?_ ?_
          rotate_left
          · intro w hSw
            first | (go_simp; done) | (go_simp; with_reducible rfl) | with_reducible rfl | rfl
          try simp only [Act.put, List.setIfInBounds_toArray, List.set_cons_zero, List.set_cons_succ]
          refine tk 22 (some 80) (v := ?_) ?_ ?_
          rotate_left
          · intro w hSw
            first | (go_simp; done) | (go_simp; with_reducible rfl) | with_reducible rfl | rfl
          try simp only [Act.put, List.setIfInBounds_toArray, List.set_cons_zero, List.set_cons_succ]
          refine tk 23 (some 81) (v := ?_) ?_ ?_
          rotate_left
          · intro w hSw
            have hT := (unhide HQ).below hSw; have q0 := hT.cell 0 rfl; have q1 := hT.cell 1 rfl; have q2 := hT.cell 2 rfl; have q3 := hT.cell 3 rfl; have q4 := hT.cell 4 rfl
            first | (go_simp; done) | (go_simp; with_reducible rfl) | with_reducible rfl | rfl
          try simp only [Act.put, List.setIfInBounds_toArray, List.set_cons_zero, List.set_cons_succ]
          refine tk 24 (some 82) (v := ?_) ?_ ?_
          rotate_left
          · intro w hSw
            first | (go_simp; done) | (go_simp; with_reducible rfl) | with_reducible rfl | rfl
          try simp only [Act.put, List.setIfInBounds_toArray, List.set_cons_zero, List.set_cons_succ]
          refine tk 25 (some 83) (v := ?_) ?_ ?_
          rotate_left
          · intro w hSw
            first | (go_simp; done) | (go_simp; with_reducible rfl) | with_reducible rfl | rfl
          try simp only [Act.put, List.setIfInBounds_toArray, List.set_cons_zero, List.set_cons_succ]
          refine tk 26 (some 84) (v := ?_) ?_ ?_
          rotate_left
          · intro w hSw
            have c0 := cell_bl hSw (unhide HC0)
            first | (go_simp; done) | (go_simp; with_reducible rfl) | with_reducible rfl | rfl
          try simp only [Act.put, List.setIfInBounds_toArray, List.set_cons_zero, List.set_cons_succ]
          refine tk 27 (some 85) (v := ?_) ?_ ?_
          rotate_left
          · intro w hSw
            first | (go_simp; done) | (go_simp; with_reducible rfl) | with_reducible rfl | rfl
          try simp only [Act.put, List.setIfInBounds_toArray, List.set_cons_zero, List.set_cons_succ]
          refine tk 28 (some 86) (v := ?_) ?_ ?_
          rotate_left
          · intro w hSw
            have hT := (unhide HQ).below hSw; have q0 := hT.cell 0 rfl; have q1 := hT.cell 1 rfl; have q2 := hT.cell 2 rfl; have q3 := hT.cell 3 rfl; have q4 := hT.cell 4 rfl
            first | (go_simp; done) | (go_simp; with_reducible rfl) | with_reducible rfl | rfl
          try simp only [Act.put, List.setIfInBounds_toArray, List.set_cons_zero, List.set_cons_succ]
          by_cases hw1 : x1 = r0
          case neg =>
            have HU := hide (unhide HMO ((unhide HWW).trans (df_3 (unhide HGD) (dk_1 hw1))))
            have hb7 : (r0 != x1) = true := by rw [bne_iff_ne]; exact fun e => hw1 e.symm
            clear hw1
            refine tk 29 (some 87) (v := ?_) ?_ ?_
            rotate_left
            · intro w hSw
              first | (go_simp; done) | (go_simp; with_reducible rfl) | with_reducible rfl | rfl
            try simp only [Act.put, List.setIfInBounds_toArray, List.set_cons_zero, List.set_cons_succ]
            refine tk 30 (some 88) (v := ?_) ?_ ?_
            rotate_left
            · intro w hSw
              first | (go_simp; done) | (go_simp; with_reducible rfl) | with_reducible rfl | rfl
            try simp only [Act.put, List.setIfInBounds_toArray, List.set_cons_zero, List.set_cons_succ]
            refine tk 31 (some 89) (v := ?_) ?_ ?_
            rotate_left
            · intro w hSw
              first | (go_simp; done) | (go_simp; with_reducible rfl) | with_reducible rfl | rfl
            try simp only [Act.put, List.setIfInBounds_toArray, List.set_cons_zero, List.set_cons_succ]
            refine sk 32 (some 90) ?_
            try simp only [Act.put, List.setIfInBounds_toArray, List.set_cons_zero, List.set_cons_succ]
            refine sk 33 (some 91) ?_
            try simp only [Act.put, List.setIfInBounds_toArray, List.set_cons_zero, List.set_cons_succ]
            refine sk 34 (some 92) ?_
            try simp only [Act.put, List.setIfInBounds_toArray, List.set_cons_zero, List.set_cons_succ]
            refine tk 35 (some 93) (v := ?_) ?_ ?_
            rotate_left
            · intro w hSw
              first | (go_simp; done) | (go_simp; with_reducible rfl) | with_reducible rfl | rfl
            try simp only [Act.put, List.setIfInBounds_toArray, List.set_cons_zero, List.set_cons_succ]
            refine tk 36 (some 94) (v := ?_) ?_ ?_
            rotate_left
            · intro w hSw
              first | (go_simp; done) | (go_simp; with_reducible rfl) | with_reducible rfl | rfl
            try simp only [Act.put, List.setIfInBounds_toArray, List.set_cons_zero, List.set_cons_succ]
            refine sk 37 (some 95) ?_
            try simp only [Act.put, List.setIfInBounds_toArray, List.set_cons_zero, List.set_cons_succ]
            refine sk 38 (some 96) ?_
            try simp only [Act.put, List.setIfInBounds_toArray, List.set_cons_zero, List.set_cons_succ]
            refine sk 39 (some 97) ?_
            try simp only [Act.put, List.setIfInBounds_toArray, List.set_cons_zero, List.set_cons_succ]
            refine sk 40 (some 98) ?_
            try simp only [Act.put, List.setIfInBounds_toArray, List.set_cons_zero, List.set_cons_succ]
            refine sk 41 (some 99) ?_
            try simp only [Act.put, List.setIfInBounds_toArray, List.set_cons_zero, List.set_cons_succ]
            refine sk 42 (some 100) ?_
            try simp only [Act.put, List.setIfInBounds_toArray, List.set_cons_zero, List.set_cons_succ]
            refine tk 43 (some 101) (v := ?_) ?_ ?_
            rotate_left
            · intro w hSw
              first | (go_simp; done) | (go_simp; with_reducible rfl) | with_reducible rfl | rfl
            try simp only [Act.put, List.setIfInBounds_toArray, List.set_cons_zero, List.set_cons_succ]
            refine tk 44 (some 102) (v := ?_) ?_ ?_
            rotate_left
            · intro w hSw
              first | (go_simp; done) | (go_simp; with_reducible rfl) | with_reducible rfl | rfl
            try simp only [Act.put, List.setIfInBounds_toArray, List.set_cons_zero, List.set_cons_succ]
            refine sk 45 (some 103) ?_
            try simp only [Act.put, List.setIfInBounds_toArray, List.set_cons_zero, List.set_cons_succ]
            refine sk 46 (some 104) ?_
            try simp only [Act.put, List.setIfInBounds_toArray, List.set_cons_zero, List.set_cons_succ]
            refine sk 47 (some 105) ?_
            try simp only [Act.put, List.setIfInBounds_toArray, List.set_cons_zero, List.set_cons_succ]
            refine sk 48 (some 106) ?_
            try simp only [Act.put, List.setIfInBounds_toArray, List.set_cons_zero, List.set_cons_succ]
            refine sk 49 (some 107) ?_
            try simp only [Act.put, List.setIfInBounds_toArray, List.set_cons_zero, List.set_cons_succ]
            refine sk 50 (some 108) ?_
            try simp only [Act.put, List.setIfInBounds_toArray, List.set_cons_zero, List.set_cons_succ]
            refine sk 51 (some 109) ?_
            try simp only [Act.put, List.setIfInBounds_toArray, List.set_cons_zero, List.set_cons_succ]
            refine sk 52 (some 110) ?_
            try simp only [Act.put, List.setIfInBounds_toArray, List.set_cons_zero, List.set_cons_succ]
            refine sk 53 (some 111) ?_
            try simp only [Act.put, List.setIfInBounds_toArray, List.set_cons_zero, List.set_cons_succ]
            refine sk 54 (some 112) ?_
            try simp only [Act.put, List.setIfInBounds_toArray, List.set_cons_zero, List.set_cons_succ]
            refine sk 55 (some 113) ?_
            try simp only [Act.put, List.setIfInBounds_toArray, List.set_cons_zero, List.set_cons_succ]
            refine tk 56 (some 114) (v := ?_) ?_ ?_
            rotate_left
            · intro w hSw
              first | (go_simp; done) | (go_simp; with_reducible rfl) | with_reducible rfl | rfl
            try simp only [Act.put, List.setIfInBounds_toArray, List.set_cons_zero, List.set_cons_succ]
            refine wpAnyH_done (by kernel_rfl) ?_ _
            replace HB := hide (below_tr (unhide HB) HD)
            replace HRR := hide ((unhide HRR).bel HD)
            replace HX := hide ((unhide HX).bel HD)
            replace HW := hide ((unhide HW).bel HD)
            replace HBW := hide ((unhide HBW).bel HD)
            replace HQ := hide ((unhide HQ).bel HD)
            clear HD 
            have x0c := (unhide HX).cell 0 rfl
            have x1c := (unhide HX).cell 1 rfl
            have x2c := (unhide HX).cell 2 rfl
            have x3c := (unhide HX).cell 3 rfl
            have x4c := (unhide HX).cell 4 rfl
            have x5c := (unhide HX).cell 5 rfl
            have q0 := (unhide HQ).cell 0 rfl
            have q1 := (unhide HQ).cell 1 rfl
            have q2 := (unhide HQ).cell 2 rfl
            have q3 := (unhide HQ).cell 3 rfl
            have q4 := (unhide HQ).cell 4 rfl
            go_wp2_with fail
            go_ret
            exact ⟨ret_bool (unhide HU).symm, unhide HB⟩
          have hb7 : (r0 != x1) = false := by rw [bne_eq_false_iff_eq]; exact hw1.symm
          have HW1 := hide hw1
          clear hw1
          refine tk 29 (some 87) (v := ?_) ?_ ?_
          rotate_left
          · intro w hSw
            first | (go_simp; done) | (go_simp; with_reducible rfl) | with_reducible rfl | rfl
          try simp only [Act.put, List.setIfInBounds_toArray, List.set_cons_zero, List.set_cons_succ]
          refine tk 30 (some 88) (v := ?_) ?_ ?_
          rotate_left
          · intro w hSw
            first | (go_simp; done) | (go_simp; with_reducible rfl) | with_reducible rfl | rfl
          try simp only [Act.put, List.setIfInBounds_toArray, List.set_cons_zero, List.set_cons_succ]
          refine tk 31 (some 89) (v := ?_) ?_ ?_
          rotate_left
          · intro w hSw
            first | (go_simp; done) | (go_simp; with_reducible rfl) | with_reducible rfl | rfl
          try simp only [Act.put, List.setIfInBounds_toArray, List.set_cons_zero, List.set_cons_succ]
          refine tk 32 (some 90) (v := ?_) ?_ ?_
          rotate_left
          · intro w hSw
            first | (go_simp; done) | (go_simp; with_reducible rfl) | with_reducible rfl | rfl
          try simp only [Act.put, List.setIfInBounds_toArray, List.set_cons_zero, List.set_cons_succ]
          refine tk 33 (some 91) (v := ?_) ?_ ?_
          rotate_left
          · intro w hSw
            have hT := (unhide HQ).below hSw; have q0 := hT.cell 0 rfl; have q1 := hT.cell 1 rfl; have q2 := hT.cell 2 rfl; have q3 := hT.cell 3 rfl; have q4 := hT.cell 4 rfl
            first | (go_simp; done) | (go_simp; with_reducible rfl) | with_reducible rfl | rfl
          try simp only [Act.put, List.setIfInBounds_toArray, List.set_cons_zero, List.set_cons_succ]
          by_cases hz0 : x1 = 0
          case pos =>
            have HU := hide (unhide HMO ((unhide HWW).trans (df_3 (unhide HGD) (dk_3 (row_noneM (unhide HROK) ((unhide HW1).symm.trans hz0) x2)))))
            have hb8 : (x1 == 0) = true := by rw [beq_iff_eq]; exact hz0
            clear hz0
            refine tk 34 (some 92) (v := ?_) ?_ ?_
            rotate_left
            · intro w hSw
              first | (go_simp; done) | (go_simp; with_reducible rfl) | with_reducible rfl | rfl
            try simp only [Act.put, List.setIfInBounds_toArray, List.set_cons_zero, List.set_cons_succ]
            refine tk 35 (some 93) (v := ?_) ?_ ?_
            rotate_left
            · intro w hSw
              first | (go_simp; done) | (go_simp; with_reducible rfl) | with_reducible rfl | rfl
            try simp only [Act.put, List.setIfInBounds_toArray, List.set_cons_zero, List.set_cons_succ]
            refine tk 36 (some 94) (v := ?_) ?_ ?_
            rotate_left
            · intro w hSw
              first | (go_simp; done) | (go_simp; with_reducible rfl) | with_reducible rfl | rfl
            try simp only [Act.put, List.setIfInBounds_toArray, List.set_cons_zero, List.set_cons_succ]
            refine sk 37 (some 95) ?_
            try simp only [Act.put, List.setIfInBounds_toArray, List.set_cons_zero, List.set_cons_succ]
            refine sk 38 (some 96) ?_
            try simp only [Act.put, List.setIfInBounds_toArray, List.set_cons_zero, List.set_cons_succ]
            refine sk 39 (some 97) ?_
            try simp only [Act.put, List.setIfInBounds_toArray, List.set_cons_zero, List.set_cons_succ]
            refine sk 40 (some 98) ?_
            try simp only [Act.put, List.setIfInBounds_toArray, List.set_cons_zero, List.set_cons_succ]
            refine sk 41 (some 99) ?_
            try simp only [Act.put, List.setIfInBounds_toArray, List.set_cons_zero, List.set_cons_succ]
            refine sk 42 (some 100) ?_
            try simp only [Act.put, List.setIfInBounds_toArray, List.set_cons_zero, List.set_cons_succ]
            refine tk 43 (some 101) (v := ?_) ?_ ?_
            rotate_left
            · intro w hSw
              first | (go_simp; done) | (go_simp; with_reducible rfl) | with_reducible rfl | rfl
            try simp only [Act.put, List.setIfInBounds_toArray, List.set_cons_zero, List.set_cons_succ]
            refine tk 44 (some 102) (v := ?_) ?_ ?_
            rotate_left
            · intro w hSw
              first | (go_simp; done) | (go_simp; with_reducible rfl) | with_reducible rfl | rfl
            try simp only [Act.put, List.setIfInBounds_toArray, List.set_cons_zero, List.set_cons_succ]
            refine sk 45 (some 103) ?_
            try simp only [Act.put, List.setIfInBounds_toArray, List.set_cons_zero, List.set_cons_succ]
            refine sk 46 (some 104) ?_
            try simp only [Act.put, List.setIfInBounds_toArray, List.set_cons_zero, List.set_cons_succ]
            refine sk 47 (some 105) ?_
            try simp only [Act.put, List.setIfInBounds_toArray, List.set_cons_zero, List.set_cons_succ]
            refine sk 48 (some 106) ?_
            try simp only [Act.put, List.setIfInBounds_toArray, List.set_cons_zero, List.set_cons_succ]
            refine sk 49 (some 107) ?_
            try simp only [Act.put, List.setIfInBounds_toArray, List.set_cons_zero, List.set_cons_succ]
            refine sk 50 (some 108) ?_
            try simp only [Act.put, List.setIfInBounds_toArray, List.set_cons_zero, List.set_cons_succ]
            refine sk 51 (some 109) ?_
            try simp only [Act.put, List.setIfInBounds_toArray, List.set_cons_zero, List.set_cons_succ]
            refine sk 52 (some 110) ?_
            try simp only [Act.put, List.setIfInBounds_toArray, List.set_cons_zero, List.set_cons_succ]
            refine sk 53 (some 111) ?_
            try simp only [Act.put, List.setIfInBounds_toArray, List.set_cons_zero, List.set_cons_succ]
            refine sk 54 (some 112) ?_
            try simp only [Act.put, List.setIfInBounds_toArray, List.set_cons_zero, List.set_cons_succ]
            refine sk 55 (some 113) ?_
            try simp only [Act.put, List.setIfInBounds_toArray, List.set_cons_zero, List.set_cons_succ]
            refine tk 56 (some 114) (v := ?_) ?_ ?_
            rotate_left
            · intro w hSw
              first | (go_simp; done) | (go_simp; with_reducible rfl) | with_reducible rfl | rfl
            try simp only [Act.put, List.setIfInBounds_toArray, List.set_cons_zero, List.set_cons_succ]
            refine wpAnyH_done (by kernel_rfl) ?_ _
            replace HB := hide (below_tr (unhide HB) HD)
            replace HRR := hide ((unhide HRR).bel HD)
            replace HX := hide ((unhide HX).bel HD)
            replace HW := hide ((unhide HW).bel HD)
            replace HBW := hide ((unhide HBW).bel HD)
            replace HQ := hide ((unhide HQ).bel HD)
            clear HD 
            have x0c := (unhide HX).cell 0 rfl
            have x1c := (unhide HX).cell 1 rfl
            have x2c := (unhide HX).cell 2 rfl
            have x3c := (unhide HX).cell 3 rfl
            have x4c := (unhide HX).cell 4 rfl
            have x5c := (unhide HX).cell 5 rfl
            have q0 := (unhide HQ).cell 0 rfl
            have q1 := (unhide HQ).cell 1 rfl
            have q2 := (unhide HQ).cell 2 rfl
            have q3 := (unhide HQ).cell 3 rfl
            have q4 := (unhide HQ).cell 4 rfl
            go_wp2_with fail
            go_ret
            exact ⟨ret_bool (unhide HU).symm, unhide HB⟩
          have hb8 : (x1 == 0) = false := by rw [beq_eq_false_iff_ne]; exact hz0
          clear hz0
          refine tk 34 (some 92) (v := ?_) ?_ ?_
          rotate_left
          · intro w hSw
            first | (go_simp; done) | (go_simp; with_reducible rfl) | with_reducible rfl | rfl
          try simp only [Act.put, List.setIfInBounds_toArray, List.set_cons_zero, List.set_cons_succ]
          refine tk 35 (some 93) (v := ?_) ?_ ?_
          rotate_left
          · intro w hSw
            first | (go_simp; done) | (go_simp; with_reducible rfl) | with_reducible rfl | rfl
          try simp only [Act.put, List.setIfInBounds_toArray, List.set_cons_zero, List.set_cons_succ]
          refine tk 36 (some 94) (v := ?_) ?_ ?_
          rotate_left
          · intro w hSw
            first | (go_simp; done) | (go_simp; with_reducible rfl) | with_reducible rfl | rfl
          try simp only [Act.put, List.setIfInBounds_toArray, List.set_cons_zero, List.set_cons_succ]
          refine tk 37 (some 95) (v := ?_) ?_ ?_
          rotate_left
          · intro w hSw
            first | (go_simp; done) | (go_simp; with_reducible rfl) | with_reducible rfl | rfl
          try simp only [Act.put, List.setIfInBounds_toArray, List.set_cons_zero, List.set_cons_succ]
          refine tk 38 (some 96) (v := ?_) ?_ ?_
          rotate_left
          · intro w hSw
            first | (go_simp; done) | (go_simp; with_reducible rfl) | with_reducible rfl | rfl
          try simp only [Act.put, List.setIfInBounds_toArray, List.set_cons_zero, List.set_cons_succ]
          refine tk 39 (some 97) (v := ?_) ?_ ?_
          rotate_left
          · intro w hSw
            have hT := (unhide HQ).below hSw; have q0 := hT.cell 0 rfl; have q1 := hT.cell 1 rfl; have q2 := hT.cell 2 rfl; have q3 := hT.cell 3 rfl; have q4 := hT.cell 4 rfl
            first | (go_simp; done) | (go_simp; with_reducible rfl) | with_reducible rfl | rfl
          try simp only [Act.put, List.setIfInBounds_toArray, List.set_cons_zero, List.set_cons_succ]
          refine tk 40 (some 98) (v := ?_) ?_ ?_
          rotate_left
          · intro w hSw
            first | (go_simp; done) | (go_simp; with_reducible rfl) | with_reducible rfl | rfl
          try simp only [Act.put, List.setIfInBounds_toArray, List.set_cons_zero, List.set_cons_succ]
          refine tk 41 (some 99) (v := ?_) ?_ ?_
          rotate_left
          · intro w hSw
            first | (go_simp; done) | (go_simp; with_reducible rfl) | with_reducible rfl | rfl
          try simp only [Act.put, List.setIfInBounds_toArray, List.set_cons_zero, List.set_cons_succ]
          rcases r2 with _ | _
          case true =>
            have HU := hide (unhide HMO ((unhide HWW).trans (df_3 (unhide HGD) (dk_2))))
            refine tk 42 (some 100) (v := ?_) ?_ ?_
            rotate_left
            · intro w hSw
              have c2 := cell_bl hSw (unhide HC2)
              first | (go_simp; done) | (go_simp; with_reducible rfl) | with_reducible rfl | rfl
            try simp only [Act.put, List.setIfInBounds_toArray, List.set_cons_zero, List.set_cons_succ]
            refine tk 43 (some 101) (v := ?_) ?_ ?_
            rotate_left
            · intro w hSw
              first | (go_simp; done) | (go_simp; with_reducible rfl) | with_reducible rfl | rfl
            try simp only [Act.put, List.setIfInBounds_toArray, List.set_cons_zero, List.set_cons_succ]
            refine tk 44 (some 102) (v := ?_) ?_ ?_
            rotate_left
            · intro w hSw
              first | (go_simp; done) | (go_simp; with_reducible rfl) | with_reducible rfl | rfl
            try simp only [Act.put, List.setIfInBounds_toArray, List.set_cons_zero, List.set_cons_succ]
            refine sk 45 (some 103) ?_
            try simp only [Act.put, List.setIfInBounds_toArray, List.set_cons_zero, List.set_cons_succ]
            refine sk 46 (some 104) ?_
            try simp only [Act.put, List.setIfInBounds_toArray, List.set_cons_zero, List.set_cons_succ]
            refine sk 47 (some 105) ?_
            try simp only [Act.put, List.setIfInBounds_toArray, List.set_cons_zero, List.set_cons_succ]
            refine sk 48 (some 106) ?_
            try simp only [Act.put, List.setIfInBounds_toArray, List.set_cons_zero, List.set_cons_succ]
            refine sk 49 (some 107) ?_
            try simp only [Act.put, List.setIfInBounds_toArray, List.set_cons_zero, List.set_cons_succ]
            refine sk 50 (some 108) ?_
            try simp only [Act.put, List.setIfInBounds_toArray, List.set_cons_zero, List.set_cons_succ]
            refine sk 51 (some 109) ?_
            try simp only [Act.put, List.setIfInBounds_toArray, List.set_cons_zero, List.set_cons_succ]
            refine sk 52 (some 110) ?_
            try simp only [Act.put, List.setIfInBounds_toArray, List.set_cons_zero, List.set_cons_succ]
            refine sk 53 (some 111) ?_
            try simp only [Act.put, List.setIfInBounds_toArray, List.set_cons_zero, List.set_cons_succ]
            refine sk 54 (some 112) ?_
            try simp only [Act.put, List.setIfInBounds_toArray, List.set_cons_zero, List.set_cons_succ]
            refine sk 55 (some 113) ?_
            try simp only [Act.put, List.setIfInBounds_toArray, List.set_cons_zero, List.set_cons_succ]
            refine tk 56 (some 114) (v := ?_) ?_ ?_
            rotate_left
            · intro w hSw
              first | (go_simp; done) | (go_simp; with_reducible rfl) | with_reducible rfl | rfl
            try simp only [Act.put, List.setIfInBounds_toArray, List.set_cons_zero, List.set_cons_succ]
            refine wpAnyH_done (by kernel_rfl) ?_ _
            replace HB := hide (below_tr (unhide HB) HD)
            replace HRR := hide ((unhide HRR).bel HD)
            replace HX := hide ((unhide HX).bel HD)
            replace HW := hide ((unhide HW).bel HD)
            replace HBW := hide ((unhide HBW).bel HD)
            replace HQ := hide ((unhide HQ).bel HD)
            clear HD 
            have x0c := (unhide HX).cell 0 rfl
            have x1c := (unhide HX).cell 1 rfl
            have x2c := (unhide HX).cell 2 rfl
            have x3c := (unhide HX).cell 3 rfl
            have x4c := (unhide HX).cell 4 rfl
            have x5c := (unhide HX).cell 5 rfl
            have q0 := (unhide HQ).cell 0 rfl
            have q1 := (unhide HQ).cell 1 rfl
            have q2 := (unhide HQ).cell 2 rfl
            have q3 := (unhide HQ).cell 3 rfl
            have q4 := (unhide HQ).cell 4 rfl
            go_wp2_with fail
            go_ret
            exact ⟨ret_bool (unhide HU).symm, unhide HB⟩
          refine tk 42 (some 100) (v := ?_) ?_ ?_
          rotate_left
          · intro w hSw
            have c2 := cell_bl hSw (unhide HC2)
            first | (go_simp; done) | (go_simp; with_reducible rfl) | with_reducible rfl | rfl
          try simp only [Act.put, List.setIfInBounds_toArray, List.set_cons_zero, List.set_cons_succ]
          refine tk 43 (some 101) (v := ?_) ?_ ?_
          rotate_left
          · intro w hSw
            first | (go_simp; done) | (go_simp; with_reducible rfl) | with_reducible rfl | rfl
          try simp only [Act.put, List.setIfInBounds_toArray, List.set_cons_zero, List.set_cons_succ]
          refine tk 44 (some 102) (v := ?_) ?_ ?_
          rotate_left
          · intro w hSw
            first | (go_simp; done) | (go_simp; with_reducible rfl) | with_reducible rfl | rfl
          try simp only [Act.put, List.setIfInBounds_toArray, List.set_cons_zero, List.set_cons_succ]
          refine tk 45 (some 103) (v := ?_) ?_ ?_
          rotate_left
          · intro w hSw
            first | (go_simp; done) | (go_simp; with_reducible rfl) | with_reducible rfl | rfl
          try simp only [Act.put, List.setIfInBounds_toArray, List.set_cons_zero, List.set_cons_succ]
          refine tk 46 (some 104) (v := ?_) ?_ ?_
          rotate_left
          · intro w hSw
            have hT := (unhide HQ).below hSw; have q0 := hT.cell 0 rfl; have q1 := hT.cell 1 rfl; have q2 := hT.cell 2 rfl; have q3 := hT.cell 3 rfl; have q4 := hT.cell 4 rfl
            first | (go_simp; done) | (go_simp; with_reducible rfl) | with_reducible rfl | rfl
          try simp only [Act.put, List.setIfInBounds_toArray, List.set_cons_zero, List.set_cons_succ]
          refine tk 47 (some 105) (v := ?_) ?_ ?_
          rotate_left
          · intro w hSw
            first | (go_simp; done) | (go_simp; with_reducible rfl) | with_reducible rfl | rfl
          try simp only [Act.put, List.setIfInBounds_toArray, List.set_cons_zero, List.set_cons_succ]
          refine tk 48 (some 106) (v := ?_) ?_ ?_
          rotate_left
          · intro w hSw
            first | (go_simp; done) | (go_simp; with_reducible rfl) | with_reducible rfl | rfl
          try simp only [Act.put, List.setIfInBounds_toArray, List.set_cons_zero, List.set_cons_succ]
          refine tk 49 (some 107) (v := ?_) ?_ ?_
          rotate_left
          · intro w hSw
            have hT := (unhide HQ).below hSw; have q0 := hT.cell 0 rfl; have q1 := hT.cell 1 rfl; have q2 := hT.cell 2 rfl; have q3 := hT.cell 3 rfl; have q4 := hT.cell 4 rfl
            first | (go_simp; done) | (go_simp; with_reducible rfl) | with_reducible rfl | rfl
          try simp only [Act.put, List.setIfInBounds_toArray, List.set_cons_zero, List.set_cons_succ]
          refine tk 50 (some 108) (v := ?_) ?_ ?_
          rotate_left
          · intro w hSw
            first | (go_simp; done) | (go_simp; with_reducible rfl) | with_reducible rfl | rfl
          try simp only [Act.put, List.setIfInBounds_toArray, List.set_cons_zero, List.set_cons_succ]
          refine tk 51 (some 109) (v := ?_) ?_ ?_
          rotate_left
          · intro w hSw
            first | (go_simp; done) | (go_simp; with_reducible rfl) | with_reducible rfl | rfl
          try simp only [Act.put, List.setIfInBounds_toArray, List.set_cons_zero, List.set_cons_succ]
          refine tk 52 (some 110) (v := ?_) ?_ ?_
          rotate_left
          · intro w hSw
            have c1 := cell_bl hSw (unhide HC1)
            first | (go_simp; done) | (go_simp; with_reducible rfl) | with_reducible rfl | rfl
          try simp only [Act.put, List.setIfInBounds_toArray, List.set_cons_zero, List.set_cons_succ]
          refine wpAnyH_ready (rs := [53]) (by kernel_rfl) (by simp) ?_
          refine AllReadyH.cons (o := { dst := some 111, op := _, type := _, pos := _, after := _, guard := _ }) rfl (fun K hK => ?_) AllReadyH.nil
          go_simp
          go_at_call 122
          refine (c122 r1 _).mono ?_
          rintro e V2 ⟨rfl, hww⟩
          have hww := hww.symm
          subst hww
          try go_wp2_with fail
          refine hK.out _ _ HD (fun hHeld => ?_)
          clear hK K hHeld
          try simp only [Act.put, List.setIfInBounds_toArray, List.set_cons_zero, List.set_cons_succ]
          rcases hpp : decide (1 ≤ x2 ∧ x2 ≤ Tm.cap r1) with _ | _
          case false =>
            have HU := hide (unhide HMO ((unhide HWW).trans (df_3 (unhide HGD) (dk_3 hpp))))
            have HPP := hide hpp
            clear hpp
            refine wpAnyH_ready (rs := [54]) (by kernel_rfl) (by simp) ?_
            refine AllReadyH.cons (o := { dst := some 112, op := _, type := _, pos := _, after := _, guard := _ }) rfl (fun K hK => ?_) AllReadyH.nil
            go_simp
            go_at_call 109
            refine (l1b (unhide HPP) _).mono ?_
            rintro e V3 ⟨rfl, hww⟩
            have hww := hww.symm
            subst hww
            try go_wp2_with fail
            refine hK.out _ _ HD (fun hHeld => ?_)
            clear hK K hHeld
            try simp only [Act.put, List.setIfInBounds_toArray, List.set_cons_zero, List.set_cons_succ]
            refine tk 55 (some 113) (v := ?_) ?_ ?_
            rotate_left
            · intro w hSw
              first | (go_simp; done) | (go_simp; with_reducible rfl) | with_reducible rfl | rfl
            try simp only [Act.put, List.setIfInBounds_toArray, List.set_cons_zero, List.set_cons_succ]
            refine tk 56 (some 114) (v := ?_) ?_ ?_
            rotate_left
            · intro w hSw
              first | (go_simp; done) | (go_simp; with_reducible rfl) | with_reducible rfl | rfl
            try simp only [Act.put, List.setIfInBounds_toArray, List.set_cons_zero, List.set_cons_succ]
            refine wpAnyH_done (by kernel_rfl) ?_ _
            replace HB := hide (below_tr (unhide HB) HD)
            replace HRR := hide ((unhide HRR).bel HD)
            replace HX := hide ((unhide HX).bel HD)
            replace HW := hide ((unhide HW).bel HD)
            replace HBW := hide ((unhide HBW).bel HD)
            replace HQ := hide ((unhide HQ).bel HD)
            clear HD 
            have x0c := (unhide HX).cell 0 rfl
            have x1c := (unhide HX).cell 1 rfl
            have x2c := (unhide HX).cell 2 rfl
            have x3c := (unhide HX).cell 3 rfl
            have x4c := (unhide HX).cell 4 rfl
            have x5c := (unhide HX).cell 5 rfl
            have q0 := (unhide HQ).cell 0 rfl
            have q1 := (unhide HQ).cell 1 rfl
            have q2 := (unhide HQ).cell 2 rfl
            have q3 := (unhide HQ).cell 3 rfl
            have q4 := (unhide HQ).cell 4 rfl
            go_wp2_with fail
            go_ret
            exact ⟨ret_bool (unhide HU).symm, unhide HB⟩
          have HON := hide (dk_on (c := cl) (x0 := (j : Int)) (x3 := x3) (x4 := x4) (unhide HW1) hpp)
          have HPP := hide hpp
          clear hpp
          refine wpAnyH_ready (rs := [54]) (by kernel_rfl) (by simp) ?_
          refine AllReadyH.cons (o := { dst := some 112, op := _, type := _, pos := _, after := _, guard := _ }) rfl (fun K hK => ?_) AllReadyH.nil
          go_simp
          go_at_call 109
          refine (l1b (unhide HPP) _).mono ?_
          rintro e V3 ⟨rfl, hww⟩
          have hww := hww.symm
          subst hww
          try go_wp2_with fail
          refine hK.out _ _ HD (fun hHeld => ?_)
          clear hK K hHeld
          try simp only [Act.put, List.setIfInBounds_toArray, List.set_cons_zero, List.set_cons_succ]
          refine tk 55 (some 113) (v := ?_) ?_ ?_
          rotate_left
          · intro w hSw
            first | (go_simp; done) | (go_simp; with_reducible rfl) | with_reducible rfl | rfl
          try simp only [Act.put, List.setIfInBounds_toArray, List.set_cons_zero, List.set_cons_succ]
          refine tk 56 (some 114) (v := ?_) ?_ ?_
          rotate_left
          · intro w hSw
            first | (go_simp; done) | (go_simp; with_reducible rfl) | with_reducible rfl | rfl
          try simp only [Act.put, List.setIfInBounds_toArray, List.set_cons_zero, List.set_cons_succ]
          refine wpAnyH_done (by kernel_rfl) ?_ _
          replace HB := hide (below_tr (unhide HB) HD)
          replace HRR := hide ((unhide HRR).bel HD)
          replace HX := hide ((unhide HX).bel HD)
          replace HW := hide ((unhide HW).bel HD)
          replace HBW := hide ((unhide HBW).bel HD)
          replace HQ := hide ((unhide HQ).bel HD)
          clear HD 
          by_cases h3 : x3 = 0
          case pos =>
            as_aux_lemma =>
              have hb3 : (x3 == 0) = true := by rw [beq_iff_eq]; exact h3
              by_cases h4 : x4 = 0
              case pos =>
                have hb4 : (x4 != 0) = false := by rw [bne_eq_false_iff_eq]; exact h4
                have hb33 : (x3 != 0) = false := by rw [bne_eq_false_iff_eq]; exact h3
                have HNX := hide ((unhide HWW).trans (df_on (unhide HPK) (by have := unhide HLL; omega) (unhide HGD) ((unhide HON).trans (by rw [h3, dw_0, h4]; rfl))))
                rw [← unhide HDL] at HNX
                clear h3 h4
                have x0c := (unhide HX).cell 0 rfl
                have x1c := (unhide HX).cell 1 rfl
                have x2c := (unhide HX).cell 2 rfl
                have x3c := (unhide HX).cell 3 rfl
                have x4c := (unhide HX).cell 4 rfl
                have x5c := (unhide HX).cell 5 rfl
                have q0 := (unhide HQ).cell 0 rfl
                have q1 := (unhide HQ).cell 1 rfl
                have q2 := (unhide HQ).cell 2 rfl
                have q3 := (unhide HQ).cell 3 rfl
                have q4 := (unhide HQ).cell 4 rfl
                go_wp2_with fail
                (try clear x0c x1c x2c x3c x4c x5c q0 q1 q2 q3 q4)
                go_roundw
                case rel => exact ⟨0 + 1, by omega, by go_num, unhide HNX, unhide HBW⟩
                case measure => simp [intOf]; omega
              have hb4 : (x4 != 0) = true := by rw [bne_iff_ne]; exact h4
              have HU := hide (unhide HMO ((unhide HWW).trans (df_3 (unhide HGD) ((unhide HON).trans (by rw [h3, dw_0]; exact decide_eq_false h4)))))
              clear h3 h4
              have x0c := (unhide HX).cell 0 rfl
              have x1c := (unhide HX).cell 1 rfl
              have x2c := (unhide HX).cell 2 rfl
              have x3c := (unhide HX).cell 3 rfl
              have x4c := (unhide HX).cell 4 rfl
              have x5c := (unhide HX).cell 5 rfl
              have q0 := (unhide HQ).cell 0 rfl
              have q1 := (unhide HQ).cell 1 rfl
              have q2 := (unhide HQ).cell 2 rfl
              have q3 := (unhide HQ).cell 3 rfl
              have q4 := (unhide HQ).cell 4 rfl
              go_wp2_with fail
              go_ret
              exact ⟨ret_bool (unhide HU).symm, unhide HB⟩
          have hb3 : (x3 == 0) = false := by rw [beq_eq_false_iff_ne]; exact h3
          have hb33 : (x3 != 0) = true := by rw [bne_iff_ne]; exact h3
          rcases hu : decide (1 ≤ x3 ∧ x3 ≤ 5) with _ | _
          case false =>
            as_aux_lemma =>
              have HU := hide (unhide HMO ((unhide HWW).trans (df_3 (unhide HGD) ((unhide HON).trans (dw_1 h3 hu)))))
              clear h3
              have x0c := (unhide HX).cell 0 rfl
              have x1c := (unhide HX).cell 1 rfl
              have x2c := (unhide HX).cell 2 rfl
              have x3c := (unhide HX).cell 3 rfl
              have x4c := (unhide HX).cell 4 rfl
              have x5c := (unhide HX).cell 5 rfl
              have q0 := (unhide HQ).cell 0 rfl
              have q1 := (unhide HQ).cell 1 rfl
              have q2 := (unhide HQ).cell 2 rfl
              have q3 := (unhide HQ).cell 3 rfl
              have q4 := (unhide HQ).cell 4 rfl
              go_wp2_with fail
              refine (c109 x3 1 5 _).mono ?_
              rintro e wz ⟨rfl, hww⟩
              have hww := hww.symm
              subst hww
              rw [hu]
              go_wp2_with fail
              go_ret
              exact ⟨ret_bool (unhide HU).symm, unhide HB⟩
          by_cases h5 : x3 = x1
          case pos =>
            as_aux_lemma =>
              have HU := hide (unhide HMO ((unhide HWW).trans (df_3 (unhide HGD) ((unhide HON).trans (dw_2 h3 h5)))))
              have hb5 : (x3 == x1) = true := by rw [beq_iff_eq]; exact h5
              clear h3 h5
              have x0c := (unhide HX).cell 0 rfl
              have x1c := (unhide HX).cell 1 rfl
              have x2c := (unhide HX).cell 2 rfl
              have x3c := (unhide HX).cell 3 rfl
              have x4c := (unhide HX).cell 4 rfl
              have x5c := (unhide HX).cell 5 rfl
              have q0 := (unhide HQ).cell 0 rfl
              have q1 := (unhide HQ).cell 1 rfl
              have q2 := (unhide HQ).cell 2 rfl
              have q3 := (unhide HQ).cell 3 rfl
              have q4 := (unhide HQ).cell 4 rfl
              go_wp2_with fail
              refine (c109 x3 1 5 _).mono ?_
              rintro e wz ⟨rfl, hww⟩
              have hww := hww.symm
              subst hww
              rw [hu]
              go_wp2_with fail
              go_ret
              exact ⟨ret_bool (unhide HU).symm, unhide HB⟩
          have hb5 : (x3 == x1) = false := by rw [beq_eq_false_iff_ne]; exact h5
          have HDW := hide (dw_3 (c := cl) (x0 := (j : Int)) (x2 := x2) (x4 := x4) h3 hu h5)
          have hcl2 := unhide HCL
          have hwr : IntKind.i64.wrap (cl + 5) = cl + 5 := wrap_sub (by omega) (by omega)
          clear h3 h5 hcl2
          rcases hv : decide (cl ≤ x4 ∧ x4 ≤ cl + 5) with _ | _
          case false =>
            as_aux_lemma =>
              have HU := hide (unhide HMO ((unhide HWW).trans (df_3 (unhide HGD) ((unhide HON).trans ((unhide HDW).trans hv)))))
              have x0c := (unhide HX).cell 0 rfl
              have x1c := (unhide HX).cell 1 rfl
              have x2c := (unhide HX).cell 2 rfl
              have x3c := (unhide HX).cell 3 rfl
              have x4c := (unhide HX).cell 4 rfl
              have x5c := (unhide HX).cell 5 rfl
              have q0 := (unhide HQ).cell 0 rfl
              have q1 := (unhide HQ).cell 1 rfl
              have q2 := (unhide HQ).cell 2 rfl
              have q3 := (unhide HQ).cell 3 rfl
              have q4 := (unhide HQ).cell 4 rfl
              go_wp2_with fail
              refine (c109 x3 1 5 _).mono ?_
              rintro e wz ⟨rfl, hww⟩
              have hww := hww.symm
              subst hww
              rw [hu]
              go_wp2_with fail
              refine (c109 x4 cl (cl + 5) _).mono ?_
              rintro e wz ⟨rfl, hww⟩
              have hww := hww.symm
              subst hww
              rw [hv]
              go_wp2_with fail
              go_ret
              exact ⟨ret_bool (unhide HU).symm, unhide HB⟩
          have HNX := hide ((unhide HWW).trans (df_on (unhide HPK) (by have := unhide HLL; omega) (unhide HGD) ((unhide HON).trans ((unhide HDW).trans hv))))
          rw [← unhide HDL] at HNX
          have x0c := (unhide HX).cell 0 rfl
          have x1c := (unhide HX).cell 1 rfl
          have x2c := (unhide HX).cell 2 rfl
          have x3c := (unhide HX).cell 3 rfl
          have x4c := (unhide HX).cell 4 rfl
          have x5c := (unhide HX).cell 5 rfl
          have q0 := (unhide HQ).cell 0 rfl
          have q1 := (unhide HQ).cell 1 rfl
          have q2 := (unhide HQ).cell 2 rfl
          have q3 := (unhide HQ).cell 3 rfl
          have q4 := (unhide HQ).cell 4 rfl
          go_wp2_with fail
          refine (c109 x3 1 5 _).mono ?_
          rintro e wz ⟨rfl, hww⟩
          have hww := hww.symm
          subst hww
          rw [hu]
          go_wp2_with fail
          refine (c109 x4 cl (cl + 5) _).mono ?_
          rintro e wz ⟨rfl, hww⟩
          have hww := hww.symm
          subst hww
          rw [hv]
          go_wp2_with fail
          (try clear x0c x1c x2c x3c x4c x5c q0 q1 q2 q3 q4)
          go_roundw
          case rel => exact ⟨0 + 1, by omega, by go_num, unhide HNX, unhide HBW⟩
          case measure => simp [intOf]; omega
      as_aux_lemma =>
        obtain ⟨mm, hm1⟩ : ∃ mm, k = mm + 1 := ⟨k - 1, by omega⟩
        obtain ⟨⟨y0, y1, y2, y3, y4⟩, hy⟩ := atDD (show mm < ds.length by omega)
        obtain ⟨p0, -, -, -, -⟩ := d_cells (Below.refl _ _) hc hy
        have HP0 := hide (cell_bl (below_a (.cells #[.int .i64 (j : Int), .int .i64 x1, .int .i64 x2, .int .i64 x3, .int .i64 x4] 42)) p0)
        clear p0
        have hlast : dLast ds k = y0 := by rw [hm1]; exact dLast_at hy
        rw [hlast] at hw
        have HWW := hide hw
        clear hw hc hx hy hp hp2
        have e2 : (k : Int) - 1 = (mm : Int) := by omega
        have e3 : IntKind.i64.wrap (mm : Int) = (mm : Int) := wrap_sub (by omega) (by omega)
        have e4 : (0 : Int) ≤ (mm : Int) := by omega
        have e5 : (mm : Int) < (ds.length : Int) := by omega
        have e6 : (0 : Int) < (k : Int) := by omega
        clear hm1
        have x0c := (unhide HX).cell 0 rfl
        have x1c := (unhide HX).cell 1 rfl
        have x2c := (unhide HX).cell 2 rfl
        have x3c := (unhide HX).cell 3 rfl
        have x4c := (unhide HX).cell 4 rfl
        have x5c := (unhide HX).cell 5 rfl
        go_wp2_with fail
        (try clear x0c x1c x2c x3c x4c x5c)
        clear g0 g1 g2 g3 g4
        (try clear x0c x1c x2c x3c x4c x5c)
        have HQ := hide (box_new WA [.int .i64 (j : Int), .int .i64 x1, .int .i64 x2, .int .i64 x3, .int .i64 x4] 42 (by simp [Value.oneCell']))
        replace HB := hide (below_al (o := .cells #[.int .i64 (j : Int), .int .i64 x1, .int .i64 x2, .int .i64 x3, .int .i64 x4] 42) (unhide HB))
        replace HRR := hide ((unhide HRR).bel (below_a (.cells #[.int .i64 (j : Int), .int .i64 x1, .int .i64 x2, .int .i64 x3, .int .i64 x4] 42)))
        replace HX := hide ((unhide HX).bel (below_a (.cells #[.int .i64 (j : Int), .int .i64 x1, .int .i64 x2, .int .i64 x3, .int .i64 x4] 42)))
        replace HW := hide ((unhide HW).bel (below_a (.cells #[.int .i64 (j : Int), .int .i64 x1, .int .i64 x2, .int .i64 x3, .int .i64 x4] 42)))
        replace HBW := hide ((unhide HBW).bel (below_a (.cells #[.int .i64 (j : Int), .int .i64 x1, .int .i64 x2, .int .i64 x3, .int .i64 x4] 42)))
        generalize WA.alloc (.cells #[.int .i64 (j : Int), .int .i64 x1, .int .i64 x2, .int .i64 x3, .int .i64 x4] 42) = W1 at *
        (try clear x0c x1c x2c x3c x4c x5c q0 q1 q2 q3 q4)
        refine wp_region_held_drew (S := fun w' => Below W1.heap.size W1 w') (by kernel_rfl) (below_drew W1) (fun hHeld => ?_)
        refine tk 0 (some 58) (v := ?_) ?_ ?_
        rotate_left
        · intro w hSw
          first | (go_simp; done) | (go_simp; with_reducible rfl) | with_reducible rfl | rfl
        try simp only [Act.put, List.setIfInBounds_toArray, List.set_cons_zero, List.set_cons_succ]
        refine tk 1 (some 59) (v := ?_) ?_ ?_
        rotate_left
        · intro w hSw
          have hT := (unhide HQ).below hSw; have q0 := hT.cell 0 rfl; have q1 := hT.cell 1 rfl; have q2 := hT.cell 2 rfl; have q3 := hT.cell 3 rfl; have q4 := hT.cell 4 rfl
          first | (go_simp; done) | (go_simp; with_reducible rfl) | with_reducible rfl | rfl
        try simp only [Act.put, List.setIfInBounds_toArray, List.set_cons_zero, List.set_cons_succ]
        have HD := below_drew W1
        generalize W1.drew = V0 at *
        refine wpAnyH_ready (rs := [2]) (by kernel_rfl) (by simp) ?_
        refine AllReadyH.cons (o := { dst := some 60, op := _, type := _, pos := _, after := _, guard := _ }) rfl (fun K hK => ?_) AllReadyH.nil
        go_simp
        go_at_call 109
        refine (l1b (unhide HPK) _).mono ?_
        rintro e V1 ⟨rfl, hww⟩
        have hww := hww.symm
        subst hww
        try go_wp2_with fail
        refine hK.out _ _ HD (fun hHeld => ?_)
        clear hK K hHeld
        try simp only [Act.put, List.setIfInBounds_toArray, List.set_cons_zero, List.set_cons_succ]
        refine tk 3 (some 61) (v := ?_) ?_ ?_
        rotate_left
        · intro w hSw
          first | (go_simp; done) | (go_simp; with_reducible rfl) | with_reducible rfl | rfl
        try simp only [Act.put, List.setIfInBounds_toArray, List.set_cons_zero, List.set_cons_succ]
        refine tk 4 (some 62) (v := ?_) ?_ ?_
        rotate_left
        · intro w hSw
          first | (go_simp; done) | (go_simp; with_reducible rfl) | with_reducible rfl | rfl
        try simp only [Act.put, List.setIfInBounds_toArray, List.set_cons_zero, List.set_cons_succ]
        refine tk 5 (some 63) (v := ?_) ?_ ?_
        rotate_left
        · intro w hSw
          first | (go_simp; done) | (go_simp; with_reducible rfl) | with_reducible rfl | rfl
        try simp only [Act.put, List.setIfInBounds_toArray, List.set_cons_zero, List.set_cons_succ]
        refine tk 6 (some 64) (v := ?_) ?_ ?_
        rotate_left
        · intro w hSw
          first | (go_simp; done) | (go_simp; with_reducible rfl) | with_reducible rfl | rfl
        try simp only [Act.put, List.setIfInBounds_toArray, List.set_cons_zero, List.set_cons_succ]
        refine tk 7 (some 65) (v := ?_) ?_ ?_
        rotate_left
        · intro w hSw
          first | (go_simp; done) | (go_simp; with_reducible rfl) | with_reducible rfl | rfl
        try simp only [Act.put, List.setIfInBounds_toArray, List.set_cons_zero, List.set_cons_succ]
        refine tk 8 (some 66) (v := ?_) ?_ ?_
        rotate_left
        · intro w hSw
          first | (go_simp; done) | (go_simp; with_reducible rfl) | with_reducible rfl | rfl
        try simp only [Act.put, List.setIfInBounds_toArray, List.set_cons_zero, List.set_cons_succ]
        refine tk 9 (some 67) (v := ?_) ?_ ?_
        rotate_left
        · intro w hSw
          have hT := (unhide HX).below hSw; have x0c := hT.cell 0 rfl; have x1c := hT.cell 1 rfl; have x2c := hT.cell 2 rfl; have x3c := hT.cell 3 rfl; have x4c := hT.cell 4 rfl; have x5c := hT.cell 5 rfl
          first | (go_simp; done) | (go_simp; with_reducible rfl) | with_reducible rfl | rfl
        try simp only [Act.put, List.setIfInBounds_toArray, List.set_cons_zero, List.set_cons_succ]
        refine tk 10 (some 68) (v := ?_) ?_ ?_
        rotate_left
        · intro w hSw
          first | (go_simp; done) | (go_simp; with_reducible rfl) | with_reducible rfl | rfl
        try simp only [Act.put, List.setIfInBounds_toArray, List.set_cons_zero, List.set_cons_succ]
        refine tk 11 (some 69) (v := ?_) ?_ ?_
        rotate_left
        · intro w hSw
          first | (go_simp; done) | (go_simp; with_reducible rfl) | with_reducible rfl | rfl
        try simp only [Act.put, List.setIfInBounds_toArray, List.set_cons_zero, List.set_cons_succ]
        refine tk 12 (some 70) (v := ?_) ?_ ?_
        rotate_left
        · intro w hSw
          first | (go_simp; done) | (go_simp; with_reducible rfl) | with_reducible rfl | rfl
        try simp only [Act.put, List.setIfInBounds_toArray, List.set_cons_zero, List.set_cons_succ]
        refine tk 13 (some 71) (v := ?_) ?_ ?_
        rotate_left
        · intro w hSw
          first | (go_simp; done) | (go_simp; with_reducible rfl) | with_reducible rfl | rfl
        try simp only [Act.put, List.setIfInBounds_toArray, List.set_cons_zero, List.set_cons_succ]
        refine tk 14 (some 72) (v := ?_) ?_ ?_
        rotate_left
        · intro w hSw
          have p0 := cell_bl hSw (unhide HP0)
          first | (go_simp; done) | (go_simp; with_reducible rfl) | with_reducible rfl | rfl
        try simp only [Act.put, List.setIfInBounds_toArray, List.set_cons_zero, List.set_cons_succ]
        refine tk 15 (some 73) (v := ?_) ?_ ?_
        rotate_left
        · intro w hSw
          first | (go_simp; done) | (go_simp; with_reducible rfl) | with_reducible rfl | rfl
        try simp only [Act.put, List.setIfInBounds_toArray, List.set_cons_zero, List.set_cons_succ]
        refine tk 16 (some 74) (v := ?_) ?_ ?_
        rotate_left
        · intro w hSw
          have hT := (unhide HQ).below hSw; have q0 := hT.cell 0 rfl; have q1 := hT.cell 1 rfl; have q2 := hT.cell 2 rfl; have q3 := hT.cell 3 rfl; have q4 := hT.cell 4 rfl
          first | (go_simp; done) | (go_simp; with_reducible rfl) | with_reducible rfl | rfl
        try simp only [Act.put, List.setIfInBounds_toArray, List.set_cons_zero, List.set_cons_succ]
        by_cases hl : (j : Int) ≤ y0
        case pos =>
          have HU := hide (unhide HMO ((unhide HWW).trans (df_2 hl)))
          have hge : decide (y0 ≥ (j : Int)) = true := decide_eq_true hl
          refine tk 17 (some 75) (v := ?_) ?_ ?_
          rotate_left
          · intro w hSw
            first | (go_simp; done) | (go_simp; with_reducible rfl) | with_reducible rfl | rfl
          try simp only [Act.put, List.setIfInBounds_toArray, List.set_cons_zero, List.set_cons_succ]
          refine tk 18 (some 76) (v := ?_) ?_ ?_
          rotate_left
          · intro w hSw
            first | (go_simp; done) | (go_simp; with_reducible rfl) | with_reducible rfl | rfl
          try simp only [Act.put, List.setIfInBounds_toArray, List.set_cons_zero, List.set_cons_succ]
          refine tk 19 (some 77) (v := ?_) ?_ ?_
          rotate_left
          · intro w hSw
            first | (go_simp; done) | (go_simp; with_reducible rfl) | with_reducible rfl | rfl
          try simp only [Act.put, List.setIfInBounds_toArray, List.set_cons_zero, List.set_cons_succ]
          refine tk 20 (some 78) (v := ?_) ?_ ?_
          rotate_left
          · intro w hSw
            first | (go_simp; done) | (go_simp; with_reducible rfl) | with_reducible rfl | rfl
          try simp only [Act.put, List.setIfInBounds_toArray, List.set_cons_zero, List.set_cons_succ]
          refine sk 21 (some 79) ?_
          try simp only [Act.put, List.setIfInBounds_toArray, List.set_cons_zero, List.set_cons_succ]
          refine sk 22 (some 80) ?_
          try simp only [Act.put, List.setIfInBounds_toArray, List.set_cons_zero, List.set_cons_succ]
          refine sk 23 (some 81) ?_
          try simp only [Act.put, List.setIfInBounds_toArray, List.set_cons_zero, List.set_cons_succ]
          refine sk 24 (some 82) ?_
          try simp only [Act.put, List.setIfInBounds_toArray, List.set_cons_zero, List.set_cons_succ]
          refine sk 25 (some 83) ?_
          try simp only [Act.put, List.setIfInBounds_toArray, List.set_cons_zero, List.set_cons_succ]
          refine sk 26 (some 84) ?_
          try simp only [Act.put, List.setIfInBounds_toArray, List.set_cons_zero, List.set_cons_succ]
          refine sk 27 (some 85) ?_
          try simp only [Act.put, List.setIfInBounds_toArray, List.set_cons_zero, List.set_cons_succ]
          refine sk 28 (some 86) ?_
          try simp only [Act.put, List.setIfInBounds_toArray, List.set_cons_zero, List.set_cons_succ]
          refine sk 29 (some 87) ?_
          try simp only [Act.put, List.setIfInBounds_toArray, List.set_cons_zero, List.set_cons_succ]
          refine tk 30 (some 88) (v := ?_) ?_ ?_
          rotate_left
          · intro w hSw
            first | (go_simp; done) | (go_simp; with_reducible rfl) | with_reducible rfl | rfl
          try simp only [Act.put, List.setIfInBounds_toArray, List.set_cons_zero, List.set_cons_succ]
          refine tk 31 (some 89) (v := ?_) ?_ ?_
          rotate_left
          · intro w hSw
            first | (go_simp; done) | (go_simp; with_reducible rfl) | with_reducible rfl | rfl
          try simp only [Act.put, List.setIfInBounds_toArray, List.set_cons_zero, List.set_cons_succ]
          refine sk 32 (some 90) ?_
          try simp only [Act.put, List.setIfInBounds_toArray, List.set_cons_zero, List.set_cons_succ]
          refine sk 33 (some 91) ?_
          try simp only [Act.put, List.setIfInBounds_toArray, List.set_cons_zero, List.set_cons_succ]
          refine sk 34 (some 92) ?_
          try simp only [Act.put, List.setIfInBounds_toArray, List.set_cons_zero, List.set_cons_succ]
          refine tk 35 (some 93) (v := ?_) ?_ ?_
          rotate_left
          · intro w hSw
            first | (go_simp; done) | (go_simp; with_reducible rfl) | with_reducible rfl | rfl
          try simp only [Act.put, List.setIfInBounds_toArray, List.set_cons_zero, List.set_cons_succ]
          refine tk 36 (some 94) (v := ?_) ?_ ?_
          rotate_left
          · intro w hSw
            first | (go_simp; done) | (go_simp; with_reducible rfl) | with_reducible rfl | rfl
          try simp only [Act.put, List.setIfInBounds_toArray, List.set_cons_zero, List.set_cons_succ]
          refine sk 37 (some 95) ?_
          try simp only [Act.put, List.setIfInBounds_toArray, List.set_cons_zero, List.set_cons_succ]
          refine sk 38 (some 96) ?_
          try simp only [Act.put, List.setIfInBounds_toArray, List.set_cons_zero, List.set_cons_succ]
          refine sk 39 (some 97) ?_
          try simp only [Act.put, List.setIfInBounds_toArray, List.set_cons_zero, List.set_cons_succ]
          refine sk 40 (some 98) ?_
          try simp only [Act.put, List.setIfInBounds_toArray, List.set_cons_zero, List.set_cons_succ]
          refine sk 41 (some 99) ?_
          try simp only [Act.put, List.setIfInBounds_toArray, List.set_cons_zero, List.set_cons_succ]
          refine sk 42 (some 100) ?_
          try simp only [Act.put, List.setIfInBounds_toArray, List.set_cons_zero, List.set_cons_succ]
          refine tk 43 (some 101) (v := ?_) ?_ ?_
          rotate_left
          · intro w hSw
            first | (go_simp; done) | (go_simp; with_reducible rfl) | with_reducible rfl | rfl
          try simp only [Act.put, List.setIfInBounds_toArray, List.set_cons_zero, List.set_cons_succ]
          refine tk 44 (some 102) (v := ?_) ?_ ?_
          rotate_left
          · intro w hSw
            first | (go_simp; done) | (go_simp; with_reducible rfl) | with_reducible rfl | rfl
          try simp only [Act.put, List.setIfInBounds_toArray, List.set_cons_zero, List.set_cons_succ]
          refine sk 45 (some 103) ?_
          try simp only [Act.put, List.setIfInBounds_toArray, List.set_cons_zero, List.set_cons_succ]
          refine sk 46 (some 104) ?_
          try simp only [Act.put, List.setIfInBounds_toArray, List.set_cons_zero, List.set_cons_succ]
          refine sk 47 (some 105) ?_
          try simp only [Act.put, List.setIfInBounds_toArray, List.set_cons_zero, List.set_cons_succ]
          refine sk 48 (some 106) ?_
          try simp only [Act.put, List.setIfInBounds_toArray, List.set_cons_zero, List.set_cons_succ]
          refine sk 49 (some 107) ?_
          try simp only [Act.put, List.setIfInBounds_toArray, List.set_cons_zero, List.set_cons_succ]
          refine sk 50 (some 108) ?_
          try simp only [Act.put, List.setIfInBounds_toArray, List.set_cons_zero, List.set_cons_succ]
          refine sk 51 (some 109) ?_
          try simp only [Act.put, List.setIfInBounds_toArray, List.set_cons_zero, List.set_cons_succ]
          refine sk 52 (some 110) ?_
          try simp only [Act.put, List.setIfInBounds_toArray, List.set_cons_zero, List.set_cons_succ]
          refine sk 53 (some 111) ?_
          try simp only [Act.put, List.setIfInBounds_toArray, List.set_cons_zero, List.set_cons_succ]
          refine sk 54 (some 112) ?_
          try simp only [Act.put, List.setIfInBounds_toArray, List.set_cons_zero, List.set_cons_succ]
          refine sk 55 (some 113) ?_
          try simp only [Act.put, List.setIfInBounds_toArray, List.set_cons_zero, List.set_cons_succ]
          refine tk 56 (some 114) (v := ?_) ?_ ?_
          rotate_left
          · intro w hSw
            first | (go_simp; done) | (go_simp; with_reducible rfl) | with_reducible rfl | rfl
          try simp only [Act.put, List.setIfInBounds_toArray, List.set_cons_zero, List.set_cons_succ]
          refine wpAnyH_done (by kernel_rfl) ?_ _
          replace HB := hide (below_tr (unhide HB) HD)
          replace HRR := hide ((unhide HRR).bel HD)
          replace HX := hide ((unhide HX).bel HD)
          replace HW := hide ((unhide HW).bel HD)
          replace HBW := hide ((unhide HBW).bel HD)
          replace HQ := hide ((unhide HQ).bel HD)
          clear HD 
          have x0c := (unhide HX).cell 0 rfl
          have x1c := (unhide HX).cell 1 rfl
          have x2c := (unhide HX).cell 2 rfl
          have x3c := (unhide HX).cell 3 rfl
          have x4c := (unhide HX).cell 4 rfl
          have x5c := (unhide HX).cell 5 rfl
          have q0 := (unhide HQ).cell 0 rfl
          have q1 := (unhide HQ).cell 1 rfl
          have q2 := (unhide HQ).cell 2 rfl
          have q3 := (unhide HQ).cell 3 rfl
          have q4 := (unhide HQ).cell 4 rfl
          go_wp2_with fail
          go_ret
          exact ⟨ret_bool (unhide HU).symm, unhide HB⟩
        have hge : decide (y0 ≥ (j : Int)) = false := decide_eq_false hl
        have HLL : Hid (dLast ds k < (j : Int)) := by unfold Hid; rw [hlast]; omega
        clear hlast
        refine tk 17 (some 75) (v := ?_) ?_ ?_
        rotate_left
        · intro w hSw
          first | (go_simp; done) | (go_simp; with_reducible rfl) | with_reducible rfl | rfl
        try simp only [Act.put, List.setIfInBounds_toArray, List.set_cons_zero, List.set_cons_succ]
        refine tk 18 (some 76) (v := ?_) ?_ ?_
        rotate_left
        · intro w hSw
          first | (go_simp; done) | (go_simp; with_reducible rfl) | with_reducible rfl | rfl
        try simp only [Act.put, List.setIfInBounds_toArray, List.set_cons_zero, List.set_cons_succ]
        refine tk 19 (some 77) (v := ?_) ?_ ?_
        rotate_left
        · intro w hSw
          first | (go_simp; done) | (go_simp; with_reducible rfl) | with_reducible rfl | rfl
        try simp only [Act.put, List.setIfInBounds_toArray, List.set_cons_zero, List.set_cons_succ]
        refine tk 20 (some 78) (v := ?_) ?_ ?_
        rotate_left
        · intro w hSw
          first | (go_simp; done) | (go_simp; with_reducible rfl) | with_reducible rfl | rfl
        try simp only [Act.put, List.setIfInBounds_toArray, List.set_cons_zero, List.set_cons_succ]
        refine tk 21 (some 79) (v := ?_) ?_ ?_
        rotate_left
        · intro w hSw
          first | (go_simp; done) | (go_simp; with_reducible rfl) | with_reducible rfl | rfl
        try simp only [Act.put, List.setIfInBounds_toArray, List.set_cons_zero, List.set_cons_succ]
        refine tk 22 (some 80) (v := ?_) ?_ ?_
        rotate_left
        · intro w hSw
          first | (go_simp; done) | (go_simp; with_reducible rfl) | with_reducible rfl | rfl
        try simp only [Act.put, List.setIfInBounds_toArray, List.set_cons_zero, List.set_cons_succ]
        refine tk 23 (some 81) (v := ?_) ?_ ?_
        rotate_left
        · intro w hSw
          have hT := (unhide HQ).below hSw; have q0 := hT.cell 0 rfl; have q1 := hT.cell 1 rfl; have q2 := hT.cell 2 rfl; have q3 := hT.cell 3 rfl; have q4 := hT.cell 4 rfl
          first | (go_simp; done) | (go_simp; with_reducible rfl) | with_reducible rfl | rfl
        try simp only [Act.put, List.setIfInBounds_toArray, List.set_cons_zero, List.set_cons_succ]
        refine tk 24 (some 82) (v := ?_) ?_ ?_
        rotate_left
        · intro w hSw
          first | (go_simp; done) | (go_simp; with_reducible rfl) | with_reducible rfl | rfl
        try simp only [Act.put, List.setIfInBounds_toArray, List.set_cons_zero, List.set_cons_succ]
        refine tk 25 (some 83) (v := ?_) ?_ ?_
        rotate_left
        · intro w hSw
          first | (go_simp; done) | (go_simp; with_reducible rfl) | with_reducible rfl | rfl
        try simp only [Act.put, List.setIfInBounds_toArray, List.set_cons_zero, List.set_cons_succ]
        refine tk 26 (some 84) (v := ?_) ?_ ?_
        rotate_left
        · intro w hSw
          have c0 := cell_bl hSw (unhide HC0)
          first | (go_simp; done) | (go_simp; with_reducible rfl) | with_reducible rfl | rfl
        try simp only [Act.put, List.setIfInBounds_toArray, List.set_cons_zero, List.set_cons_succ]
        refine tk 27 (some 85) (v := ?_) ?_ ?_
        rotate_left
        · intro w hSw
          first | (go_simp; done) | (go_simp; with_reducible rfl) | with_reducible rfl | rfl
        try simp only [Act.put, List.setIfInBounds_toArray, List.set_cons_zero, List.set_cons_succ]
        refine tk 28 (some 86) (v := ?_) ?_ ?_
        rotate_left
        · intro w hSw
          have hT := (unhide HQ).below hSw; have q0 := hT.cell 0 rfl; have q1 := hT.cell 1 rfl; have q2 := hT.cell 2 rfl; have q3 := hT.cell 3 rfl; have q4 := hT.cell 4 rfl
          first | (go_simp; done) | (go_simp; with_reducible rfl) | with_reducible rfl | rfl
        try simp only [Act.put, List.setIfInBounds_toArray, List.set_cons_zero, List.set_cons_succ]
        by_cases hw1 : x1 = r0
        case neg =>
          have HU := hide (unhide HMO ((unhide HWW).trans (df_3 (unhide HGD) (dk_1 hw1))))
          have hb7 : (r0 != x1) = true := by rw [bne_iff_ne]; exact fun e => hw1 e.symm
          clear hw1
          refine tk 29 (some 87) (v := ?_) ?_ ?_
          rotate_left
          · intro w hSw
            first | (go_simp; done) | (go_simp; with_reducible rfl) | with_reducible rfl | rfl
          try simp only [Act.put, List.setIfInBounds_toArray, List.set_cons_zero, List.set_cons_succ]
          refine tk 30 (some 88) (v := ?_) ?_ ?_
          rotate_left
          · intro w hSw
            first | (go_simp; done) | (go_simp; with_reducible rfl) | with_reducible rfl | rfl
          try simp only [Act.put, List.setIfInBounds_toArray, List.set_cons_zero, List.set_cons_succ]
          refine tk 31 (some 89) (v := ?_) ?_ ?_
          rotate_left
          · intro w hSw
            first | (go_simp; done) | (go_simp; with_reducible rfl) | with_reducible rfl | rfl
          try simp only [Act.put, List.setIfInBounds_toArray, List.set_cons_zero, List.set_cons_succ]
          refine sk 32 (some 90) ?_
          try simp only [Act.put, List.setIfInBounds_toArray, List.set_cons_zero, List.set_cons_succ]
          refine sk 33 (some 91) ?_
          try simp only [Act.put, List.setIfInBounds_toArray, List.set_cons_zero, List.set_cons_succ]
          refine sk 34 (some 92) ?_
          try simp only [Act.put, List.setIfInBounds_toArray, List.set_cons_zero, List.set_cons_succ]
          refine tk 35 (some 93) (v := ?_) ?_ ?_
          rotate_left
          · intro w hSw
            first | (go_simp; done) | (go_simp; with_reducible rfl) | with_reducible rfl | rfl
          try simp only [Act.put, List.setIfInBounds_toArray, List.set_cons_zero, List.set_cons_succ]
          refine tk 36 (some 94) (v := ?_) ?_ ?_
          rotate_left
          · intro w hSw
            first | (go_simp; done) | (go_simp; with_reducible rfl) | with_reducible rfl | rfl
          try simp only [Act.put, List.setIfInBounds_toArray, List.set_cons_zero, List.set_cons_succ]
          refine sk 37 (some 95) ?_
          try simp only [Act.put, List.setIfInBounds_toArray, List.set_cons_zero, List.set_cons_succ]
          refine sk 38 (some 96) ?_
          try simp only [Act.put, List.setIfInBounds_toArray, List.set_cons_zero, List.set_cons_succ]
          refine sk 39 (some 97) ?_
          try simp only [Act.put, List.setIfInBounds_toArray, List.set_cons_zero, List.set_cons_succ]
          refine sk 40 (some 98) ?_
          try simp only [Act.put, List.setIfInBounds_toArray, List.set_cons_zero, List.set_cons_succ]
          refine sk 41 (some 99) ?_
          try simp only [Act.put, List.setIfInBounds_toArray, List.set_cons_zero, List.set_cons_succ]
          refine sk 42 (some 100) ?_
          try simp only [Act.put, List.setIfInBounds_toArray, List.set_cons_zero, List.set_cons_succ]
          refine tk 43 (some 101) (v := ?_) ?_ ?_
          rotate_left
          · intro w hSw
            first | (go_simp; done) | (go_simp; with_reducible rfl) | with_reducible rfl | rfl
          try simp only [Act.put, List.setIfInBounds_toArray, List.set_cons_zero, List.set_cons_succ]
          refine tk 44 (some 102) (v := ?_) ?_ ?_
          rotate_left
          · intro w hSw
            first | (go_simp; done) | (go_simp; with_reducible rfl) | with_reducible rfl | rfl
          try simp only [Act.put, List.setIfInBounds_toArray, List.set_cons_zero, List.set_cons_succ]
          refine sk 45 (some 103) ?_
          try simp only [Act.put, List.setIfInBounds_toArray, List.set_cons_zero, List.set_cons_succ]
          refine sk 46 (some 104) ?_
          try simp only [Act.put, List.setIfInBounds_toArray, List.set_cons_zero, List.set_cons_succ]
          refine sk 47 (some 105) ?_
          try simp only [Act.put, List.setIfInBounds_toArray, List.set_cons_zero, List.set_cons_succ]
          refine sk 48 (some 106) ?_
          try simp only [Act.put, List.setIfInBounds_toArray, List.set_cons_zero, List.set_cons_succ]
          refine sk 49 (some 107) ?_
          try simp only [Act.put, List.setIfInBounds_toArray, List.set_cons_zero, List.set_cons_succ]
          refine sk 50 (some 108) ?_
          try simp only [Act.put, List.setIfInBounds_toArray, List.set_cons_zero, List.set_cons_succ]
          refine sk 51 (some 109) ?_
          try simp only [Act.put, List.setIfInBounds_toArray, List.set_cons_zero, List.set_cons_succ]
          refine sk 52 (some 110) ?_
          try simp only [Act.put, List.setIfInBounds_toArray, List.set_cons_zero, List.set_cons_succ]
          refine sk 53 (some 111) ?_
          try simp only [Act.put, List.setIfInBounds_toArray, List.set_cons_zero, List.set_cons_succ]
          refine sk 54 (some 112) ?_
          try simp only [Act.put, List.setIfInBounds_toArray, List.set_cons_zero, List.set_cons_succ]
          refine sk 55 (some 113) ?_
          try simp only [Act.put, List.setIfInBounds_toArray, List.set_cons_zero, List.set_cons_succ]
          refine tk 56 (some 114) (v := ?_) ?_ ?_
          rotate_left
          · intro w hSw
            first | (go_simp; done) | (go_simp; with_reducible rfl) | with_reducible rfl | rfl
          try simp only [Act.put, List.setIfInBounds_toArray, List.set_cons_zero, List.set_cons_succ]
          refine wpAnyH_done (by kernel_rfl) ?_ _
          replace HB := hide (below_tr (unhide HB) HD)
          replace HRR := hide ((unhide HRR).bel HD)
          replace HX := hide ((unhide HX).bel HD)
          replace HW := hide ((unhide HW).bel HD)
          replace HBW := hide ((unhide HBW).bel HD)
          replace HQ := hide ((unhide HQ).bel HD)
          clear HD 
          have x0c := (unhide HX).cell 0 rfl
          have x1c := (unhide HX).cell 1 rfl
          have x2c := (unhide HX).cell 2 rfl
          have x3c := (unhide HX).cell 3 rfl
          have x4c := (unhide HX).cell 4 rfl
          have x5c := (unhide HX).cell 5 rfl
          have q0 := (unhide HQ).cell 0 rfl
          have q1 := (unhide HQ).cell 1 rfl
          have q2 := (unhide HQ).cell 2 rfl
          have q3 := (unhide HQ).cell 3 rfl
          have q4 := (unhide HQ).cell 4 rfl
          go_wp2_with fail
          go_ret
          exact ⟨ret_bool (unhide HU).symm, unhide HB⟩
        have hb7 : (r0 != x1) = false := by rw [bne_eq_false_iff_eq]; exact hw1.symm
        have HW1 := hide hw1
        clear hw1
        refine tk 29 (some 87) (v := ?_) ?_ ?_
        rotate_left
        · intro w hSw
          first | (go_simp; done) | (go_simp; with_reducible rfl) | with_reducible rfl | rfl
        try simp only [Act.put, List.setIfInBounds_toArray, List.set_cons_zero, List.set_cons_succ]
        refine tk 30 (some 88) (v := ?_) ?_ ?_
        rotate_left
        · intro w hSw
          first | (go_simp; done) | (go_simp; with_reducible rfl) | with_reducible rfl | rfl
        try simp only [Act.put, List.setIfInBounds_toArray, List.set_cons_zero, List.set_cons_succ]
        refine tk 31 (some 89) (v := ?_) ?_ ?_
        rotate_left
        · intro w hSw
          first | (go_simp; done) | (go_simp; with_reducible rfl) | with_reducible rfl | rfl
        try simp only [Act.put, List.setIfInBounds_toArray, List.set_cons_zero, List.set_cons_succ]
        refine tk 32 (some 90) (v := ?_) ?_ ?_
        rotate_left
        · intro w hSw
          first | (go_simp; done) | (go_simp; with_reducible rfl) | with_reducible rfl | rfl
        try simp only [Act.put, List.setIfInBounds_toArray, List.set_cons_zero, List.set_cons_succ]
        refine tk 33 (some 91) (v := ?_) ?_ ?_
        rotate_left
        · intro w hSw
          have hT := (unhide HQ).below hSw; have q0 := hT.cell 0 rfl; have q1 := hT.cell 1 rfl; have q2 := hT.cell 2 rfl; have q3 := hT.cell 3 rfl; have q4 := hT.cell 4 rfl
          first | (go_simp; done) | (go_simp; with_reducible rfl) | with_reducible rfl | rfl
        try simp only [Act.put, List.setIfInBounds_toArray, List.set_cons_zero, List.set_cons_succ]
        by_cases hz0 : x1 = 0
        case pos =>
          have HU := hide (unhide HMO ((unhide HWW).trans (df_3 (unhide HGD) (dk_3 (row_noneM (unhide HROK) ((unhide HW1).symm.trans hz0) x2)))))
          have hb8 : (x1 == 0) = true := by rw [beq_iff_eq]; exact hz0
          clear hz0
          refine tk 34 (some 92) (v := ?_) ?_ ?_
          rotate_left
          · intro w hSw
            first | (go_simp; done) | (go_simp; with_reducible rfl) | with_reducible rfl | rfl
          try simp only [Act.put, List.setIfInBounds_toArray, List.set_cons_zero, List.set_cons_succ]
          refine tk 35 (some 93) (v := ?_) ?_ ?_
          rotate_left
          · intro w hSw
            first | (go_simp; done) | (go_simp; with_reducible rfl) | with_reducible rfl | rfl
          try simp only [Act.put, List.setIfInBounds_toArray, List.set_cons_zero, List.set_cons_succ]
          refine tk 36 (some 94) (v := ?_) ?_ ?_
          rotate_left
          · intro w hSw
            first | (go_simp; done) | (go_simp; with_reducible rfl) | with_reducible rfl | rfl
          try simp only [Act.put, List.setIfInBounds_toArray, List.set_cons_zero, List.set_cons_succ]
          refine sk 37 (some 95) ?_
          try simp only [Act.put, List.setIfInBounds_toArray, List.set_cons_zero, List.set_cons_succ]
          refine sk 38 (some 96) ?_
          try simp only [Act.put, List.setIfInBounds_toArray, List.set_cons_zero, List.set_cons_succ]
          refine sk 39 (some 97) ?_
          try simp only [Act.put, List.setIfInBounds_toArray, List.set_cons_zero, List.set_cons_succ]
          refine sk 40 (some 98) ?_
          try simp only [Act.put, List.setIfInBounds_toArray, List.set_cons_zero, List.set_cons_succ]
          refine sk 41 (some 99) ?_
          try simp only [Act.put, List.setIfInBounds_toArray, List.set_cons_zero, List.set_cons_succ]
          refine sk 42 (some 100) ?_
          try simp only [Act.put, List.setIfInBounds_toArray, List.set_cons_zero, List.set_cons_succ]
          refine tk 43 (some 101) (v := ?_) ?_ ?_
          rotate_left
          · intro w hSw
            first | (go_simp; done) | (go_simp; with_reducible rfl) | with_reducible rfl | rfl
          try simp only [Act.put, List.setIfInBounds_toArray, List.set_cons_zero, List.set_cons_succ]
          refine tk 44 (some 102) (v := ?_) ?_ ?_
          rotate_left
          · intro w hSw
            first | (go_simp; done) | (go_simp; with_reducible rfl) | with_reducible rfl | rfl
          try simp only [Act.put, List.setIfInBounds_toArray, List.set_cons_zero, List.set_cons_succ]
          refine sk 45 (some 103) ?_
          try simp only [Act.put, List.setIfInBounds_toArray, List.set_cons_zero, List.set_cons_succ]
          refine sk 46 (some 104) ?_
          try simp only [Act.put, List.setIfInBounds_toArray, List.set_cons_zero, List.set_cons_succ]
          refine sk 47 (some 105) ?_
          try simp only [Act.put, List.setIfInBounds_toArray, List.set_cons_zero, List.set_cons_succ]
          refine sk 48 (some 106) ?_
          try simp only [Act.put, List.setIfInBounds_toArray, List.set_cons_zero, List.set_cons_succ]
          refine sk 49 (some 107) ?_
          try simp only [Act.put, List.setIfInBounds_toArray, List.set_cons_zero, List.set_cons_succ]
          refine sk 50 (some 108) ?_
          try simp only [Act.put, List.setIfInBounds_toArray, List.set_cons_zero, List.set_cons_succ]
          refine sk 51 (some 109) ?_
          try simp only [Act.put, List.setIfInBounds_toArray, List.set_cons_zero, List.set_cons_succ]
          refine sk 52 (some 110) ?_
          try simp only [Act.put, List.setIfInBounds_toArray, List.set_cons_zero, List.set_cons_succ]
          refine sk 53 (some 111) ?_
          try simp only [Act.put, List.setIfInBounds_toArray, List.set_cons_zero, List.set_cons_succ]
          refine sk 54 (some 112) ?_
          try simp only [Act.put, List.setIfInBounds_toArray, List.set_cons_zero, List.set_cons_succ]
          refine sk 55 (some 113) ?_
          try simp only [Act.put, List.setIfInBounds_toArray, List.set_cons_zero, List.set_cons_succ]
          refine tk 56 (some 114) (v := ?_) ?_ ?_
          rotate_left
          · intro w hSw
            first | (go_simp; done) | (go_simp; with_reducible rfl) | with_reducible rfl | rfl
          try simp only [Act.put, List.setIfInBounds_toArray, List.set_cons_zero, List.set_cons_succ]
          refine wpAnyH_done (by kernel_rfl) ?_ _
          replace HB := hide (below_tr (unhide HB) HD)
          replace HRR := hide ((unhide HRR).bel HD)
          replace HX := hide ((unhide HX).bel HD)
          replace HW := hide ((unhide HW).bel HD)
          replace HBW := hide ((unhide HBW).bel HD)
          replace HQ := hide ((unhide HQ).bel HD)
          clear HD 
          have x0c := (unhide HX).cell 0 rfl
          have x1c := (unhide HX).cell 1 rfl
          have x2c := (unhide HX).cell 2 rfl
          have x3c := (unhide HX).cell 3 rfl
          have x4c := (unhide HX).cell 4 rfl
          have x5c := (unhide HX).cell 5 rfl
          have q0 := (unhide HQ).cell 0 rfl
          have q1 := (unhide HQ).cell 1 rfl
          have q2 := (unhide HQ).cell 2 rfl
          have q3 := (unhide HQ).cell 3 rfl
          have q4 := (unhide HQ).cell 4 rfl
          go_wp2_with fail
          go_ret
          exact ⟨ret_bool (unhide HU).symm, unhide HB⟩
        have hb8 : (x1 == 0) = false := by rw [beq_eq_false_iff_ne]; exact hz0
        clear hz0
        refine tk 34 (some 92) (v := ?_) ?_ ?_
        rotate_left
        · intro w hSw
          first | (go_simp; done) | (go_simp; with_reducible rfl) | with_reducible rfl | rfl
        try simp only [Act.put, List.setIfInBounds_toArray, List.set_cons_zero, List.set_cons_succ]
        refine tk 35 (some 93) (v := ?_) ?_ ?_
        rotate_left
        · intro w hSw
          first | (go_simp; done) | (go_simp; with_reducible rfl) | with_reducible rfl | rfl
        try simp only [Act.put, List.setIfInBounds_toArray, List.set_cons_zero, List.set_cons_succ]
        refine tk 36 (some 94) (v := ?_) ?_ ?_
        rotate_left
        · intro w hSw
          first | (go_simp; done) | (go_simp; with_reducible rfl) | with_reducible rfl | rfl
        try simp only [Act.put, List.setIfInBounds_toArray, List.set_cons_zero, List.set_cons_succ]
        refine tk 37 (some 95) (v := ?_) ?_ ?_
        rotate_left
        · intro w hSw
          first | (go_simp; done) | (go_simp; with_reducible rfl) | with_reducible rfl | rfl
        try simp only [Act.put, List.setIfInBounds_toArray, List.set_cons_zero, List.set_cons_succ]
        refine tk 38 (some 96) (v := ?_) ?_ ?_
        rotate_left
        · intro w hSw
          first | (go_simp; done) | (go_simp; with_reducible rfl) | with_reducible rfl | rfl
        try simp only [Act.put, List.setIfInBounds_toArray, List.set_cons_zero, List.set_cons_succ]
        refine tk 39 (some 97) (v := ?_) ?_ ?_
        rotate_left
        · intro w hSw
          have hT := (unhide HQ).below hSw; have q0 := hT.cell 0 rfl; have q1 := hT.cell 1 rfl; have q2 := hT.cell 2 rfl; have q3 := hT.cell 3 rfl; have q4 := hT.cell 4 rfl
          first | (go_simp; done) | (go_simp; with_reducible rfl) | with_reducible rfl | rfl
        try simp only [Act.put, List.setIfInBounds_toArray, List.set_cons_zero, List.set_cons_succ]
        refine tk 40 (some 98) (v := ?_) ?_ ?_
        rotate_left
        · intro w hSw
          first | (go_simp; done) | (go_simp; with_reducible rfl) | with_reducible rfl | rfl
        try simp only [Act.put, List.setIfInBounds_toArray, List.set_cons_zero, List.set_cons_succ]
        refine tk 41 (some 99) (v := ?_) ?_ ?_
        rotate_left
        · intro w hSw
          first | (go_simp; done) | (go_simp; with_reducible rfl) | with_reducible rfl | rfl
        try simp only [Act.put, List.setIfInBounds_toArray, List.set_cons_zero, List.set_cons_succ]
        rcases r2 with _ | _
        case true =>
          have HU := hide (unhide HMO ((unhide HWW).trans (df_3 (unhide HGD) (dk_2))))
          refine tk 42 (some 100) (v := ?_) ?_ ?_
          rotate_left
          · intro w hSw
            have c2 := cell_bl hSw (unhide HC2)
            first | (go_simp; done) | (go_simp; with_reducible rfl) | with_reducible rfl | rfl
          try simp only [Act.put, List.setIfInBounds_toArray, List.set_cons_zero, List.set_cons_succ]
          refine tk 43 (some 101) (v := ?_) ?_ ?_
          rotate_left
          · intro w hSw
            first | (go_simp; done) | (go_simp; with_reducible rfl) | with_reducible rfl | rfl
          try simp only [Act.put, List.setIfInBounds_toArray, List.set_cons_zero, List.set_cons_succ]
          refine tk 44 (some 102) (v := ?_) ?_ ?_
          rotate_left
          · intro w hSw
            first | (go_simp; done) | (go_simp; with_reducible rfl) | with_reducible rfl | rfl
          try simp only [Act.put, List.setIfInBounds_toArray, List.set_cons_zero, List.set_cons_succ]
          refine sk 45 (some 103) ?_
          try simp only [Act.put, List.setIfInBounds_toArray, List.set_cons_zero, List.set_cons_succ]
          refine sk 46 (some 104) ?_
          try simp only [Act.put, List.setIfInBounds_toArray, List.set_cons_zero, List.set_cons_succ]
          refine sk 47 (some 105) ?_
          try simp only [Act.put, List.setIfInBounds_toArray, List.set_cons_zero, List.set_cons_succ]
          refine sk 48 (some 106) ?_
          try simp only [Act.put, List.setIfInBounds_toArray, List.set_cons_zero, List.set_cons_succ]
          refine sk 49 (some 107) ?_
          try simp only [Act.put, List.setIfInBounds_toArray, List.set_cons_zero, List.set_cons_succ]
          refine sk 50 (some 108) ?_
          try simp only [Act.put, List.setIfInBounds_toArray, List.set_cons_zero, List.set_cons_succ]
          refine sk 51 (some 109) ?_
          try simp only [Act.put, List.setIfInBounds_toArray, List.set_cons_zero, List.set_cons_succ]
          refine sk 52 (some 110) ?_
          try simp only [Act.put, List.setIfInBounds_toArray, List.set_cons_zero, List.set_cons_succ]
          refine sk 53 (some 111) ?_
          try simp only [Act.put, List.setIfInBounds_toArray, List.set_cons_zero, List.set_cons_succ]
          refine sk 54 (some 112) ?_
          try simp only [Act.put, List.setIfInBounds_toArray, List.set_cons_zero, List.set_cons_succ]
          refine sk 55 (some 113) ?_
          try simp only [Act.put, List.setIfInBounds_toArray, List.set_cons_zero, List.set_cons_succ]
          refine tk 56 (some 114) (v := ?_) ?_ ?_
          rotate_left
          · intro w hSw
            first | (go_simp; done) | (go_simp; with_reducible rfl) | with_reducible rfl | rfl
          try simp only [Act.put, List.setIfInBounds_toArray, List.set_cons_zero, List.set_cons_succ]
          refine wpAnyH_done (by kernel_rfl) ?_ _
          replace HB := hide (below_tr (unhide HB) HD)
          replace HRR := hide ((unhide HRR).bel HD)
          replace HX := hide ((unhide HX).bel HD)
          replace HW := hide ((unhide HW).bel HD)
          replace HBW := hide ((unhide HBW).bel HD)
          replace HQ := hide ((unhide HQ).bel HD)
          clear HD 
          have x0c := (unhide HX).cell 0 rfl
          have x1c := (unhide HX).cell 1 rfl
          have x2c := (unhide HX).cell 2 rfl
          have x3c := (unhide HX).cell 3 rfl
          have x4c := (unhide HX).cell 4 rfl
          have x5c := (unhide HX).cell 5 rfl
          have q0 := (unhide HQ).cell 0 rfl
          have q1 := (unhide HQ).cell 1 rfl
          have q2 := (unhide HQ).cell 2 rfl
          have q3 := (unhide HQ).cell 3 rfl
          have q4 := (unhide HQ).cell 4 rfl
          go_wp2_with fail
          go_ret
          exact ⟨ret_bool (unhide HU).symm, unhide HB⟩
        refine tk 42 (some 100) (v := ?_) ?_ ?_
        rotate_left
        · intro w hSw
          have c2 := cell_bl hSw (unhide HC2)
          first | (go_simp; done) | (go_simp; with_reducible rfl) | with_reducible rfl | rfl
        try simp only [Act.put, List.setIfInBounds_toArray, List.set_cons_zero, List.set_cons_succ]
        refine tk 43 (some 101) (v := ?_) ?_ ?_
        rotate_left
        · intro w hSw
          first | (go_simp; done) | (go_simp; with_reducible rfl) | with_reducible rfl | rfl
        try simp only [Act.put, List.setIfInBounds_toArray, List.set_cons_zero, List.set_cons_succ]
        refine tk 44 (some 102) (v := ?_) ?_ ?_
        rotate_left
        · intro w hSw
          first | (go_simp; done) | (go_simp; with_reducible rfl) | with_reducible rfl | rfl
        try simp only [Act.put, List.setIfInBounds_toArray, List.set_cons_zero, List.set_cons_succ]
        refine tk 45 (some 103) (v := ?_) ?_ ?_
        rotate_left
        · intro w hSw
          first | (go_simp; done) | (go_simp; with_reducible rfl) | with_reducible rfl | rfl
        try simp only [Act.put, List.setIfInBounds_toArray, List.set_cons_zero, List.set_cons_succ]
        refine tk 46 (some 104) (v := ?_) ?_ ?_
        rotate_left
        · intro w hSw
          have hT := (unhide HQ).below hSw; have q0 := hT.cell 0 rfl; have q1 := hT.cell 1 rfl; have q2 := hT.cell 2 rfl; have q3 := hT.cell 3 rfl; have q4 := hT.cell 4 rfl
          first | (go_simp; done) | (go_simp; with_reducible rfl) | with_reducible rfl | rfl
        try simp only [Act.put, List.setIfInBounds_toArray, List.set_cons_zero, List.set_cons_succ]
        refine tk 47 (some 105) (v := ?_) ?_ ?_
        rotate_left
        · intro w hSw
          first | (go_simp; done) | (go_simp; with_reducible rfl) | with_reducible rfl | rfl
        try simp only [Act.put, List.setIfInBounds_toArray, List.set_cons_zero, List.set_cons_succ]
        refine tk 48 (some 106) (v := ?_) ?_ ?_
        rotate_left
        · intro w hSw
          first | (go_simp; done) | (go_simp; with_reducible rfl) | with_reducible rfl | rfl
        try simp only [Act.put, List.setIfInBounds_toArray, List.set_cons_zero, List.set_cons_succ]
        refine tk 49 (some 107) (v := ?_) ?_ ?_
        rotate_left
        · intro w hSw
          have hT := (unhide HQ).below hSw; have q0 := hT.cell 0 rfl; have q1 := hT.cell 1 rfl; have q2 := hT.cell 2 rfl; have q3 := hT.cell 3 rfl; have q4 := hT.cell 4 rfl
          first | (go_simp; done) | (go_simp; with_reducible rfl) | with_reducible rfl | rfl
        try simp only [Act.put, List.setIfInBounds_toArray, List.set_cons_zero, List.set_cons_succ]
        refine tk 50 (some 108) (v := ?_) ?_ ?_
        rotate_left
        · intro w hSw
          first | (go_simp; done) | (go_simp; with_reducible rfl) | with_reducible rfl | rfl
        try simp only [Act.put, List.setIfInBounds_toArray, List.set_cons_zero, List.set_cons_succ]
        refine tk 51 (some 109) (v := ?_) ?_ ?_
        rotate_left
        · intro w hSw
          first | (go_simp; done) | (go_simp; with_reducible rfl) | with_reducible rfl | rfl
        try simp only [Act.put, List.setIfInBounds_toArray, List.set_cons_zero, List.set_cons_succ]
        refine tk 52 (some 110) (v := ?_) ?_ ?_
        rotate_left
        · intro w hSw
          have c1 := cell_bl hSw (unhide HC1)
          first | (go_simp; done) | (go_simp; with_reducible rfl) | with_reducible rfl | rfl
        try simp only [Act.put, List.setIfInBounds_toArray, List.set_cons_zero, List.set_cons_succ]
        refine wpAnyH_ready (rs := [53]) (by kernel_rfl) (by simp) ?_
        refine AllReadyH.cons (o := { dst := some 111, op := _, type := _, pos := _, after := _, guard := _ }) rfl (fun K hK => ?_) AllReadyH.nil
        go_simp
        go_at_call 122
        refine (c122 r1 _).mono ?_
        rintro e V2 ⟨rfl, hww⟩
        have hww := hww.symm
        subst hww
        try go_wp2_with fail
        refine hK.out _ _ HD (fun hHeld => ?_)
        clear hK K hHeld
        try simp only [Act.put, List.setIfInBounds_toArray, List.set_cons_zero, List.set_cons_succ]
        rcases hpp : decide (1 ≤ x2 ∧ x2 ≤ Tm.cap r1) with _ | _
        case false =>
          have HU := hide (unhide HMO ((unhide HWW).trans (df_3 (unhide HGD) (dk_3 hpp))))
          have HPP := hide hpp
          clear hpp
          refine wpAnyH_ready (rs := [54]) (by kernel_rfl) (by simp) ?_
          refine AllReadyH.cons (o := { dst := some 112, op := _, type := _, pos := _, after := _, guard := _ }) rfl (fun K hK => ?_) AllReadyH.nil
          go_simp
          go_at_call 109
          refine (l1b (unhide HPP) _).mono ?_
          rintro e V3 ⟨rfl, hww⟩
          have hww := hww.symm
          subst hww
          try go_wp2_with fail
          refine hK.out _ _ HD (fun hHeld => ?_)
          clear hK K hHeld
          try simp only [Act.put, List.setIfInBounds_toArray, List.set_cons_zero, List.set_cons_succ]
          refine tk 55 (some 113) (v := ?_) ?_ ?_
          rotate_left
          · intro w hSw
            first | (go_simp; done) | (go_simp; with_reducible rfl) | with_reducible rfl | rfl
          try simp only [Act.put, List.setIfInBounds_toArray, List.set_cons_zero, List.set_cons_succ]
          refine tk 56 (some 114) (v := ?_) ?_ ?_
          rotate_left
          · intro w hSw
            first | (go_simp; done) | (go_simp; with_reducible rfl) | with_reducible rfl | rfl
          try simp only [Act.put, List.setIfInBounds_toArray, List.set_cons_zero, List.set_cons_succ]
          refine wpAnyH_done (by kernel_rfl) ?_ _
          replace HB := hide (below_tr (unhide HB) HD)
          replace HRR := hide ((unhide HRR).bel HD)
          replace HX := hide ((unhide HX).bel HD)
          replace HW := hide ((unhide HW).bel HD)
          replace HBW := hide ((unhide HBW).bel HD)
          replace HQ := hide ((unhide HQ).bel HD)
          clear HD 
          have x0c := (unhide HX).cell 0 rfl
          have x1c := (unhide HX).cell 1 rfl
          have x2c := (unhide HX).cell 2 rfl
          have x3c := (unhide HX).cell 3 rfl
          have x4c := (unhide HX).cell 4 rfl
          have x5c := (unhide HX).cell 5 rfl
          have q0 := (unhide HQ).cell 0 rfl
          have q1 := (unhide HQ).cell 1 rfl
          have q2 := (unhide HQ).cell 2 rfl
          have q3 := (unhide HQ).cell 3 rfl
          have q4 := (unhide HQ).cell 4 rfl
          go_wp2_with fail
          go_ret
          exact ⟨ret_bool (unhide HU).symm, unhide HB⟩
        have HON := hide (dk_on (c := cl) (x0 := (j : Int)) (x3 := x3) (x4 := x4) (unhide HW1) hpp)
        have HPP := hide hpp
        clear hpp
        refine wpAnyH_ready (rs := [54]) (by kernel_rfl) (by simp) ?_
        refine AllReadyH.cons (o := { dst := some 112, op := _, type := _, pos := _, after := _, guard := _ }) rfl (fun K hK => ?_) AllReadyH.nil
        go_simp
        go_at_call 109
        refine (l1b (unhide HPP) _).mono ?_
        rintro e V3 ⟨rfl, hww⟩
        have hww := hww.symm
        subst hww
        try go_wp2_with fail
        refine hK.out _ _ HD (fun hHeld => ?_)
        clear hK K hHeld
        try simp only [Act.put, List.setIfInBounds_toArray, List.set_cons_zero, List.set_cons_succ]
        refine tk 55 (some 113) (v := ?_) ?_ ?_
        rotate_left
        · intro w hSw
          first | (go_simp; done) | (go_simp; with_reducible rfl) | with_reducible rfl | rfl
        try simp only [Act.put, List.setIfInBounds_toArray, List.set_cons_zero, List.set_cons_succ]
        refine tk 56 (some 114) (v := ?_) ?_ ?_
        rotate_left
        · intro w hSw
          first | (go_simp; done) | (go_simp; with_reducible rfl) | with_reducible rfl | rfl
        try simp only [Act.put, List.setIfInBounds_toArray, List.set_cons_zero, List.set_cons_succ]
        refine wpAnyH_done (by kernel_rfl) ?_ _
        replace HB := hide (below_tr (unhide HB) HD)
        replace HRR := hide ((unhide HRR).bel HD)
        replace HX := hide ((unhide HX).bel HD)
        replace HW := hide ((unhide HW).bel HD)
        replace HBW := hide ((unhide HBW).bel HD)
        replace HQ := hide ((unhide HQ).bel HD)
        clear HD 
        by_cases h3 : x3 = 0
        case pos =>
          as_aux_lemma =>
            have hb3 : (x3 == 0) = true := by rw [beq_iff_eq]; exact h3
            by_cases h4 : x4 = 0
            case pos =>
              have hb4 : (x4 != 0) = false := by rw [bne_eq_false_iff_eq]; exact h4
              have hb33 : (x3 != 0) = false := by rw [bne_eq_false_iff_eq]; exact h3
              have HNX := hide ((unhide HWW).trans (df_on (unhide HPK) (by have := unhide HLL; omega) (unhide HGD) ((unhide HON).trans (by rw [h3, dw_0, h4]; rfl))))
              rw [← unhide HDL] at HNX
              clear h3 h4
              have x0c := (unhide HX).cell 0 rfl
              have x1c := (unhide HX).cell 1 rfl
              have x2c := (unhide HX).cell 2 rfl
              have x3c := (unhide HX).cell 3 rfl
              have x4c := (unhide HX).cell 4 rfl
              have x5c := (unhide HX).cell 5 rfl
              have q0 := (unhide HQ).cell 0 rfl
              have q1 := (unhide HQ).cell 1 rfl
              have q2 := (unhide HQ).cell 2 rfl
              have q3 := (unhide HQ).cell 3 rfl
              have q4 := (unhide HQ).cell 4 rfl
              go_wp2_with fail
              (try clear x0c x1c x2c x3c x4c x5c q0 q1 q2 q3 q4)
              go_roundw
              case rel => exact ⟨k + 1, by omega, by go_num, unhide HNX, unhide HBW⟩
              case measure => simp [intOf]; omega
            have hb4 : (x4 != 0) = true := by rw [bne_iff_ne]; exact h4
            have HU := hide (unhide HMO ((unhide HWW).trans (df_3 (unhide HGD) ((unhide HON).trans (by rw [h3, dw_0]; exact decide_eq_false h4)))))
            clear h3 h4
            have x0c := (unhide HX).cell 0 rfl
            have x1c := (unhide HX).cell 1 rfl
            have x2c := (unhide HX).cell 2 rfl
            have x3c := (unhide HX).cell 3 rfl
            have x4c := (unhide HX).cell 4 rfl
            have x5c := (unhide HX).cell 5 rfl
            have q0 := (unhide HQ).cell 0 rfl
            have q1 := (unhide HQ).cell 1 rfl
            have q2 := (unhide HQ).cell 2 rfl
            have q3 := (unhide HQ).cell 3 rfl
            have q4 := (unhide HQ).cell 4 rfl
            go_wp2_with fail
            go_ret
            exact ⟨ret_bool (unhide HU).symm, unhide HB⟩
        have hb3 : (x3 == 0) = false := by rw [beq_eq_false_iff_ne]; exact h3
        have hb33 : (x3 != 0) = true := by rw [bne_iff_ne]; exact h3
        rcases hu : decide (1 ≤ x3 ∧ x3 ≤ 5) with _ | _
        case false =>
          as_aux_lemma =>
            have HU := hide (unhide HMO ((unhide HWW).trans (df_3 (unhide HGD) ((unhide HON).trans (dw_1 h3 hu)))))
            clear h3
            have x0c := (unhide HX).cell 0 rfl
            have x1c := (unhide HX).cell 1 rfl
            have x2c := (unhide HX).cell 2 rfl
            have x3c := (unhide HX).cell 3 rfl
            have x4c := (unhide HX).cell 4 rfl
            have x5c := (unhide HX).cell 5 rfl
            have q0 := (unhide HQ).cell 0 rfl
            have q1 := (unhide HQ).cell 1 rfl
            have q2 := (unhide HQ).cell 2 rfl
            have q3 := (unhide HQ).cell 3 rfl
            have q4 := (unhide HQ).cell 4 rfl
            go_wp2_with fail
            refine (c109 x3 1 5 _).mono ?_
            rintro e wz ⟨rfl, hww⟩
            have hww := hww.symm
            subst hww
            rw [hu]
            go_wp2_with fail
            go_ret
            exact ⟨ret_bool (unhide HU).symm, unhide HB⟩
        by_cases h5 : x3 = x1
        case pos =>
          as_aux_lemma =>
            have HU := hide (unhide HMO ((unhide HWW).trans (df_3 (unhide HGD) ((unhide HON).trans (dw_2 h3 h5)))))
            have hb5 : (x3 == x1) = true := by rw [beq_iff_eq]; exact h5
            clear h3 h5
            have x0c := (unhide HX).cell 0 rfl
            have x1c := (unhide HX).cell 1 rfl
            have x2c := (unhide HX).cell 2 rfl
            have x3c := (unhide HX).cell 3 rfl
            have x4c := (unhide HX).cell 4 rfl
            have x5c := (unhide HX).cell 5 rfl
            have q0 := (unhide HQ).cell 0 rfl
            have q1 := (unhide HQ).cell 1 rfl
            have q2 := (unhide HQ).cell 2 rfl
            have q3 := (unhide HQ).cell 3 rfl
            have q4 := (unhide HQ).cell 4 rfl
            go_wp2_with fail
            refine (c109 x3 1 5 _).mono ?_
            rintro e wz ⟨rfl, hww⟩
            have hww := hww.symm
            subst hww
            rw [hu]
            go_wp2_with fail
            go_ret
            exact ⟨ret_bool (unhide HU).symm, unhide HB⟩
        have hb5 : (x3 == x1) = false := by rw [beq_eq_false_iff_ne]; exact h5
        have HDW := hide (dw_3 (c := cl) (x0 := (j : Int)) (x2 := x2) (x4 := x4) h3 hu h5)
        have hcl2 := unhide HCL
        have hwr : IntKind.i64.wrap (cl + 5) = cl + 5 := wrap_sub (by omega) (by omega)
        clear h3 h5 hcl2
        rcases hv : decide (cl ≤ x4 ∧ x4 ≤ cl + 5) with _ | _
        case false =>
          as_aux_lemma =>
            have HU := hide (unhide HMO ((unhide HWW).trans (df_3 (unhide HGD) ((unhide HON).trans ((unhide HDW).trans hv)))))
            have x0c := (unhide HX).cell 0 rfl
            have x1c := (unhide HX).cell 1 rfl
            have x2c := (unhide HX).cell 2 rfl
            have x3c := (unhide HX).cell 3 rfl
            have x4c := (unhide HX).cell 4 rfl
            have x5c := (unhide HX).cell 5 rfl
            have q0 := (unhide HQ).cell 0 rfl
            have q1 := (unhide HQ).cell 1 rfl
            have q2 := (unhide HQ).cell 2 rfl
            have q3 := (unhide HQ).cell 3 rfl
            have q4 := (unhide HQ).cell 4 rfl
            go_wp2_with fail
            refine (c109 x3 1 5 _).mono ?_
            rintro e wz ⟨rfl, hww⟩
            have hww := hww.symm
            subst hww
            rw [hu]
            go_wp2_with fail
            refine (c109 x4 cl (cl + 5) _).mono ?_
            rintro e wz ⟨rfl, hww⟩
            have hww := hww.symm
            subst hww
            rw [hv]
            go_wp2_with fail
            go_ret
            exact ⟨ret_bool (unhide HU).symm, unhide HB⟩
        have HNX := hide ((unhide HWW).trans (df_on (unhide HPK) (by have := unhide HLL; omega) (unhide HGD) ((unhide HON).trans ((unhide HDW).trans hv))))
        rw [← unhide HDL] at HNX
        have x0c := (unhide HX).cell 0 rfl
        have x1c := (unhide HX).cell 1 rfl
        have x2c := (unhide HX).cell 2 rfl
        have x3c := (unhide HX).cell 3 rfl
        have x4c := (unhide HX).cell 4 rfl
        have x5c := (unhide HX).cell 5 rfl
        have q0 := (unhide HQ).cell 0 rfl
        have q1 := (unhide HQ).cell 1 rfl
        have q2 := (unhide HQ).cell 2 rfl
        have q3 := (unhide HQ).cell 3 rfl
        have q4 := (unhide HQ).cell 4 rfl
        go_wp2_with fail
        refine (c109 x3 1 5 _).mono ?_
        rintro e wz ⟨rfl, hww⟩
        have hww := hww.symm
        subst hww
        rw [hu]
        go_wp2_with fail
        refine (c109 x4 cl (cl + 5) _).mono ?_
        rintro e wz ⟨rfl, hww⟩
        have hww := hww.symm
        subst hww
        rw [hv]
        go_wp2_with fail
        (try clear x0c x1c x2c x3c x4c x5c q0 q1 q2 q3 q4)
        go_roundw
        case rel => exact ⟨k + 1, by omega, by go_num, unhide HNX, unhide HBW⟩
        case measure => simp [intOf]; omega
end Go.Proofs.Ytmlbphmbffkdnaa
