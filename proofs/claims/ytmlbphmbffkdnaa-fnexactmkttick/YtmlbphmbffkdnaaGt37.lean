/-
  Texts of the proof, what it needs of them: Moko.
-/
import Derived.Test.YtmlbphmbffkdnaaGt33
import Derived.Test.YtmlbphmbffkdnaaGt36
namespace Go.Proofs.Ytmlbphmbffkdnaa
open Go.RowKit
set_option linter.unusedVariables false
set_option maxRecDepth 100000

theorem RRow.at2 {w : World} {b off j : Nat} {rs : List Tm.Rw} {a c : Int} {d : Bool} (h : RRow w (some ⟨b, off, none⟩) rs) (hj : rs[j]? = some (a, c, d)) :
    w.cell? ⟨b, off + j * 3, none⟩ = some (.int .i64 a) ∧ w.cell? ⟨b, off + j * 3 + 1, none⟩ = some (.int .i64 c) ∧ w.cell? ⟨b, off + j * 3 + 2, none⟩ = some (.bool d) := by
  obtain ⟨b', off', he, hc⟩ := h.2 (by intro e; subst e; simp at hj)
  cases he
  exact r_cells (Below.refl _ _) hc hj
theorem getD_of {xs : List Int} {k : Nat} {x : Int} (h : xs[k]? = some x) : xs.getD k 0 = x := by rw [List.getD_eq_getElem?_getD, h]; rfl

set_option maxHeartbeats 8000000 in
theorem c112 (h : House) (q : HP) (w : World) (hs : Small h) (hr : HRow w q h) : Calls Try.prog 112 #[hV q h] w fun e w' => e = .returned (.bool (numsOk h.nu h.sa)) ∧ Below w.heap.size w w' := by
  obtain ⟨es, pu, ds, cl, nu, sa⟩ := h
  obtain ⟨a0, k0, a1, k1, a2, k2, a4, k4, a5, k5⟩ := q
  have HRR := hide hr
  clear hr
  dsimp only at hs ⊢
  have HB := hide (Below.refl w.heap.size w)
  have HN := hide (unhide HRR).2.2.2.1
  have HS := hide (unhide HRR).2.2.2.2
  dsimp only at HN HS
  clear HRR hs
  replace HB := hide (below_al (o := .cells #[.slice a0 es.length k0, .slice a1 pu.length k1, .slice a2 ds.length k2, .int .i64 cl, .slice a4 nu.length k4, .slice a5 sa.length k5] 28) (unhide HB))
  have HX := hide (box_new w [.slice a0 es.length k0, .slice a1 pu.length k1, .slice a2 ds.length k2, .int .i64 cl, .slice a4 nu.length k4, .slice a5 sa.length k5] 28 (by simp [Value.oneCell']))
  (try simp only [World.size_alloc] at HX)
  by_cases h1 : nu.length = 5
  case neg =>
    have HU := hide (nums_len1 (sa := sa) h1)
    have hb1 : ((nu.length : Int) != 5) = true := by rw [bne_iff_ne]; omega
    clear h1
    have x0c := (unhide HX).cell 0 rfl
    have x1c := (unhide HX).cell 1 rfl
    have x2c := (unhide HX).cell 2 rfl
    have x3c := (unhide HX).cell 3 rfl
    have x4c := (unhide HX).cell 4 rfl
    have x5c := (unhide HX).cell 5 rfl
    go_enter Try.func112, Try.ntmps112
    go_wp2_with fail
    go_ret
    exact ⟨ret_bool (unhide HU).symm, unhide HB⟩
  have hb1 : ((nu.length : Int) != 5) = false := by rw [bne_eq_false_iff_eq]; omega
  by_cases h2 : sa.length = 5
  case neg =>
    have HU := hide (nums_len2 (nu := nu) h2)
    have hb2 : ((sa.length : Int) != 5) = true := by rw [bne_iff_ne]; omega
    clear h1 h2
    have x0c := (unhide HX).cell 0 rfl
    have x1c := (unhide HX).cell 1 rfl
    have x2c := (unhide HX).cell 2 rfl
    have x3c := (unhide HX).cell 3 rfl
    have x4c := (unhide HX).cell 4 rfl
    have x5c := (unhide HX).cell 5 rfl
    go_enter Try.func112, Try.ntmps112
    go_wp2_with fail
    go_ret
    exact ⟨ret_bool (unhide HU).symm, unhide HB⟩
  have hb2 : ((sa.length : Int) != 5) = false := by rw [bne_eq_false_iff_eq]; omega
  have HL1 := hide h1
  have HL2 := hide h2
  clear h1 h2
  have x0c := (unhide HX).cell 0 rfl
  have x1c := (unhide HX).cell 1 rfl
  have x2c := (unhide HX).cell 2 rfl
  have x3c := (unhide HX).cell 3 rfl
  have x4c := (unhide HX).cell 4 rfl
  have x5c := (unhide HX).cell 5 rfl
  go_enter Try.func112, Try.ntmps112
  go_wp2_with fail
  (try clear x0c x1c x2c x3c x4c x5c)
  generalize hWB : w.alloc (.cells #[.slice a0 es.length k0, .slice a1 pu.length k1, .slice a2 ds.length k2, .int .i64 cl, .slice a4 nu.length k4, .slice a5 sa.length k5] 28) = WB at *
  clear hWB
  go_loopw [18] (fun i wr => ∃ k : Nat, k ≤ 5 ∧ i = .int .i64 k ∧ numsTo nu sa k = true ∧ Below WB.heap.size WB wr) (fun i _ => 5 - (intOf i).toNat)
  case atStart => exact ⟨0, Nat.zero_le _, rfl, rfl, Below.refl _ _⟩
  case round =>
    obtain ⟨k, hk, rfl, hnt, hbel⟩ := hrel
    obtain ⟨WA, hWA⟩ : ∃ x, x = wr := ⟨_, rfl⟩
    subst hWA
    have HXA := hide ((unhide HX).below hbel)
    have HBA := hide (below_tr (unhide HB) hbel)
    have HBE := hide hbel
    clear hbel
    by_cases hlt : k < 5
    case neg =>
      obtain rfl : k = 5 := by omega
      have HU := hide (nums_all (unhide HL1) (unhide HL2) hnt)
      have hge : ¬ (((5 : Nat) : Int) < (nu.length : Int)) := by have := unhide HL1; omega
      clear hnt
      have x0c := (unhide HXA).cell 0 rfl
      have x1c := (unhide HXA).cell 1 rfl
      have x2c := (unhide HXA).cell 2 rfl
      have x3c := (unhide HXA).cell 3 rfl
      have x4c := (unhide HXA).cell 4 rfl
      have x5c := (unhide HXA).cell 5 rfl
      go_wp2_with fail
      go_ret
      exact ⟨ret_bool (unhide HU).symm, unhide HBA⟩
    have e0 : (0 : Int) ≤ (k : Int) := by omega
    have e1 : (k : Int) < (nu.length : Int) := by have := unhide HL1; omega
    have e2 : (k : Int) < (sa.length : Int) := by have := unhide HL2; omega
    obtain ⟨n, hn⟩ := i_at (show k < nu.length by omega)
    obtain ⟨s, hs⟩ := i_at (show k < sa.length by omega)
    obtain ⟨b, off, rfl, hc, -, -⟩ := ((unhide HN).bel (unhide HBA)).get hn
    obtain ⟨b', off', rfl, hc', -, -⟩ := ((unhide HS).bel (unhide HBA)).get hs
    have HNB := hide (fun h => nums_bad (nu := nu) (sa := sa) hlt h)
    have HNS := hide (numsTo_succ nu sa k)
    rw [getD_of hn, getD_of hs, hnt] at HNS
    rw [getD_of hn, getD_of hs] at HNB
    clear hn hs hnt
    rcases hp : decide (0 ≤ n ∧ n ≤ 99999) with _ | _
    case false =>
      have HU := hide (unhide HNB (na_1 hp))
      have x0c := (unhide HXA).cell 0 rfl
      have x1c := (unhide HXA).cell 1 rfl
      have x2c := (unhide HXA).cell 2 rfl
      have x3c := (unhide HXA).cell 3 rfl
      have x4c := (unhide HXA).cell 4 rfl
      have x5c := (unhide HXA).cell 5 rfl
      go_wp2_with fail
      refine (c110 n 0 99999 _).mono ?_
      rintro e w1 ⟨rfl, hww⟩
      have hww := hww.symm
      subst hww
      rw [hp]
      go_wp2_with fail
      go_ret
      exact ⟨ret_bool (unhide HU).symm, unhide HBA⟩
    rcases hq : decide (0 ≤ s ∧ s ≤ 6) with _ | _
    case false =>
      have HU := hide (unhide HNB (na_2 hq))
      have x0c := (unhide HXA).cell 0 rfl
      have x1c := (unhide HXA).cell 1 rfl
      have x2c := (unhide HXA).cell 2 rfl
      have x3c := (unhide HXA).cell 3 rfl
      have x4c := (unhide HXA).cell 4 rfl
      have x5c := (unhide HXA).cell 5 rfl
      go_wp2_with fail
      refine (c110 n 0 99999 _).mono ?_
      rintro e w1 ⟨rfl, hww⟩
      have hww := hww.symm
      subst hww
      rw [hp]
      go_wp2_with fail
      refine (c110 s 0 6 _).mono ?_
      rintro e w2 ⟨rfl, hww⟩
      have hww := hww.symm
      subst hww
      rw [hq]
      go_wp2_with fail
      go_ret
      exact ⟨ret_bool (unhide HU).symm, unhide HBA⟩
    have HNA := hide (na_3 hp hq)
    by_cases hn0 : n = 0
    case pos =>
      have hz1 : (n == 0) = true := by rw [beq_iff_eq]; exact hn0
      by_cases hs0 : s = 0
      case pos =>
        have hz2 : (s == 0) = true := by rw [beq_iff_eq]; exact hs0
        have HV : Hid (numAt n s = true) := by unfold Hid; rw [unhide HNA]; simp [hn0, hs0]
        rw [unhide HV] at HNS
        clear hn0 hs0
        have x0c := (unhide HXA).cell 0 rfl
        have x1c := (unhide HXA).cell 1 rfl
        have x2c := (unhide HXA).cell 2 rfl
        have x3c := (unhide HXA).cell 3 rfl
        have x4c := (unhide HXA).cell 4 rfl
        have x5c := (unhide HXA).cell 5 rfl
        go_wp2_with fail
        refine (c110 n 0 99999 _).mono ?_
        rintro e w1 ⟨rfl, hww⟩
        have hww := hww.symm
        subst hww
        rw [hp]
        go_wp2_with fail
        refine (c110 s 0 6 _).mono ?_
        rintro e w2 ⟨rfl, hww⟩
        have hww := hww.symm
        subst hww
        rw [hq]
        go_wp2_with fail
        (try clear x0c x1c x2c x3c x4c x5c)
        go_roundw
        case rel => exact ⟨k + 1, by omega, by go_num, by rw [unhide HNS]; rfl, unhide HBE⟩
        case measure => simp [intOf]; omega
      have hz2 : (s == 0) = false := by rw [beq_eq_false_iff_ne]; exact hs0
      have HV : Hid (numAt n s = false) := by unfold Hid; rw [unhide HNA]; simp [hn0, hs0]
      have HU := hide (unhide HNB (unhide HV))
      clear hn0 hs0
      have x0c := (unhide HXA).cell 0 rfl
      have x1c := (unhide HXA).cell 1 rfl
      have x2c := (unhide HXA).cell 2 rfl
      have x3c := (unhide HXA).cell 3 rfl
      have x4c := (unhide HXA).cell 4 rfl
      have x5c := (unhide HXA).cell 5 rfl
      go_wp2_with fail
      refine (c110 n 0 99999 _).mono ?_
      rintro e w1 ⟨rfl, hww⟩
      have hww := hww.symm
      subst hww
      rw [hp]
      go_wp2_with fail
      refine (c110 s 0 6 _).mono ?_
      rintro e w2 ⟨rfl, hww⟩
      have hww := hww.symm
      subst hww
      rw [hq]
      go_wp2_with fail
      go_ret
      exact ⟨ret_bool (unhide HU).symm, unhide HBA⟩
    have hz1 : (n == 0) = false := by rw [beq_eq_false_iff_ne]; exact hn0
    by_cases hs0 : s = 0
    case pos =>
      have hz2 : (s == 0) = true := by rw [beq_iff_eq]; exact hs0
      have HV : Hid (numAt n s = false) := by unfold Hid; rw [unhide HNA]; simp [hn0, hs0]
      have HU := hide (unhide HNB (unhide HV))
      clear hn0 hs0
      have x0c := (unhide HXA).cell 0 rfl
      have x1c := (unhide HXA).cell 1 rfl
      have x2c := (unhide HXA).cell 2 rfl
      have x3c := (unhide HXA).cell 3 rfl
      have x4c := (unhide HXA).cell 4 rfl
      have x5c := (unhide HXA).cell 5 rfl
      go_wp2_with fail
      refine (c110 n 0 99999 _).mono ?_
      rintro e w1 ⟨rfl, hww⟩
      have hww := hww.symm
      subst hww
      rw [hp]
      go_wp2_with fail
      refine (c110 s 0 6 _).mono ?_
      rintro e w2 ⟨rfl, hww⟩
      have hww := hww.symm
      subst hww
      rw [hq]
      go_wp2_with fail
      go_ret
      exact ⟨ret_bool (unhide HU).symm, unhide HBA⟩
    have hz2 : (s == 0) = false := by rw [beq_eq_false_iff_ne]; exact hs0
    have HV : Hid (numAt n s = true) := by unfold Hid; rw [unhide HNA]; simp [hn0, hs0]
    rw [unhide HV] at HNS
    clear hn0 hs0
    have x0c := (unhide HXA).cell 0 rfl
    have x1c := (unhide HXA).cell 1 rfl
    have x2c := (unhide HXA).cell 2 rfl
    have x3c := (unhide HXA).cell 3 rfl
    have x4c := (unhide HXA).cell 4 rfl
    have x5c := (unhide HXA).cell 5 rfl
    go_wp2_with fail
    refine (c110 n 0 99999 _).mono ?_
    rintro e w1 ⟨rfl, hww⟩
    have hww := hww.symm
    subst hww
    rw [hp]
    go_wp2_with fail
    refine (c110 s 0 6 _).mono ?_
    rintro e w2 ⟨rfl, hww⟩
    have hww := hww.symm
    subst hww
    rw [hq]
    go_wp2_with fail
    (try clear x0c x1c x2c x3c x4c x5c)
    go_roundw
    case rel => exact ⟨k + 1, by omega, by go_num, by rw [unhide HNS]; rfl, unhide HBE⟩
    case measure => simp [intOf]; omega

set_option maxHeartbeats 8000000 in
theorem c111 (h : House) (q : HP) (rs : List Tm.Rw) (ar : Option Addr) (cr : Nat) (w : World) (hs : h.ds.length ≤ 1048576) (h8 : rs.length = 8) (hcl : 0 ≤ h.cl ∧ h.cl ≤ 99999) (hr : HRow w q h) (hw : RRow w ar rs) :
    Calls Try.prog 111 #[hV q h, .slice ar 8 cr] w fun e w' => e = .returned (.bool (dealsFrom rs h.cl (-1) h.ds)) ∧ Below w.heap.size w w' := by
  obtain ⟨es, pu, ds, cl, nu, sa⟩ := h
  obtain ⟨a0, k0, a1, k1, a2, k2, a4, k4, a5, k5⟩ := q
  have HRR := hide hr
  clear hr
  dsimp only at hs hcl ⊢
  have HB := hide (Below.refl w.heap.size w)
  have HR := hide (unhide HRR).2.2.1.2
  dsimp only at HR
  have HRW := hide hw
  have H8 := hide h8
  have HCL := hide hcl
  clear HRR hw h8 hcl
  replace HB := hide (below_al (o := .cells #[.slice a0 es.length k0, .slice a1 pu.length k1, .slice a2 ds.length k2, .int .i64 cl, .slice a4 nu.length k4, .slice a5 sa.length k5] 28) (unhide HB))
  have HX := hide (box_new w [.slice a0 es.length k0, .slice a1 pu.length k1, .slice a2 ds.length k2, .int .i64 cl, .slice a4 nu.length k4, .slice a5 sa.length k5] 28 (by simp [Value.oneCell']))
  (try simp only [World.size_alloc] at HX)
  have x0c := (unhide HX).cell 0 rfl
  have x1c := (unhide HX).cell 1 rfl
  have x2c := (unhide HX).cell 2 rfl
  have x3c := (unhide HX).cell 3 rfl
  have x4c := (unhide HX).cell 4 rfl
  have x5c := (unhide HX).cell 5 rfl
  go_enter Try.func111, Try.ntmps111
  go_wp2_with fail
  (try clear x0c x1c x2c x3c x4c x5c)
  generalize hWB : w.alloc (.cells #[.slice a0 es.length k0, .slice a1 pu.length k1, .slice a2 ds.length k2, .int .i64 cl, .slice a4 nu.length k4, .slice a5 sa.length k5] 28) = WB at *
  clear hWB
  go_loopw [5, 11] (fun la i wr => ∃ (k : Nat) (lv : Int), k ≤ ds.length ∧ i = .int .i64 k ∧ la = .int .i64 lv ∧ dealsFrom rs cl (-1) ds = dealsFrom rs cl lv (ds.drop k) ∧ Below WB.heap.size WB wr) (fun _ i _ => ds.length - (intOf i).toNat)
  case atStart => exact ⟨0, -1, Nat.zero_le _, rfl, rfl, rfl, Below.refl _ _⟩
  case round =>
    obtain ⟨k, lv, hk, rfl, rfl, hw, hbel⟩ := hrel
    obtain ⟨WA, hWA⟩ : ∃ x, x = wr := ⟨_, rfl⟩
    subst hWA
    have HXA := hide ((unhide HX).below hbel)
    have HB0 := HB
    have HBA := hide (below_tr (unhide HB) hbel)
    clear HB
    by_cases hlt : k < ds.length
    case neg =>
      obtain rfl : k = ds.length := by omega
      rw [List.drop_length] at hw
      have HU : Hid (_ = true) := hw
      clear hw hbel
      have x0c := (unhide HXA).cell 0 rfl
      have x1c := (unhide HXA).cell 1 rfl
      have x2c := (unhide HXA).cell 2 rfl
      have x3c := (unhide HXA).cell 3 rfl
      have x4c := (unhide HXA).cell 4 rfl
      have x5c := (unhide HXA).cell 5 rfl
      go_wp2_with fail
      go_ret
      exact ⟨ret_bool (unhide HU).symm, unhide HBA⟩
    have e0 : (0 : Int) ≤ (k : Int) := by omega
    have e1 : (k : Int) < (ds.length : Int) := by omega
    obtain ⟨b, off, rfl, hc⟩ := unhide HR (by intro e; subst e; simp at hlt)
    obtain ⟨⟨x0, x1, x2, x3, x4⟩, hx⟩ := atDD hlt
    obtain ⟨g0, g1, g2, g3, g4⟩ := d_cells (unhide HBA) hc hx
    rw [d_drop hx] at hw
    clear hc hx
    have HQ := hide (box_new WA [.int .i64 x0, .int .i64 x1, .int .i64 x2, .int .i64 x3, .int .i64 x4] 42 (by simp [Value.oneCell']))
    replace HXA := hide ((unhide HXA).alloc (.cells #[.int .i64 x0, .int .i64 x1, .int .i64 x2, .int .i64 x3, .int .i64 x4] 42))
    have HB := hide (below_al (o := .cells #[.int .i64 x0, .int .i64 x1, .int .i64 x2, .int .i64 x3, .int .i64 x4] 42) hbel)
    clear hbel
    rcases hp : decide (0 ≤ x0 ∧ x0 ≤ 7) with _ | _
    case false =>
      have HU := hide (hw.trans (df_1 hp))
      clear hw
      have x0c := (unhide HXA).cell 0 rfl
      have x1c := (unhide HXA).cell 1 rfl
      have x2c := (unhide HXA).cell 2 rfl
      have x3c := (unhide HXA).cell 3 rfl
      have x4c := (unhide HXA).cell 4 rfl
      have x5c := (unhide HXA).cell 5 rfl
      have q0 := (unhide HQ).cell 0 rfl
      have q1 := (unhide HQ).cell 1 rfl
      have q2 := (unhide HQ).cell 2 rfl
      have q3 := (unhide HQ).cell 3 rfl
      have q4 := (unhide HQ).cell 4 rfl
      go_wp2_with fail
      clear g0 g1 g2 g3 g4
      generalize WA.alloc (.cells #[.int .i64 x0, .int .i64 x1, .int .i64 x2, .int .i64 x3, .int .i64 x4] 42) = W1 at *
      (try clear x0c x1c x2c x3c x4c x5c q0 q1 q2 q3 q4)
      refine wp_region_held_drew (S := fun w' => Below W1.heap.size W1 w') (by kernel_rfl) (below_drew W1) (fun hHeld => ?_)
      refine tk 0 (some 15) (v := ?_) ?_ ?_
      rotate_left
      · intro w hSw
        have hT := (unhide HXA).below hSw; have x0c := hT.cell 0 rfl; have x1c := hT.cell 1 rfl; have x2c := hT.cell 2 rfl; have x3c := hT.cell 3 rfl; have x4c := hT.cell 4 rfl; have x5c := hT.cell 5 rfl; clear hT; have hT := (unhide HQ).below hSw; have q0 := hT.cell 0 rfl; have q1 := hT.cell 1 rfl; have q2 := hT.cell 2 rfl; have q3 := hT.cell 3 rfl; have q4 := hT.cell 4 rfl; clear hT
        first | (go_simp; done) | (go_simp; with_reducible rfl) | with_reducible rfl | rfl
      try simp only [Act.put, List.setIfInBounds_toArray, List.set_cons_zero, List.set_cons_succ]
      refine tk 1 (some 16) (v := ?_) ?_ ?_
      rotate_left
      · intro w hSw
        have hT := (unhide HXA).below hSw; have x0c := hT.cell 0 rfl; have x1c := hT.cell 1 rfl; have x2c := hT.cell 2 rfl; have x3c := hT.cell 3 rfl; have x4c := hT.cell 4 rfl; have x5c := hT.cell 5 rfl; clear hT; have hT := (unhide HQ).below hSw; have q0 := hT.cell 0 rfl; have q1 := hT.cell 1 rfl; have q2 := hT.cell 2 rfl; have q3 := hT.cell 3 rfl; have q4 := hT.cell 4 rfl; clear hT
        first | (go_simp; done) | (go_simp; with_reducible rfl) | with_reducible rfl | rfl
      try simp only [Act.put, List.setIfInBounds_toArray, List.set_cons_zero, List.set_cons_succ]
      have HD := below_drew W1
      generalize W1.drew = V0 at *
      refine wpAnyH_ready (rs := [2]) (by kernel_rfl) (by simp) ?_
      refine AllReadyH.cons (o := { dst := some 17, op := _, type := _, pos := _, after := _, guard := _ }) rfl (fun K hK => ?_) AllReadyH.nil
      go_simp
      go_at_call 133
      refine (c133 x0 _).mono ?_
      rintro e V1 ⟨rfl, hww⟩
      have hww := hww.symm
      subst hww
      rw [hp]
      try go_wp2_with fail
      refine hK.out _ _ HD (fun hHeld => ?_)
      clear hK K hHeld
      try simp only [Act.put, List.setIfInBounds_toArray, List.set_cons_zero, List.set_cons_succ]
      refine tk 3 (some 18) (v := ?_) ?_ ?_
      rotate_left
      · intro w hSw
        first | (go_simp; done) | (go_simp; with_reducible rfl) | with_reducible rfl | rfl
      try simp only [Act.put, List.setIfInBounds_toArray, List.set_cons_zero, List.set_cons_succ]
      refine tk 4 (some 19) (v := ?_) ?_ ?_
      rotate_left
      · intro w hSw
        first | (go_simp; done) | (go_simp; with_reducible rfl) | with_reducible rfl | rfl
      try simp only [Act.put, List.setIfInBounds_toArray, List.set_cons_zero, List.set_cons_succ]
      refine sk 5 (some 20) ?_
      try simp only [Act.put, List.setIfInBounds_toArray, List.set_cons_zero, List.set_cons_succ]
      refine sk 6 (some 21) ?_
      try simp only [Act.put, List.setIfInBounds_toArray, List.set_cons_zero, List.set_cons_succ]
      refine sk 7 (some 22) ?_
      try simp only [Act.put, List.setIfInBounds_toArray, List.set_cons_zero, List.set_cons_succ]
      refine sk 8 (some 23) ?_
      try simp only [Act.put, List.setIfInBounds_toArray, List.set_cons_zero, List.set_cons_succ]
      refine tk 9 (some 24) (v := ?_) ?_ ?_
      rotate_left
      · intro w hSw
        first | (go_simp; done) | (go_simp; with_reducible rfl) | with_reducible rfl | rfl
      try simp only [Act.put, List.setIfInBounds_toArray, List.set_cons_zero, List.set_cons_succ]
      refine tk 10 (some 25) (v := ?_) ?_ ?_
      rotate_left
      · intro w hSw
        first | (go_simp; done) | (go_simp; with_reducible rfl) | with_reducible rfl | rfl
      try simp only [Act.put, List.setIfInBounds_toArray, List.set_cons_zero, List.set_cons_succ]
      refine sk 11 (some 26) ?_
      try simp only [Act.put, List.setIfInBounds_toArray, List.set_cons_zero, List.set_cons_succ]
      refine sk 12 (some 27) ?_
      try simp only [Act.put, List.setIfInBounds_toArray, List.set_cons_zero, List.set_cons_succ]
      refine sk 13 (some 28) ?_
      try simp only [Act.put, List.setIfInBounds_toArray, List.set_cons_zero, List.set_cons_succ]
      refine sk 14 (some 29) ?_
      try simp only [Act.put, List.setIfInBounds_toArray, List.set_cons_zero, List.set_cons_succ]
      refine sk 15 (some 30) ?_
      try simp only [Act.put, List.setIfInBounds_toArray, List.set_cons_zero, List.set_cons_succ]
      refine sk 16 (some 31) ?_
      try simp only [Act.put, List.setIfInBounds_toArray, List.set_cons_zero, List.set_cons_succ]
      refine sk 17 (some 32) ?_
      try simp only [Act.put, List.setIfInBounds_toArray, List.set_cons_zero, List.set_cons_succ]
      refine sk 18 (some 33) ?_
      try simp only [Act.put, List.setIfInBounds_toArray, List.set_cons_zero, List.set_cons_succ]
      refine sk 19 (some 34) ?_
      try simp only [Act.put, List.setIfInBounds_toArray, List.set_cons_zero, List.set_cons_succ]
      refine sk 20 (some 35) ?_
      try simp only [Act.put, List.setIfInBounds_toArray, List.set_cons_zero, List.set_cons_succ]
      refine tk 21 (some 36) (v := ?_) ?_ ?_
      rotate_left
      · intro w hSw
        first | (go_simp; done) | (go_simp; with_reducible rfl) | with_reducible rfl | rfl
      try simp only [Act.put, List.setIfInBounds_toArray, List.set_cons_zero, List.set_cons_succ]
      refine wpAnyH_done (by kernel_rfl) ?_ _
      replace HB := hide (below_tr (unhide HB) HD)
      replace HXA := hide ((unhide HXA).bel HD)
      replace HQ := hide ((unhide HQ).bel HD)
      clear HD 
      have x0c := (unhide HXA).cell 0 rfl
      have x1c := (unhide HXA).cell 1 rfl
      have x2c := (unhide HXA).cell 2 rfl
      have x3c := (unhide HXA).cell 3 rfl
      have x4c := (unhide HXA).cell 4 rfl
      have x5c := (unhide HXA).cell 5 rfl
      have q0 := (unhide HQ).cell 0 rfl
      have q1 := (unhide HQ).cell 1 rfl
      have q2 := (unhide HQ).cell 2 rfl
      have q3 := (unhide HQ).cell 3 rfl
      have q4 := (unhide HQ).cell 4 rfl
      go_wp2_with fail
      have HF := hide (below_tr (unhide HB0) (unhide HB))
      go_ret
      exact ⟨ret_bool (unhide HU).symm, unhide HF⟩
    by_cases hl : x0 ≤ lv
    case pos =>
      have HU := hide (hw.trans (df_2 hl))
      clear hw
      have x0c := (unhide HXA).cell 0 rfl
      have x1c := (unhide HXA).cell 1 rfl
      have x2c := (unhide HXA).cell 2 rfl
      have x3c := (unhide HXA).cell 3 rfl
      have x4c := (unhide HXA).cell 4 rfl
      have x5c := (unhide HXA).cell 5 rfl
      have q0 := (unhide HQ).cell 0 rfl
      have q1 := (unhide HQ).cell 1 rfl
      have q2 := (unhide HQ).cell 2 rfl
      have q3 := (unhide HQ).cell 3 rfl
      have q4 := (unhide HQ).cell 4 rfl
      go_wp2_with fail
      clear g0 g1 g2 g3 g4
      generalize WA.alloc (.cells #[.int .i64 x0, .int .i64 x1, .int .i64 x2, .int .i64 x3, .int .i64 x4] 42) = W1 at *
      (try clear x0c x1c x2c x3c x4c x5c q0 q1 q2 q3 q4)
      refine wp_region_held_drew (S := fun w' => Below W1.heap.size W1 w') (by kernel_rfl) (below_drew W1) (fun hHeld => ?_)
      refine tk 0 (some 15) (v := ?_) ?_ ?_
      rotate_left
      · intro w hSw
        have hT := (unhide HXA).below hSw; have x0c := hT.cell 0 rfl; have x1c := hT.cell 1 rfl; have x2c := hT.cell 2 rfl; have x3c := hT.cell 3 rfl; have x4c := hT.cell 4 rfl; have x5c := hT.cell 5 rfl; clear hT; have hT := (unhide HQ).below hSw; have q0 := hT.cell 0 rfl; have q1 := hT.cell 1 rfl; have q2 := hT.cell 2 rfl; have q3 := hT.cell 3 rfl; have q4 := hT.cell 4 rfl; clear hT
        first | (go_simp; done) | (go_simp; with_reducible rfl) | with_reducible rfl | rfl
      try simp only [Act.put, List.setIfInBounds_toArray, List.set_cons_zero, List.set_cons_succ]
      refine tk 1 (some 16) (v := ?_) ?_ ?_
      rotate_left
      · intro w hSw
        have hT := (unhide HXA).below hSw; have x0c := hT.cell 0 rfl; have x1c := hT.cell 1 rfl; have x2c := hT.cell 2 rfl; have x3c := hT.cell 3 rfl; have x4c := hT.cell 4 rfl; have x5c := hT.cell 5 rfl; clear hT; have hT := (unhide HQ).below hSw; have q0 := hT.cell 0 rfl; have q1 := hT.cell 1 rfl; have q2 := hT.cell 2 rfl; have q3 := hT.cell 3 rfl; have q4 := hT.cell 4 rfl; clear hT
        first | (go_simp; done) | (go_simp; with_reducible rfl) | with_reducible rfl | rfl
      try simp only [Act.put, List.setIfInBounds_toArray, List.set_cons_zero, List.set_cons_succ]
      have HD := below_drew W1
      generalize W1.drew = V0 at *
      refine wpAnyH_ready (rs := [2]) (by kernel_rfl) (by simp) ?_
      refine AllReadyH.cons (o := { dst := some 17, op := _, type := _, pos := _, after := _, guard := _ }) rfl (fun K hK => ?_) AllReadyH.nil
      go_simp
      go_at_call 133
      refine (c133 x0 _).mono ?_
      rintro e V1 ⟨rfl, hww⟩
      have hww := hww.symm
      subst hww
      rw [hp]
      try go_wp2_with fail
      refine hK.out _ _ HD (fun hHeld => ?_)
      clear hK K hHeld
      try simp only [Act.put, List.setIfInBounds_toArray, List.set_cons_zero, List.set_cons_succ]
      refine tk 3 (some 18) (v := ?_) ?_ ?_
      rotate_left
      · intro w hSw
        first | (go_simp; done) | (go_simp; with_reducible rfl) | with_reducible rfl | rfl
      try simp only [Act.put, List.setIfInBounds_toArray, List.set_cons_zero, List.set_cons_succ]
      refine tk 4 (some 19) (v := ?_) ?_ ?_
      rotate_left
      · intro w hSw
        first | (go_simp; done) | (go_simp; with_reducible rfl) | with_reducible rfl | rfl
      try simp only [Act.put, List.setIfInBounds_toArray, List.set_cons_zero, List.set_cons_succ]
      refine tk 5 (some 20) (v := ?_) ?_ ?_
      rotate_left
      · intro w hSw
        have hT := (unhide HXA).below hSw; have x0c := hT.cell 0 rfl; have x1c := hT.cell 1 rfl; have x2c := hT.cell 2 rfl; have x3c := hT.cell 3 rfl; have x4c := hT.cell 4 rfl; have x5c := hT.cell 5 rfl; clear hT; have hT := (unhide HQ).below hSw; have q0 := hT.cell 0 rfl; have q1 := hT.cell 1 rfl; have q2 := hT.cell 2 rfl; have q3 := hT.cell 3 rfl; have q4 := hT.cell 4 rfl; clear hT
        first | (go_simp; done) | (go_simp; with_reducible rfl) | with_reducible rfl | rfl
      try simp only [Act.put, List.setIfInBounds_toArray, List.set_cons_zero, List.set_cons_succ]
      refine tk 6 (some 21) (v := ?_) ?_ ?_
      rotate_left
      · intro w hSw
        have hT := (unhide HXA).below hSw; have x0c := hT.cell 0 rfl; have x1c := hT.cell 1 rfl; have x2c := hT.cell 2 rfl; have x3c := hT.cell 3 rfl; have x4c := hT.cell 4 rfl; have x5c := hT.cell 5 rfl; clear hT; have hT := (unhide HQ).below hSw; have q0 := hT.cell 0 rfl; have q1 := hT.cell 1 rfl; have q2 := hT.cell 2 rfl; have q3 := hT.cell 3 rfl; have q4 := hT.cell 4 rfl; clear hT
        first | (go_simp; done) | (go_simp; with_reducible rfl) | with_reducible rfl | rfl
      try simp only [Act.put, List.setIfInBounds_toArray, List.set_cons_zero, List.set_cons_succ]
      refine tk 7 (some 22) (v := ?_) ?_ ?_
      rotate_left
      · intro w hSw
        first | (go_simp; done) | (go_simp; with_reducible rfl) | with_reducible rfl | rfl
      try simp only [Act.put, List.setIfInBounds_toArray, List.set_cons_zero, List.set_cons_succ]
      refine tk 8 (some 23) (v := ?_) ?_ ?_
      rotate_left
      · intro w hSw
        first | (go_simp; done) | (go_simp; with_reducible rfl) | with_reducible rfl | rfl
      try simp only [Act.put, List.setIfInBounds_toArray, List.set_cons_zero, List.set_cons_succ]
      refine tk 9 (some 24) (v := ?_) ?_ ?_
      rotate_left
      · intro w hSw
        first | (go_simp; done) | (go_simp; with_reducible rfl) | with_reducible rfl | rfl
      try simp only [Act.put, List.setIfInBounds_toArray, List.set_cons_zero, List.set_cons_succ]
      refine tk 10 (some 25) (v := ?_) ?_ ?_
      rotate_left
      · intro w hSw
        first | (go_simp; done) | (go_simp; with_reducible rfl) | with_reducible rfl | rfl
      try simp only [Act.put, List.setIfInBounds_toArray, List.set_cons_zero, List.set_cons_succ]
      refine sk 11 (some 26) ?_
      try simp only [Act.put, List.setIfInBounds_toArray, List.set_cons_zero, List.set_cons_succ]
      refine sk 12 (some 27) ?_
      try simp only [Act.put, List.setIfInBounds_toArray, List.set_cons_zero, List.set_cons_succ]
      refine sk 13 (some 28) ?_
      try simp only [Act.put, List.setIfInBounds_toArray, List.set_cons_zero, List.set_cons_succ]
      refine sk 14 (some 29) ?_
      try simp only [Act.put, List.setIfInBounds_toArray, List.set_cons_zero, List.set_cons_succ]
      refine sk 15 (some 30) ?_
      try simp only [Act.put, List.setIfInBounds_toArray, List.set_cons_zero, List.set_cons_succ]
      refine sk 16 (some 31) ?_
      try simp only [Act.put, List.setIfInBounds_toArray, List.set_cons_zero, List.set_cons_succ]
      refine sk 17 (some 32) ?_
      try simp only [Act.put, List.setIfInBounds_toArray, List.set_cons_zero, List.set_cons_succ]
      refine sk 18 (some 33) ?_
      try simp only [Act.put, List.setIfInBounds_toArray, List.set_cons_zero, List.set_cons_succ]
      refine sk 19 (some 34) ?_
      try simp only [Act.put, List.setIfInBounds_toArray, List.set_cons_zero, List.set_cons_succ]
      refine sk 20 (some 35) ?_
      try simp only [Act.put, List.setIfInBounds_toArray, List.set_cons_zero, List.set_cons_succ]
      refine tk 21 (some 36) (v := ?_) ?_ ?_
      rotate_left
      · intro w hSw
        first | (go_simp; done) | (go_simp; with_reducible rfl) | with_reducible rfl | rfl
      try simp only [Act.put, List.setIfInBounds_toArray, List.set_cons_zero, List.set_cons_succ]
      refine wpAnyH_done (by kernel_rfl) ?_ _
      replace HB := hide (below_tr (unhide HB) HD)
      replace HXA := hide ((unhide HXA).bel HD)
      replace HQ := hide ((unhide HQ).bel HD)
      clear HD 
      have x0c := (unhide HXA).cell 0 rfl
      have x1c := (unhide HXA).cell 1 rfl
      have x2c := (unhide HXA).cell 2 rfl
      have x3c := (unhide HXA).cell 3 rfl
      have x4c := (unhide HXA).cell 4 rfl
      have x5c := (unhide HXA).cell 5 rfl
      have q0 := (unhide HQ).cell 0 rfl
      have q1 := (unhide HQ).cell 1 rfl
      have q2 := (unhide HQ).cell 2 rfl
      have q3 := (unhide HQ).cell 3 rfl
      have q4 := (unhide HQ).cell 4 rfl
      go_wp2_with fail
      have HF := hide (below_tr (unhide HB0) (unhide HB))
      go_ret
      exact ⟨ret_bool (unhide HU).symm, unhide HF⟩
    have hp2 := hp
    simp only [decide_eq_true_eq] at hp2
    obtain ⟨j, rfl⟩ := Int.eq_ofNat_of_zero_le hp2.1
    obtain ⟨r0, r1, r2, hj⟩ := r_at (show j < rs.length by have := unhide H8; omega)
    have hjI : (j : Int) < 8 := by omega
    have hd5 : decide ((j : Int) ≤ lv) = false := decide_eq_false hl
    have hgd : rs.getD (j : Int).toNat (0, 0, false) = (r0, r1, r2) := by rw [Int.toNat_natCast, List.getD_eq_getElem?_getD, hj]; rfl
    obtain ⟨b', off', rfl, -⟩ := (unhide HRW).2 (by intro e; rw [e] at hj; simp at hj)
    obtain ⟨c0, c1, c2⟩ := ((unhide HRW).bel (below_tr (unhide HB0) (unhide HB))).at2 hj
    have HC0 := hide c0
    have HC1 := hide c1
    have HC2 := hide c2
    clear c0 c1 c2 hj
    rcases hd : dealOk (r0, r1, r2) cl ((j : Int), x1, x2, x3, x4) with _ | _
    case false =>
      have HU := hide (hw.trans (df_3 hgd hd))
      have HDK := hide hd
      have HPK := hide hp
      clear hw hgd hd hp hp2
      have x0c := (unhide HXA).cell 0 rfl
      have x1c := (unhide HXA).cell 1 rfl
      have x2c := (unhide HXA).cell 2 rfl
      have x3c := (unhide HXA).cell 3 rfl
      have x4c := (unhide HXA).cell 4 rfl
      have x5c := (unhide HXA).cell 5 rfl
      have q0 := (unhide HQ).cell 0 rfl
      have q1 := (unhide HQ).cell 1 rfl
      have q2 := (unhide HQ).cell 2 rfl
      have q3 := (unhide HQ).cell 3 rfl
      have q4 := (unhide HQ).cell 4 rfl
      go_wp2_with fail
      clear g0 g1 g2 g3 g4
      generalize WA.alloc (.cells #[.int .i64 (j : Int), .int .i64 x1, .int .i64 x2, .int .i64 x3, .int .i64 x4] 42) = W1 at *
      (try clear x0c x1c x2c x3c x4c x5c q0 q1 q2 q3 q4)
      refine wp_region_held_drew (S := fun w' => Below W1.heap.size W1 w') (by kernel_rfl) (below_drew W1) (fun hHeld => ?_)
      refine tk 0 (some 15) (v := ?_) ?_ ?_
      rotate_left
      · intro w hSw
        have hT := (unhide HXA).below hSw; have x0c := hT.cell 0 rfl; have x1c := hT.cell 1 rfl; have x2c := hT.cell 2 rfl; have x3c := hT.cell 3 rfl; have x4c := hT.cell 4 rfl; have x5c := hT.cell 5 rfl; clear hT; have hT := (unhide HQ).below hSw; have q0 := hT.cell 0 rfl; have q1 := hT.cell 1 rfl; have q2 := hT.cell 2 rfl; have q3 := hT.cell 3 rfl; have q4 := hT.cell 4 rfl; clear hT; have c0 := cell_bl hSw (unhide HC0); have c1 := cell_bl hSw (unhide HC1); have c2 := cell_bl hSw (unhide HC2)
        first | (go_simp; done) | (go_simp; with_reducible rfl) | with_reducible rfl | rfl
      try simp only [Act.put, List.setIfInBounds_toArray, List.set_cons_zero, List.set_cons_succ]
      refine tk 1 (some 16) (v := ?_) ?_ ?_
      rotate_left
      · intro w hSw
        have hT := (unhide HXA).below hSw; have x0c := hT.cell 0 rfl; have x1c := hT.cell 1 rfl; have x2c := hT.cell 2 rfl; have x3c := hT.cell 3 rfl; have x4c := hT.cell 4 rfl; have x5c := hT.cell 5 rfl; clear hT; have hT := (unhide HQ).below hSw; have q0 := hT.cell 0 rfl; have q1 := hT.cell 1 rfl; have q2 := hT.cell 2 rfl; have q3 := hT.cell 3 rfl; have q4 := hT.cell 4 rfl; clear hT; have c0 := cell_bl hSw (unhide HC0); have c1 := cell_bl hSw (unhide HC1); have c2 := cell_bl hSw (unhide HC2)
        first | (go_simp; done) | (go_simp; with_reducible rfl) | with_reducible rfl | rfl
      try simp only [Act.put, List.setIfInBounds_toArray, List.set_cons_zero, List.set_cons_succ]
      have HD := below_drew W1
      generalize W1.drew = V0 at *
      refine wpAnyH_ready (rs := [2]) (by kernel_rfl) (by simp) ?_
      refine AllReadyH.cons (o := { dst := some 17, op := _, type := _, pos := _, after := _, guard := _ }) rfl (fun K hK => ?_) AllReadyH.nil
      go_simp
      go_at_call 133
      refine (c133 (j : Int) _).mono ?_
      rintro e V1 ⟨rfl, hww⟩
      have hww := hww.symm
      subst hww
      rw [unhide HPK]
      try go_wp2_with fail
      refine hK.out _ _ HD (fun hHeld => ?_)
      clear hK K hHeld
      try simp only [Act.put, List.setIfInBounds_toArray, List.set_cons_zero, List.set_cons_succ]
      refine tk 3 (some 18) (v := ?_) ?_ ?_
      rotate_left
      · intro w hSw
        first | (go_simp; done) | (go_simp; with_reducible rfl) | with_reducible rfl | rfl
      try simp only [Act.put, List.setIfInBounds_toArray, List.set_cons_zero, List.set_cons_succ]
      refine tk 4 (some 19) (v := ?_) ?_ ?_
      rotate_left
      · intro w hSw
        first | (go_simp; done) | (go_simp; with_reducible rfl) | with_reducible rfl | rfl
      try simp only [Act.put, List.setIfInBounds_toArray, List.set_cons_zero, List.set_cons_succ]
      refine tk 5 (some 20) (v := ?_) ?_ ?_
      rotate_left
      · intro w hSw
        have hT := (unhide HXA).below hSw; have x0c := hT.cell 0 rfl; have x1c := hT.cell 1 rfl; have x2c := hT.cell 2 rfl; have x3c := hT.cell 3 rfl; have x4c := hT.cell 4 rfl; have x5c := hT.cell 5 rfl; clear hT; have hT := (unhide HQ).below hSw; have q0 := hT.cell 0 rfl; have q1 := hT.cell 1 rfl; have q2 := hT.cell 2 rfl; have q3 := hT.cell 3 rfl; have q4 := hT.cell 4 rfl; clear hT; have c0 := cell_bl hSw (unhide HC0); have c1 := cell_bl hSw (unhide HC1); have c2 := cell_bl hSw (unhide HC2)
        first | (go_simp; done) | (go_simp; with_reducible rfl) | with_reducible rfl | rfl
      try simp only [Act.put, List.setIfInBounds_toArray, List.set_cons_zero, List.set_cons_succ]
      refine tk 6 (some 21) (v := ?_) ?_ ?_
      rotate_left
      · intro w hSw
        have hT := (unhide HXA).below hSw; have x0c := hT.cell 0 rfl; have x1c := hT.cell 1 rfl; have x2c := hT.cell 2 rfl; have x3c := hT.cell 3 rfl; have x4c := hT.cell 4 rfl; have x5c := hT.cell 5 rfl; clear hT; have hT := (unhide HQ).below hSw; have q0 := hT.cell 0 rfl; have q1 := hT.cell 1 rfl; have q2 := hT.cell 2 rfl; have q3 := hT.cell 3 rfl; have q4 := hT.cell 4 rfl; clear hT; have c0 := cell_bl hSw (unhide HC0); have c1 := cell_bl hSw (unhide HC1); have c2 := cell_bl hSw (unhide HC2)
        first | (go_simp; done) | (go_simp; with_reducible rfl) | with_reducible rfl | rfl
      try simp only [Act.put, List.setIfInBounds_toArray, List.set_cons_zero, List.set_cons_succ]
      refine tk 7 (some 22) (v := ?_) ?_ ?_
      rotate_left
      · intro w hSw
        first | (go_simp; done) | (go_simp; with_reducible rfl) | with_reducible rfl | rfl
      try simp only [Act.put, List.setIfInBounds_toArray, List.set_cons_zero, List.set_cons_succ]
      refine tk 8 (some 23) (v := ?_) ?_ ?_
      rotate_left
      · intro w hSw
        first | (go_simp; done) | (go_simp; with_reducible rfl) | with_reducible rfl | rfl
      try simp only [Act.put, List.setIfInBounds_toArray, List.set_cons_zero, List.set_cons_succ]
      refine tk 9 (some 24) (v := ?_) ?_ ?_
      rotate_left
      · intro w hSw
        first | (go_simp; done) | (go_simp; with_reducible rfl) | with_reducible rfl | rfl
      try simp only [Act.put, List.setIfInBounds_toArray, List.set_cons_zero, List.set_cons_succ]
      refine tk 10 (some 25) (v := ?_) ?_ ?_
      rotate_left
      · intro w hSw
        first | (go_simp; done) | (go_simp; with_reducible rfl) | with_reducible rfl | rfl
      try simp only [Act.put, List.setIfInBounds_toArray, List.set_cons_zero, List.set_cons_succ]
      refine tk 11 (some 26) (v := ?_) ?_ ?_
      rotate_left
      · intro w hSw
        have hT := (unhide HXA).below hSw; have x0c := hT.cell 0 rfl; have x1c := hT.cell 1 rfl; have x2c := hT.cell 2 rfl; have x3c := hT.cell 3 rfl; have x4c := hT.cell 4 rfl; have x5c := hT.cell 5 rfl; clear hT; have hT := (unhide HQ).below hSw; have q0 := hT.cell 0 rfl; have q1 := hT.cell 1 rfl; have q2 := hT.cell 2 rfl; have q3 := hT.cell 3 rfl; have q4 := hT.cell 4 rfl; clear hT; have c0 := cell_bl hSw (unhide HC0); have c1 := cell_bl hSw (unhide HC1); have c2 := cell_bl hSw (unhide HC2)
        first | (go_simp; done) | (go_simp; with_reducible rfl) | with_reducible rfl | rfl
      try simp only [Act.put, List.setIfInBounds_toArray, List.set_cons_zero, List.set_cons_succ]
      refine tk 12 (some 27) (v := ?_) ?_ ?_
      rotate_left
      · intro w hSw
        first | (go_simp; done) | (go_simp; with_reducible rfl) | with_reducible rfl | rfl
      try simp only [Act.put, List.setIfInBounds_toArray, List.set_cons_zero, List.set_cons_succ]
      refine tk 13 (some 28) (v := ?_) ?_ ?_
      rotate_left
      · intro w hSw
        have hT := (unhide HXA).below hSw; have x0c := hT.cell 0 rfl; have x1c := hT.cell 1 rfl; have x2c := hT.cell 2 rfl; have x3c := hT.cell 3 rfl; have x4c := hT.cell 4 rfl; have x5c := hT.cell 5 rfl; clear hT; have hT := (unhide HQ).below hSw; have q0 := hT.cell 0 rfl; have q1 := hT.cell 1 rfl; have q2 := hT.cell 2 rfl; have q3 := hT.cell 3 rfl; have q4 := hT.cell 4 rfl; clear hT; have c0 := cell_bl hSw (unhide HC0); have c1 := cell_bl hSw (unhide HC1); have c2 := cell_bl hSw (unhide HC2)
        first | (go_simp; done) | (go_simp; with_reducible rfl) | with_reducible rfl | rfl
      try simp only [Act.put, List.setIfInBounds_toArray, List.set_cons_zero, List.set_cons_succ]
      refine tk 14 (some 29) (v := ?_) ?_ ?_
      rotate_left
      · intro w hSw
        have hT := (unhide HXA).below hSw; have x0c := hT.cell 0 rfl; have x1c := hT.cell 1 rfl; have x2c := hT.cell 2 rfl; have x3c := hT.cell 3 rfl; have x4c := hT.cell 4 rfl; have x5c := hT.cell 5 rfl; clear hT; have hT := (unhide HQ).below hSw; have q0 := hT.cell 0 rfl; have q1 := hT.cell 1 rfl; have q2 := hT.cell 2 rfl; have q3 := hT.cell 3 rfl; have q4 := hT.cell 4 rfl; clear hT; have c0 := cell_bl hSw (unhide HC0); have c1 := cell_bl hSw (unhide HC1); have c2 := cell_bl hSw (unhide HC2)
        first | (go_simp; done) | (go_simp; with_reducible rfl) | with_reducible rfl | rfl
      try simp only [Act.put, List.setIfInBounds_toArray, List.set_cons_zero, List.set_cons_succ]
      refine tk 15 (some 30) (v := ?_) ?_ ?_
      rotate_left
      · intro w hSw
        have hT := (unhide HXA).below hSw; have x0c := hT.cell 0 rfl; have x1c := hT.cell 1 rfl; have x2c := hT.cell 2 rfl; have x3c := hT.cell 3 rfl; have x4c := hT.cell 4 rfl; have x5c := hT.cell 5 rfl; clear hT; have hT := (unhide HQ).below hSw; have q0 := hT.cell 0 rfl; have q1 := hT.cell 1 rfl; have q2 := hT.cell 2 rfl; have q3 := hT.cell 3 rfl; have q4 := hT.cell 4 rfl; clear hT; have c0 := cell_bl hSw (unhide HC0); have c1 := cell_bl hSw (unhide HC1); have c2 := cell_bl hSw (unhide HC2)
        first | (go_simp; done) | (go_simp; with_reducible rfl) | with_reducible rfl | rfl
      try simp only [Act.put, List.setIfInBounds_toArray, List.set_cons_zero, List.set_cons_succ]
      refine tk 16 (some 31) (v := ?_) ?_ ?_
      rotate_left
      · intro w hSw
        have hT := (unhide HXA).below hSw; have x0c := hT.cell 0 rfl; have x1c := hT.cell 1 rfl; have x2c := hT.cell 2 rfl; have x3c := hT.cell 3 rfl; have x4c := hT.cell 4 rfl; have x5c := hT.cell 5 rfl; clear hT; have hT := (unhide HQ).below hSw; have q0 := hT.cell 0 rfl; have q1 := hT.cell 1 rfl; have q2 := hT.cell 2 rfl; have q3 := hT.cell 3 rfl; have q4 := hT.cell 4 rfl; clear hT; have c0 := cell_bl hSw (unhide HC0); have c1 := cell_bl hSw (unhide HC1); have c2 := cell_bl hSw (unhide HC2)
        first | (go_simp; done) | (go_simp; with_reducible rfl) | with_reducible rfl | rfl
      try simp only [Act.put, List.setIfInBounds_toArray, List.set_cons_zero, List.set_cons_succ]
      refine tk 17 (some 32) (v := ?_) ?_ ?_
      rotate_left
      · intro w hSw
        have hT := (unhide HXA).below hSw; have x0c := hT.cell 0 rfl; have x1c := hT.cell 1 rfl; have x2c := hT.cell 2 rfl; have x3c := hT.cell 3 rfl; have x4c := hT.cell 4 rfl; have x5c := hT.cell 5 rfl; clear hT; have hT := (unhide HQ).below hSw; have q0 := hT.cell 0 rfl; have q1 := hT.cell 1 rfl; have q2 := hT.cell 2 rfl; have q3 := hT.cell 3 rfl; have q4 := hT.cell 4 rfl; clear hT; have c0 := cell_bl hSw (unhide HC0); have c1 := cell_bl hSw (unhide HC1); have c2 := cell_bl hSw (unhide HC2)
        first | (go_simp; done) | (go_simp; with_reducible rfl) | with_reducible rfl | rfl
      try simp only [Act.put, List.setIfInBounds_toArray, List.set_cons_zero, List.set_cons_succ]
      refine tk 18 (some 33) (v := ?_) ?_ ?_
      rotate_left
      · intro w hSw
        have hT := (unhide HXA).below hSw; have x0c := hT.cell 0 rfl; have x1c := hT.cell 1 rfl; have x2c := hT.cell 2 rfl; have x3c := hT.cell 3 rfl; have x4c := hT.cell 4 rfl; have x5c := hT.cell 5 rfl; clear hT; have hT := (unhide HQ).below hSw; have q0 := hT.cell 0 rfl; have q1 := hT.cell 1 rfl; have q2 := hT.cell 2 rfl; have q3 := hT.cell 3 rfl; have q4 := hT.cell 4 rfl; clear hT; have c0 := cell_bl hSw (unhide HC0); have c1 := cell_bl hSw (unhide HC1); have c2 := cell_bl hSw (unhide HC2)
        first | (go_simp; done) | (go_simp; with_reducible rfl) | with_reducible rfl | rfl
      try simp only [Act.put, List.setIfInBounds_toArray, List.set_cons_zero, List.set_cons_succ]
      refine wpAnyH_ready (rs := [19]) (by kernel_rfl) (by simp) ?_
      refine AllReadyH.cons (o := { dst := some 34, op := _, type := _, pos := _, after := _, guard := _ }) rfl (fun K hK => ?_) AllReadyH.nil
      go_simp
      go_at_call 172
      refine (c172 (j : Int) x1 x2 x3 x4 r0 r1 cl r2 _ (unhide HCL)).mono ?_
      rintro e V2 ⟨rfl, hb⟩
      replace HD := below_then HD hb
      clear hb
      rw [unhide HDK]
      try go_wp2_with fail
      refine hK.out _ _ HD (fun hHeld => ?_)
      clear hK K hHeld
      try simp only [Act.put, List.setIfInBounds_toArray, List.set_cons_zero, List.set_cons_succ]
      refine tk 20 (some 35) (v := ?_) ?_ ?_
      rotate_left
      · intro w hSw
        first | (go_simp; done) | (go_simp; with_reducible rfl) | with_reducible rfl | rfl
      try simp only [Act.put, List.setIfInBounds_toArray, List.set_cons_zero, List.set_cons_succ]
      refine tk 21 (some 36) (v := ?_) ?_ ?_
      rotate_left
      · intro w hSw
        first | (go_simp; done) | (go_simp; with_reducible rfl) | with_reducible rfl | rfl
      try simp only [Act.put, List.setIfInBounds_toArray, List.set_cons_zero, List.set_cons_succ]
      refine wpAnyH_done (by kernel_rfl) ?_ _
      replace HB := hide (below_tr (unhide HB) HD)
      replace HXA := hide ((unhide HXA).bel HD)
      replace HQ := hide ((unhide HQ).bel HD)
      clear HD 
      have x0c := (unhide HXA).cell 0 rfl
      have x1c := (unhide HXA).cell 1 rfl
      have x2c := (unhide HXA).cell 2 rfl
      have x3c := (unhide HXA).cell 3 rfl
      have x4c := (unhide HXA).cell 4 rfl
      have x5c := (unhide HXA).cell 5 rfl
      have q0 := (unhide HQ).cell 0 rfl
      have q1 := (unhide HQ).cell 1 rfl
      have q2 := (unhide HQ).cell 2 rfl
      have q3 := (unhide HQ).cell 3 rfl
      have q4 := (unhide HQ).cell 4 rfl
      go_wp2_with fail
      have HF := hide (below_tr (unhide HB0) (unhide HB))
      go_ret
      exact ⟨ret_bool (unhide HU).symm, unhide HF⟩
    have HW := hide (hw.trans (df_on hp hl hgd hd))
    have HDK := hide hd
    have HPK := hide hp
    clear hw hgd hd hp hp2
    have x0c := (unhide HXA).cell 0 rfl
    have x1c := (unhide HXA).cell 1 rfl
    have x2c := (unhide HXA).cell 2 rfl
    have x3c := (unhide HXA).cell 3 rfl
    have x4c := (unhide HXA).cell 4 rfl
    have x5c := (unhide HXA).cell 5 rfl
    have q0 := (unhide HQ).cell 0 rfl
    have q1 := (unhide HQ).cell 1 rfl
    have q2 := (unhide HQ).cell 2 rfl
    have q3 := (unhide HQ).cell 3 rfl
    have q4 := (unhide HQ).cell 4 rfl
    go_wp2_with fail
    clear g0 g1 g2 g3 g4
    generalize WA.alloc (.cells #[.int .i64 (j : Int), .int .i64 x1, .int .i64 x2, .int .i64 x3, .int .i64 x4] 42) = W1 at *
    (try clear x0c x1c x2c x3c x4c x5c q0 q1 q2 q3 q4)
    refine wp_region_held_drew (S := fun w' => Below W1.heap.size W1 w') (by kernel_rfl) (below_drew W1) (fun hHeld => ?_)
    refine tk 0 (some 15) (v := ?_) ?_ ?_
    rotate_left
    · intro w hSw
      have hT := (unhide HXA).below hSw; have x0c := hT.cell 0 rfl; have x1c := hT.cell 1 rfl; have x2c := hT.cell 2 rfl; have x3c := hT.cell 3 rfl; have x4c := hT.cell 4 rfl; have x5c := hT.cell 5 rfl; clear hT; have hT := (unhide HQ).below hSw; have q0 := hT.cell 0 rfl; have q1 := hT.cell 1 rfl; have q2 := hT.cell 2 rfl; have q3 := hT.cell 3 rfl; have q4 := hT.cell 4 rfl; clear hT; have c0 := cell_bl hSw (unhide HC0); have c1 := cell_bl hSw (unhide HC1); have c2 := cell_bl hSw (unhide HC2)
      first | (go_simp; done) | (go_simp; with_reducible rfl) | with_reducible rfl | rfl
    try simp only [Act.put, List.setIfInBounds_toArray, List.set_cons_zero, List.set_cons_succ]
    refine tk 1 (some 16) (v := ?_) ?_ ?_
    rotate_left
    · intro w hSw
      have hT := (unhide HXA).below hSw; have x0c := hT.cell 0 rfl; have x1c := hT.cell 1 rfl; have x2c := hT.cell 2 rfl; have x3c := hT.cell 3 rfl; have x4c := hT.cell 4 rfl; have x5c := hT.cell 5 rfl; clear hT; have hT := (unhide HQ).below hSw; have q0 := hT.cell 0 rfl; have q1 := hT.cell 1 rfl; have q2 := hT.cell 2 rfl; have q3 := hT.cell 3 rfl; have q4 := hT.cell 4 rfl; clear hT; have c0 := cell_bl hSw (unhide HC0); have c1 := cell_bl hSw (unhide HC1); have c2 := cell_bl hSw (unhide HC2)
      first | (go_simp; done) | (go_simp; with_reducible rfl) | with_reducible rfl | rfl
    try simp only [Act.put, List.setIfInBounds_toArray, List.set_cons_zero, List.set_cons_succ]
    have HD := below_drew W1
    generalize W1.drew = V0 at *
    refine wpAnyH_ready (rs := [2]) (by kernel_rfl) (by simp) ?_
    refine AllReadyH.cons (o := { dst := some 17, op := _, type := _, pos := _, after := _, guard := _ }) rfl (fun K hK => ?_) AllReadyH.nil
    go_simp
    go_at_call 133
    refine (c133 (j : Int) _).mono ?_
    rintro e V1 ⟨rfl, hww⟩
    have hww := hww.symm
    subst hww
    rw [unhide HPK]
    try go_wp2_with fail
    refine hK.out _ _ HD (fun hHeld => ?_)
    clear hK K hHeld
    try simp only [Act.put, List.setIfInBounds_toArray, List.set_cons_zero, List.set_cons_succ]
    refine tk 3 (some 18) (v := ?_) ?_ ?_
    rotate_left
    · intro w hSw
      first | (go_simp; done) | (go_simp; with_reducible rfl) | with_reducible rfl | rfl
    try simp only [Act.put, List.setIfInBounds_toArray, List.set_cons_zero, List.set_cons_succ]
    refine tk 4 (some 19) (v := ?_) ?_ ?_
    rotate_left
    · intro w hSw
      first | (go_simp; done) | (go_simp; with_reducible rfl) | with_reducible rfl | rfl
    try simp only [Act.put, List.setIfInBounds_toArray, List.set_cons_zero, List.set_cons_succ]
    refine tk 5 (some 20) (v := ?_) ?_ ?_
    rotate_left
    · intro w hSw
      have hT := (unhide HXA).below hSw; have x0c := hT.cell 0 rfl; have x1c := hT.cell 1 rfl; have x2c := hT.cell 2 rfl; have x3c := hT.cell 3 rfl; have x4c := hT.cell 4 rfl; have x5c := hT.cell 5 rfl; clear hT; have hT := (unhide HQ).below hSw; have q0 := hT.cell 0 rfl; have q1 := hT.cell 1 rfl; have q2 := hT.cell 2 rfl; have q3 := hT.cell 3 rfl; have q4 := hT.cell 4 rfl; clear hT; have c0 := cell_bl hSw (unhide HC0); have c1 := cell_bl hSw (unhide HC1); have c2 := cell_bl hSw (unhide HC2)
      first | (go_simp; done) | (go_simp; with_reducible rfl) | with_reducible rfl | rfl
    try simp only [Act.put, List.setIfInBounds_toArray, List.set_cons_zero, List.set_cons_succ]
    refine tk 6 (some 21) (v := ?_) ?_ ?_
    rotate_left
    · intro w hSw
      have hT := (unhide HXA).below hSw; have x0c := hT.cell 0 rfl; have x1c := hT.cell 1 rfl; have x2c := hT.cell 2 rfl; have x3c := hT.cell 3 rfl; have x4c := hT.cell 4 rfl; have x5c := hT.cell 5 rfl; clear hT; have hT := (unhide HQ).below hSw; have q0 := hT.cell 0 rfl; have q1 := hT.cell 1 rfl; have q2 := hT.cell 2 rfl; have q3 := hT.cell 3 rfl; have q4 := hT.cell 4 rfl; clear hT; have c0 := cell_bl hSw (unhide HC0); have c1 := cell_bl hSw (unhide HC1); have c2 := cell_bl hSw (unhide HC2)
      first | (go_simp; done) | (go_simp; with_reducible rfl) | with_reducible rfl | rfl
    try simp only [Act.put, List.setIfInBounds_toArray, List.set_cons_zero, List.set_cons_succ]
    refine tk 7 (some 22) (v := ?_) ?_ ?_
    rotate_left
    · intro w hSw
      first | (go_simp; done) | (go_simp; with_reducible rfl) | with_reducible rfl | rfl
    try simp only [Act.put, List.setIfInBounds_toArray, List.set_cons_zero, List.set_cons_succ]
    refine tk 8 (some 23) (v := ?_) ?_ ?_
    rotate_left
    · intro w hSw
      first | (go_simp; done) | (go_simp; with_reducible rfl) | with_reducible rfl | rfl
    try simp only [Act.put, List.setIfInBounds_toArray, List.set_cons_zero, List.set_cons_succ]
    refine tk 9 (some 24) (v := ?_) ?_ ?_
    rotate_left
    · intro w hSw
      first | (go_simp; done) | (go_simp; with_reducible rfl) | with_reducible rfl | rfl
    try simp only [Act.put, List.setIfInBounds_toArray, List.set_cons_zero, List.set_cons_succ]
    refine tk 10 (some 25) (v := ?_) ?_ ?_
    rotate_left
    · intro w hSw
      first | (go_simp; done) | (go_simp; with_reducible rfl) | with_reducible rfl | rfl
    try simp only [Act.put, List.setIfInBounds_toArray, List.set_cons_zero, List.set_cons_succ]
    refine tk 11 (some 26) (v := ?_) ?_ ?_
    rotate_left
    · intro w hSw
      have hT := (unhide HXA).below hSw; have x0c := hT.cell 0 rfl; have x1c := hT.cell 1 rfl; have x2c := hT.cell 2 rfl; have x3c := hT.cell 3 rfl; have x4c := hT.cell 4 rfl; have x5c := hT.cell 5 rfl; clear hT; have hT := (unhide HQ).below hSw; have q0 := hT.cell 0 rfl; have q1 := hT.cell 1 rfl; have q2 := hT.cell 2 rfl; have q3 := hT.cell 3 rfl; have q4 := hT.cell 4 rfl; clear hT; have c0 := cell_bl hSw (unhide HC0); have c1 := cell_bl hSw (unhide HC1); have c2 := cell_bl hSw (unhide HC2)
      first | (go_simp; done) | (go_simp; with_reducible rfl) | with_reducible rfl | rfl
    try simp only [Act.put, List.setIfInBounds_toArray, List.set_cons_zero, List.set_cons_succ]
    refine tk 12 (some 27) (v := ?_) ?_ ?_
    rotate_left
    · intro w hSw
      first | (go_simp; done) | (go_simp; with_reducible rfl) | with_reducible rfl | rfl
    try simp only [Act.put, List.setIfInBounds_toArray, List.set_cons_zero, List.set_cons_succ]
    refine tk 13 (some 28) (v := ?_) ?_ ?_
    rotate_left
    · intro w hSw
      have hT := (unhide HXA).below hSw; have x0c := hT.cell 0 rfl; have x1c := hT.cell 1 rfl; have x2c := hT.cell 2 rfl; have x3c := hT.cell 3 rfl; have x4c := hT.cell 4 rfl; have x5c := hT.cell 5 rfl; clear hT; have hT := (unhide HQ).below hSw; have q0 := hT.cell 0 rfl; have q1 := hT.cell 1 rfl; have q2 := hT.cell 2 rfl; have q3 := hT.cell 3 rfl; have q4 := hT.cell 4 rfl; clear hT; have c0 := cell_bl hSw (unhide HC0); have c1 := cell_bl hSw (unhide HC1); have c2 := cell_bl hSw (unhide HC2)
      first | (go_simp; done) | (go_simp; with_reducible rfl) | with_reducible rfl | rfl
    try simp only [Act.put, List.setIfInBounds_toArray, List.set_cons_zero, List.set_cons_succ]
    refine tk 14 (some 29) (v := ?_) ?_ ?_
    rotate_left
    · intro w hSw
      have hT := (unhide HXA).below hSw; have x0c := hT.cell 0 rfl; have x1c := hT.cell 1 rfl; have x2c := hT.cell 2 rfl; have x3c := hT.cell 3 rfl; have x4c := hT.cell 4 rfl; have x5c := hT.cell 5 rfl; clear hT; have hT := (unhide HQ).below hSw; have q0 := hT.cell 0 rfl; have q1 := hT.cell 1 rfl; have q2 := hT.cell 2 rfl; have q3 := hT.cell 3 rfl; have q4 := hT.cell 4 rfl; clear hT; have c0 := cell_bl hSw (unhide HC0); have c1 := cell_bl hSw (unhide HC1); have c2 := cell_bl hSw (unhide HC2)
      first | (go_simp; done) | (go_simp; with_reducible rfl) | with_reducible rfl | rfl
    try simp only [Act.put, List.setIfInBounds_toArray, List.set_cons_zero, List.set_cons_succ]
    refine tk 15 (some 30) (v := ?_) ?_ ?_
    rotate_left
    · intro w hSw
      have hT := (unhide HXA).below hSw; have x0c := hT.cell 0 rfl; have x1c := hT.cell 1 rfl; have x2c := hT.cell 2 rfl; have x3c := hT.cell 3 rfl; have x4c := hT.cell 4 rfl; have x5c := hT.cell 5 rfl; clear hT; have hT := (unhide HQ).below hSw; have q0 := hT.cell 0 rfl; have q1 := hT.cell 1 rfl; have q2 := hT.cell 2 rfl; have q3 := hT.cell 3 rfl; have q4 := hT.cell 4 rfl; clear hT; have c0 := cell_bl hSw (unhide HC0); have c1 := cell_bl hSw (unhide HC1); have c2 := cell_bl hSw (unhide HC2)
      first | (go_simp; done) | (go_simp; with_reducible rfl) | with_reducible rfl | rfl
    try simp only [Act.put, List.setIfInBounds_toArray, List.set_cons_zero, List.set_cons_succ]
    refine tk 16 (some 31) (v := ?_) ?_ ?_
    rotate_left
    · intro w hSw
      have hT := (unhide HXA).below hSw; have x0c := hT.cell 0 rfl; have x1c := hT.cell 1 rfl; have x2c := hT.cell 2 rfl; have x3c := hT.cell 3 rfl; have x4c := hT.cell 4 rfl; have x5c := hT.cell 5 rfl; clear hT; have hT := (unhide HQ).below hSw; have q0 := hT.cell 0 rfl; have q1 := hT.cell 1 rfl; have q2 := hT.cell 2 rfl; have q3 := hT.cell 3 rfl; have q4 := hT.cell 4 rfl; clear hT; have c0 := cell_bl hSw (unhide HC0); have c1 := cell_bl hSw (unhide HC1); have c2 := cell_bl hSw (unhide HC2)
      first | (go_simp; done) | (go_simp; with_reducible rfl) | with_reducible rfl | rfl
    try simp only [Act.put, List.setIfInBounds_toArray, List.set_cons_zero, List.set_cons_succ]
    refine tk 17 (some 32) (v := ?_) ?_ ?_
    rotate_left
    · intro w hSw
      have hT := (unhide HXA).below hSw; have x0c := hT.cell 0 rfl; have x1c := hT.cell 1 rfl; have x2c := hT.cell 2 rfl; have x3c := hT.cell 3 rfl; have x4c := hT.cell 4 rfl; have x5c := hT.cell 5 rfl; clear hT; have hT := (unhide HQ).below hSw; have q0 := hT.cell 0 rfl; have q1 := hT.cell 1 rfl; have q2 := hT.cell 2 rfl; have q3 := hT.cell 3 rfl; have q4 := hT.cell 4 rfl; clear hT; have c0 := cell_bl hSw (unhide HC0); have c1 := cell_bl hSw (unhide HC1); have c2 := cell_bl hSw (unhide HC2)
      first | (go_simp; done) | (go_simp; with_reducible rfl) | with_reducible rfl | rfl
    try simp only [Act.put, List.setIfInBounds_toArray, List.set_cons_zero, List.set_cons_succ]
    refine tk 18 (some 33) (v := ?_) ?_ ?_
    rotate_left
    · intro w hSw
      have hT := (unhide HXA).below hSw; have x0c := hT.cell 0 rfl; have x1c := hT.cell 1 rfl; have x2c := hT.cell 2 rfl; have x3c := hT.cell 3 rfl; have x4c := hT.cell 4 rfl; have x5c := hT.cell 5 rfl; clear hT; have hT := (unhide HQ).below hSw; have q0 := hT.cell 0 rfl; have q1 := hT.cell 1 rfl; have q2 := hT.cell 2 rfl; have q3 := hT.cell 3 rfl; have q4 := hT.cell 4 rfl; clear hT; have c0 := cell_bl hSw (unhide HC0); have c1 := cell_bl hSw (unhide HC1); have c2 := cell_bl hSw (unhide HC2)
      first | (go_simp; done) | (go_simp; with_reducible rfl) | with_reducible rfl | rfl
    try simp only [Act.put, List.setIfInBounds_toArray, List.set_cons_zero, List.set_cons_succ]
    refine wpAnyH_ready (rs := [19]) (by kernel_rfl) (by simp) ?_
    refine AllReadyH.cons (o := { dst := some 34, op := _, type := _, pos := _, after := _, guard := _ }) rfl (fun K hK => ?_) AllReadyH.nil
    go_simp
    go_at_call 172
    refine (c172 (j : Int) x1 x2 x3 x4 r0 r1 cl r2 _ (unhide HCL)).mono ?_
    rintro e V2 ⟨rfl, hb⟩
    replace HD := below_then HD hb
    clear hb
    rw [unhide HDK]
    try go_wp2_with fail
    refine hK.out _ _ HD (fun hHeld => ?_)
    clear hK K hHeld
    try simp only [Act.put, List.setIfInBounds_toArray, List.set_cons_zero, List.set_cons_succ]
    refine tk 20 (some 35) (v := ?_) ?_ ?_
    rotate_left
    · intro w hSw
      first | (go_simp; done) | (go_simp; with_reducible rfl) | with_reducible rfl | rfl
    try simp only [Act.put, List.setIfInBounds_toArray, List.set_cons_zero, List.set_cons_succ]
    refine tk 21 (some 36) (v := ?_) ?_ ?_
    rotate_left
    · intro w hSw
      first | (go_simp; done) | (go_simp; with_reducible rfl) | with_reducible rfl | rfl
    try simp only [Act.put, List.setIfInBounds_toArray, List.set_cons_zero, List.set_cons_succ]
    refine wpAnyH_done (by kernel_rfl) ?_ _
    replace HB := hide (below_tr (unhide HB) HD)
    replace HXA := hide ((unhide HXA).bel HD)
    replace HQ := hide ((unhide HQ).bel HD)
    clear HD 
    have x0c := (unhide HXA).cell 0 rfl
    have x1c := (unhide HXA).cell 1 rfl
    have x2c := (unhide HXA).cell 2 rfl
    have x3c := (unhide HXA).cell 3 rfl
    have x4c := (unhide HXA).cell 4 rfl
    have x5c := (unhide HXA).cell 5 rfl
    have q0 := (unhide HQ).cell 0 rfl
    have q1 := (unhide HQ).cell 1 rfl
    have q2 := (unhide HQ).cell 2 rfl
    have q3 := (unhide HQ).cell 3 rfl
    have q4 := (unhide HQ).cell 4 rfl
    go_wp2_with fail
    (try clear x0c x1c x2c x3c x4c x5c q0 q1 q2 q3 q4)
    go_roundw
    case rel => exact ⟨k + 1, (j : Int), by omega, by go_num, rfl, unhide HW, unhide HB⟩
    case measure => simp [intOf]; omega
end Go.Proofs.Ytmlbphmbffkdnaa
