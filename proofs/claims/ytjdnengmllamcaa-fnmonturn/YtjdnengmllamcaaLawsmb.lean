/-
  The walk of the law FnMonTurn: at every code it answers true, and nothing that was there is written.
-/
import Derived.Test.YtjdnengmllamcaaLawsma
namespace Go.Proofs.Ytjdnengmllamcaa
open Go.RowKit
set_option linter.unusedVariables false
set_option maxRecDepth 100000

set_option maxHeartbeats 4000000 in
theorem law14 (bs : List Int) (ao : Option Addr) (n cap : Nat) (w : World) (hn : bs.length = n) (hc : n ≤ cap) (hm : cap ≤ maxLen) (hB : Bytes w ao bs) :
    Calls Try.prog 14 #[.slice ao n cap] w (Holds w) := by
  have HM := hide hm
  unfold maxLen at hm
  have HB := hide hB
  have HN := hide hn
  clear hB hn
  by_cases hbig : (1048576 : Int) < (n : Int)
  · go_enter Try.func14, Try.ntmps14
    go_wp2_with fail
    go_ret
    exact ⟨rfl, Below.refl _ _⟩
  go_enter Try.func14, Try.ntmps14
  go_wp2_with fail
  refine (c81 bs ao n cap _ HN.out hc (unhide HM) (unhide HB)).mono ?_
  rintro e w1 ⟨u, d, hd, ap, np, capp, p, rfl, hlp, hp6, hpc, hz, hrp, hb1⟩
  have HRP := hide hrp
  have HB1 := hide hb1
  have HLP := hide hlp
  have HZ := hide hz
  have HD := hide hd
  clear hrp hb1 hlp hz hd HB HN HM hbig hc hm
  go_wp2_with fail
  refine (c82 p u d ap np capp _ HLP.out (by omega) HD.out (unhide HZ) (unhide HRP)).mono ?_
  rintro e w2 ⟨vx, rfl, hox, hb2⟩
  obtain ⟨ax, capx, rfl, hcx, hrx, hbx⟩ := hox.row
  have hxz : ax = none → capx = 0 := by intro e; subst e; exact own_cap0 hox
  have HXZ := hide hxz
  rw [Tm.monTurn_len, HLP.out] at hcx
  rw [Tm.monTurn_len, HLP.out]
  have HRX := hide hrx
  have HRP2 := hide ((unhide HRP).bel hb2)
  have HB2 := hide (below_tr (unhide HB1) hb2)
  clear hox hrx hbx hb2 hxz HRP HB1
  have HLX : Hid ((Tm.monTurn p u d).length = np) := by unfold Hid; rw [Tm.monTurn_len]; exact HLP.out
  generalize hX : Tm.monTurn p u d = X at *
  have HX := hide hX
  clear hX
  go_wp2_with fail
  refine (c83 p u d ap np capp _ HLP.out (by omega) HD.out (unhide HZ) (unhide HRP2)).mono ?_
  rintro e w3 ⟨vy, rfl, hoy, hb3⟩
  rw [unhide HX] at hoy
  obtain ⟨ay, capy, rfl, hcy, hry, hby⟩ := hoy.row
  rw [HLX.out] at hcy
  rw [HLX.out]
  have HRY := hide hry
  have HRX3 := hide ((unhide HRX).bel hb3)
  have HRP3 := hide ((unhide HRP2).bel hb3)
  have HB3 := hide (below_tr (unhide HB2) hb3)
  clear hoy hry hby hb3 HRX HRP2 HB2
  generalize hbb : Tm.turnOk p u d = bb at *
  have HBB := hide hbb
  clear hbb
  go_wp2_with fail
  refine (swI X ax ay np capx capy _ HLX.out (by omega) (unhide HRX3) (unhide HRY)).mono ?_
  rintro e w4 ⟨rfl, hb4⟩
  have HRX4 := hide ((unhide HRX3).bel hb4)
  have HRP4 := hide ((unhide HRP3).bel hb4)
  have HB4 := hide (below_tr (unhide HB3) hb4)
  clear hb4 HRX3 HRP3 HB3 HRY
  cases bb with
  | false =>
    have hXp : X = p := (unhide HX).symm.trans (Tm.monTurn_no (unhide HBB))
    subst hXp
    go_wp2_with (first | (go_at_call 80; refine (c80 X _ _ _ _ HLP.out (by omega) (unhide HRP4)).mono ?_; rintro e w' ⟨rfl, rfl⟩) | (go_at_call 84; refine (c84 X _ _ _ _ HLP.out (by omega) (unhide HRP4)).mono ?_; rintro e w' ⟨rfl, rfl⟩))
    refine (swI X ax ap np capx capp _ HLX.out (by omega) (unhide HRX4) (unhide HRP4)).mono ?_
    rintro e w5 ⟨rfl, hb5⟩
    have HB5 := hide (below_tr (unhide HB4) hb5)
    clear hb5 HB4 HRX4 HRP4
    go_wp2_with (go_at_call 40; refine (c40 _).mono ?_; rintro e w' ⟨rfl, rfl⟩)
    go_ret
    exact ⟨rfl, unhide HB5⟩
  | true =>
    have hXs : X = Tm.turnSet p u d := (unhide HX).symm.trans (Tm.monTurn_of (unhide HBB))
    obtain ⟨t1, t2, t3, t4, t5, t6⟩ := turn_law (unhide HBB)
    have hok := Tm.turnSet_ok (unhide HBB)
    rw [← hXs] at t1 t2 t3 t4 hok
    have tb : Tm.monTurn X u (-d) = p := (Tm.monTurn_of t1).trans t2
    obtain ⟨d1, d2⟩ := t5
    have HT1 := hide t1
    have HTB := hide tb
    have h3 : Tm.monHas X u = wrap64 (Tm.monHas p u + d) := by
      rw [t3, wrap_small]
      have hp := (Tm.turnOk_iff.1 (unhide HBB))
      rw [Tm.monHas_of hp.1 hp.2.1]; omega
    have h4 : monSum X = wrap64 (monSum p + d) := by rw [t4, wrap_small (by omega)]
    have b3 : (Tm.monHas X u == wrap64 (Tm.monHas p u + d)) = true := by rw [beq_iff_eq]; exact h3
    have b4 : (monSum X == wrap64 (monSum p + d)) = true := by rw [beq_iff_eq]; exact h4
    have c3 : (Tm.monHas X u == Tm.monHas p u + d) = true := by rw [beq_iff_eq]; exact t3
    have c4 : (monSum X == monSum p + d) = true := by rw [beq_iff_eq]; exact t4
    clear hXs t1 t2 t3 t4 tb h3 h4
    go_wp2_with (first | (go_at_call 80; refine (c80 p _ _ _ _ HLP.out (by omega) (unhide HRP4)).mono ?_; rintro e w' ⟨rfl, rfl⟩) | (go_at_call 84; refine (c84 p _ _ _ _ HLP.out (by omega) (unhide HRP4)).mono ?_; rintro e w' ⟨rfl, rfl⟩))
    refine (c82 X u (-d) ax np capx _ HLX.out (by omega) (by omega) (unhide HXZ) (unhide HRX4)).mono ?_
    rintro e w5 ⟨vy, rfl, hoy, hb5⟩
    rw [unhide HTB] at hoy
    rw [unhide HT1]
    obtain ⟨aw, capw, rfl, hcw, hrw, hbw⟩ := hoy.row
    rw [HLP.out] at hcw
    rw [HLP.out]
    have HRW := hide hrw
    have HRX5 := hide ((unhide HRX4).bel hb5)
    have HRP5 := hide ((unhide HRP4).bel hb5)
    have HB5 := hide (below_tr (unhide HB4) hb5)
    clear hoy hrw hbw hb5 HRX4 HRP4 HB4
    go_wp2_with fail
    refine (c78 X _ _ _ _ _ HLX.out (by omega) (unhide HRX5)).mono ?_
    rintro e w' ⟨rfl, rfl⟩
    go_wp2_with fail
    refine (c78 p _ _ _ _ _ HLP.out (by omega) (unhide HRP5)).mono ?_
    rintro e w' ⟨rfl, rfl⟩
    go_wp2_with fail
    refine (c79 X _ _ _ _ HLX.out (by omega) (unhide HRX5)).mono ?_
    rintro e w' ⟨rfl, rfl⟩
    go_wp2_with fail
    refine (c79 p _ _ _ _ HLP.out (by omega) (unhide HRP5)).mono ?_
    rintro e w' ⟨rfl, rfl⟩
    go_wp2_with fail
    refine (swI p aw ap np capw capp _ HLP.out (by omega) (unhide HRW) (unhide HRP5)).mono ?_
    rintro e w6 ⟨rfl, hb6⟩
    have HRX6 := hide ((unhide HRX5).bel hb6)
    have HB6 := hide (below_tr (unhide HB5) hb6)
    clear hb6 HB5 HRX5 HRP5 HRW
    go_wp2_with (go_at_call 80; refine (c80 X _ _ _ _ HLX.out (by omega) (unhide HRX6)).mono ?_; rintro e w' ⟨rfl, rfl⟩)
    go_ret
    exact ⟨rfl, unhide HB6⟩
end Go.Proofs.Ytjdnengmllamcaa
