/-
  The walks of the laws FnMonMove and FnMonTwo: at every code they answer true, and nothing that was there is written.
-/
import Derived.Test.YtjdnengmllamcaaLawsma
import Derived.Test.YtjdnengmllamcaaMovb
namespace Go.Proofs.Ytjdnengmllamcaa
open Go.RowKit
set_option linter.unusedVariables false
set_option maxRecDepth 100000

theorem ext_has {p q : List Int} (hp : p.length = 5) (hq : q.length = 5) (h : ∀ u : Int, 1 ≤ u → u ≤ 5 → Tm.has p u = Tm.has q u) : p = q := by
  apply List.ext_getElem (by omega)
  intro i h1 h2
  have := h ((i : Int) + 1) (by omega) (by omega)
  rw [Tm.has_nat, Tm.has_nat] at this
  simpa [List.getD, List.getElem?_eq_getElem h1, List.getElem?_eq_getElem h2] using this
theorem sum_has {p : List Int} (h : Tm.monOk p = true) : monSum p = Tm.has p 1 + Tm.has p 2 + Tm.has p 3 + Tm.has p 4 + Tm.has p 5 ∧ 0 ≤ monSum p ∧ monSum p ≤ 500000 := by
  obtain ⟨a, b, c, d, e, rfl, ha, hb, hc, hd, he⟩ := five h
  rw [monSum_five a b c d e (by omega)]
  exact ⟨rfl, by omega, by omega⟩
theorem has_bd {p : List Int} (h : Tm.monOk p = true) {u : Int} (h1 : 1 ≤ u) (h5 : u ≤ 5) : 0 ≤ Tm.has p u ∧ Tm.has p u ≤ 100000 := Tm.monOk_get h (j := (u - 1).toNat) (by omega)
/-- what a move that is ok leaves -/
theorem move_law {p : List Int} {a b n : Int} (h : Tm.moveOk p a b n = true) :
    (1 ≤ a ∧ a ≤ 5) ∧ (1 ≤ b ∧ b ≤ 5) ∧ a ≠ b ∧ (0 ≤ n ∧ n ≤ 100000) ∧ Tm.monOk p = true ∧ Tm.monOk (Tm.monMove p a b n) = true ∧
    (∀ u : Int, 1 ≤ u → u ≤ 5 → Tm.has (Tm.monMove p a b n) u = Tm.has p u + (if u = b then n else if u = a then -n else 0)) := by
  obtain ⟨h1, h2, h3, h4⟩ := Tm.moveOk_iff.1 h
  obtain ⟨k1, k2, k3, k4⟩ := Tm.turnOk_iff.1 h3
  obtain ⟨m1, m2, m3, m4⟩ := Tm.turnOk_iff.1 h4
  rw [Tm.monMove_of h]
  refine ⟨k2, m2, h2, h1, k1, Tm.turnSet_ok h4, fun u u1 u5 => ?_⟩
  rw [Tm.has_turnSet (Tm.monOk_iff.1 m1).1 m2 ⟨u1, u5⟩]
  by_cases e : u = b
  · rw [if_pos e, if_pos e, e, Tm.has_turnSet (Tm.monOk_iff.1 k1).1 k2 m2, if_neg (Ne.symm h2)]
  · rw [if_neg e, if_neg e, Tm.has_turnSet (Tm.monOk_iff.1 k1).1 k2 ⟨u1, u5⟩]
    by_cases e2 : u = a
    · rw [if_pos e2, if_pos e2, e2]
    · rw [if_neg e2, if_neg e2]; omega
theorem moveOk_of {p : List Int} {a b n : Int} (ha : 1 ≤ a ∧ a ≤ 5) (hb : 1 ≤ b ∧ b ≤ 5) (hab : a ≠ b) (hn : 0 ≤ n ∧ n ≤ 100000) (hp : Tm.monOk p = true) (h1 : 0 ≤ Tm.has p a - n) (h2 : Tm.has p b + n ≤ 100000) : Tm.moveOk p a b n = true := by
  have ba := has_bd hp ha.1 ha.2
  have bb := has_bd hp hb.1 hb.2
  have t1 : Tm.turnOk p a (-n) = true := Tm.turnOk_iff.2 ⟨hp, ha, by omega, by omega, by omega⟩
  refine Tm.moveOk_iff.2 ⟨hn, hab, t1, Tm.turnOk_iff.2 ⟨Tm.turnSet_ok t1, hb, by omega, ?_⟩⟩
  rw [Tm.has_turnSet (Tm.monOk_iff.1 hp).1 ha hb, if_neg (Ne.symm hab)]
  omega
theorem len5 {p : List Int} (h : Tm.monOk p = true) : p.length = 5 := (Tm.monOk_iff.1 h).1
theorem move_back {p : List Int} {a b n : Int} (h : Tm.moveOk p a b n = true) : Tm.moveOk (Tm.monMove p a b n) b a n = true ∧ Tm.monMove (Tm.monMove p a b n) b a n = p := by
  obtain ⟨ha, hb, hab, hn, hp, hX, hh⟩ := move_law h
  have ba := has_bd hp ha.1 ha.2
  have bb := has_bd hp hb.1 hb.2
  have xa := hh a ha.1 ha.2
  have xb := hh b hb.1 hb.2
  rw [if_neg hab, if_pos rfl] at xa
  rw [if_pos rfl] at xb
  have hk : Tm.moveOk (Tm.monMove p a b n) b a n = true := moveOk_of hb ha (Ne.symm hab) hn hX (by omega) (by omega)
  refine ⟨hk, ?_⟩
  obtain ⟨-, -, -, -, -, hY, hh2⟩ := move_law hk
  refine ext_has (len5 hY) (len5 hp) (fun u u1 u5 => ?_)
  rw [hh2 u u1 u5, hh u u1 u5]
  by_cases e : u = b
  · have e2 : u ≠ a := fun e2 => hab (e2.symm.trans e)
    rw [if_pos e, if_neg e2, if_pos e]; omega
  · by_cases e2 : u = a
    · rw [if_neg e, if_pos e2, if_pos e2]; omega
    · rw [if_neg e, if_neg e2, if_neg e2, if_neg e]; omega
theorem move_zero (p : List Int) (a b : Int) : Tm.monMove p a b 0 = p := by
  rcases h : Tm.moveOk p a b 0 with _ | _
  · exact Tm.monMove_no h
  · obtain ⟨ha, hb, hab, hn, hp, hX, hh⟩ := move_law h
    refine ext_has (len5 hX) (len5 hp) (fun u u1 u5 => ?_)
    rw [hh u u1 u5]
    split
    · omega
    · split <;> omega
theorem move_sum {p : List Int} {a b n : Int} (h : Tm.moveOk p a b n = true) : monSum (Tm.monMove p a b n) = monSum p := by
  obtain ⟨ha, hb, hab, hn, hp, hX, hh⟩ := move_law h
  rw [(sum_has hX).1, (sum_has hp).1, hh 1 (by omega) (by omega), hh 2 (by omega) (by omega), hh 3 (by omega) (by omega), hh 4 (by omega) (by omega), hh 5 (by omega) (by omega)]
  obtain rfl | rfl | rfl | rfl | rfl : a = 1 ∨ a = 2 ∨ a = 3 ∨ a = 4 ∨ a = 5 := by omega
  all_goals
    obtain rfl | rfl | rfl | rfl | rfl : b = 1 ∨ b = 2 ∨ b = 3 ∨ b = 4 ∨ b = 5 := by omega
    all_goals first | (exact absurd rfl hab) | (simp; omega)

set_option maxHeartbeats 4000000 in
theorem law16 (bs : List Int) (ao : Option Addr) (n cap : Nat) (w : World) (hn : bs.length = n) (hc : n ≤ cap) (hm : cap ≤ maxLen) (hB : Bytes w ao bs) :
    Calls Try.prog 16 #[.slice ao n cap] w (Holds w) := by
  have HM := hide hm
  unfold maxLen at hm
  have HB := hide hB
  have HN := hide hn
  clear hB hn
  by_cases hbig : (1048576 : Int) < (n : Int)
  · go_enter Try.func16, Try.ntmps16
    go_wp2_with fail
    go_ret
    exact ⟨rfl, Below.refl _ _⟩
  go_enter Try.func16, Try.ntmps16
  go_wp2_with fail
  refine (c75 bs ao n cap _ HN.out hc (unhide HM) (unhide HB)).mono ?_
  rintro e w1 ⟨a, b, d, hd, ap, np, capp, p, rfl, hlp, hp6, hpc, hz, hrp, hb1⟩
  have HRP := hide hrp
  have HB1 := hide hb1
  have HLP := hide hlp
  have HZ := hide hz
  have HD := hide hd
  clear hrp hb1 hlp hz hd HB HN HM hbig hc hm
  go_wp2_with fail
  refine (c76 p a b d ap np capp _ HLP.out (by omega) HD.out (unhide HZ) (unhide HRP)).mono ?_
  rintro e w2 ⟨vx, rfl, hox, hb2⟩
  obtain ⟨ax, capx, rfl, hcx, hrx, hbx⟩ := hox.row
  have hxz : ax = none → capx = 0 := by intro e; subst e; exact own_cap0 hox
  have HXZ := hide hxz
  rw [Tm.monMove_len, HLP.out] at hcx
  rw [Tm.monMove_len, HLP.out]
  have HRX := hide hrx
  have HRP2 := hide ((unhide HRP).bel hb2)
  have HB2 := hide (below_tr (unhide HB1) hb2)
  clear hox hrx hbx hb2 hxz HRP HB1
  have HLX : Hid ((Tm.monMove p a b d).length = np) := by unfold Hid; rw [Tm.monMove_len]; exact HLP.out
  generalize hX : Tm.monMove p a b d = X at *
  have HX := hide hX
  clear hX
  go_wp2_with fail
  refine (c77 p a b d ap np capp _ HLP.out (by omega) HD.out (unhide HZ) (unhide HRP2)).mono ?_
  rintro e w3 ⟨vy, rfl, hoy, hb3⟩
  rw [unhide HX] at hoy
  obtain ⟨ay, capy, rfl, hcy, hry, hby⟩ := hoy.row
  rw [HLX.out] at hcy
  rw [HLX.out]
  have HRY := hide hry
  have HRX3 := hide ((unhide HRX).bel hb3)
  have HRP3 := hide ((unhide HRP2).bel hb3)
  have HB3 := hide (below_tr (unhide HB2) hb3)
  clear hoy hry hby hb3 HRX HRP2 HB2
  generalize hbb : Tm.moveOk p a b d = bb at *
  have HBB := hide hbb
  clear hbb
  go_wp2_with fail
  refine (swI X ax ay np capx capy _ HLX.out (by omega) (unhide HRX3) (unhide HRY)).mono ?_
  rintro e w4 ⟨rfl, hb4⟩
  have HRX4 := hide ((unhide HRX3).bel hb4)
  have HRP4 := hide ((unhide HRP3).bel hb4)
  have HB4 := hide (below_tr (unhide HB3) hb4)
  clear hb4 HRX3 HRP3 HB3 HRY
  have HP0 := hide (move_zero p a b)
  have hcase : bb = false ∨ bb = true := by cases bb <;> simp
  have bn : (bb != bb) = false := by simp
  go_wp2_with fail
  refine (c76 p a b 0 ap np capp _ HLP.out (by omega) (by omega) (unhide HZ) (unhide HRP4)).mono ?_
  rintro e w5 ⟨vy, rfl, hoy, hb5⟩
  rw [unhide HP0] at hoy
  obtain ⟨aw, capw, rfl, hcw, hrw, hbw⟩ := hoy.row
  rw [HLP.out] at hcw
  rw [HLP.out]
  have HRW := hide hrw
  have HRX5 := hide ((unhide HRX4).bel hb5)
  have HRP5 := hide ((unhide HRP4).bel hb5)
  have HB5 := hide (below_tr (unhide HB4) hb5)
  clear hoy hrw hbw hb5 HRX4 HRP4 HB4
  generalize Tm.moveOk p a b 0 = b0 at *
  rcases hcase with hbf | hbt
  · subst hbf
    clear bn
    go_wp2_with fail
    refine (swI p aw ap np capw capp _ HLP.out (by omega) (unhide HRW) (unhide HRP5)).mono ?_
    rintro e w6 ⟨rfl, hb6⟩
    have HB6 := hide (below_tr (unhide HB5) hb6)
    clear hb6 HB5
    go_wp2_with (go_at_call 40; refine (c40 _).mono ?_; rintro e w' ⟨rfl, rfl⟩)
    go_ret
    exact ⟨rfl, unhide HB6⟩
  · subst hbt
    clear bn
    obtain ⟨t1, t2⟩ := move_back (unhide HBB)
    rw [unhide HX] at t1 t2
    have HT1 := hide t1
    have HT2 := hide t2
    clear t1 t2
    go_wp2_with fail
    refine (c76 X b a d ax np capx _ HLX.out (by omega) HD.out (unhide HXZ) (unhide HRX5)).mono ?_
    rintro e w6 ⟨vz, rfl, hoz, hb6⟩
    rw [unhide HT2] at hoz
    rw [unhide HT1]
    obtain ⟨az, capz, rfl, hcz, hrz, hbz⟩ := hoz.row
    rw [HLP.out] at hcz
    rw [HLP.out]
    have HRZ := hide hrz
    have HRW6 := hide ((unhide HRW).bel hb6)
    have HRP6 := hide ((unhide HRP5).bel hb6)
    have HB6 := hide (below_tr (unhide HB5) hb6)
    clear hoz hrz hbz hb6 HRX5 HRP5 HB5 HRW
    go_wp2_with fail
    refine (swI p az ap np capz capp _ HLP.out (by omega) (unhide HRZ) (unhide HRP6)).mono ?_
    rintro e w7 ⟨rfl, hb7⟩
    have HRW7 := hide ((unhide HRW6).bel hb7)
    have HRP7 := hide ((unhide HRP6).bel hb7)
    have HB7 := hide (below_tr (unhide HB6) hb7)
    clear hb7 HB6 HRW6 HRP6 HRZ
    go_wp2_with fail
    refine (swI p aw ap np capw capp _ HLP.out (by omega) (unhide HRW7) (unhide HRP7)).mono ?_
    rintro e w8 ⟨rfl, hb8⟩
    have HB8 := hide (below_tr (unhide HB7) hb8)
    clear hb8 HB7
    go_wp2_with fail
    go_ret
    exact ⟨rfl, unhide HB8⟩

set_option maxHeartbeats 8000000 in
theorem law13 (bs : List Int) (ao : Option Addr) (n cap : Nat) (w : World) (hn : bs.length = n) (hc : n ≤ cap) (hm : cap ≤ maxLen) (hB : Bytes w ao bs) :
    Calls Try.prog 13 #[.slice ao n cap] w (Holds w) := by
  have HM := hide hm
  unfold maxLen at hm
  have HB := hide hB
  have HN := hide hn
  clear hB hn
  by_cases hbig : (1048576 : Int) < (n : Int)
  · go_enter Try.func13, Try.ntmps13
    go_wp2_with fail
    go_ret
    exact ⟨rfl, Below.refl _ _⟩
  go_enter Try.func13, Try.ntmps13
  go_wp2_with fail
  refine (c75 bs ao n cap _ HN.out hc (unhide HM) (unhide HB)).mono ?_
  rintro e w1 ⟨a, b, d, hd, ap, np, capp, p, rfl, hlp, hp6, hpc, hz, hrp, hb1⟩
  have HRP := hide hrp
  have HB1 := hide hb1
  have HLP := hide hlp
  have HZ := hide hz
  have HD := hide hd
  clear hrp hb1 hlp hz hd HB HN HM hbig hc hm
  go_wp2_with fail
  refine (c76 p a b d ap np capp _ HLP.out (by omega) HD.out (unhide HZ) (unhide HRP)).mono ?_
  rintro e w2 ⟨vx, rfl, hox, hb2⟩
  obtain ⟨ax, capx, rfl, hcx, hrx, hbx⟩ := hox.row
  have hxz : ax = none → capx = 0 := by intro e; subst e; exact own_cap0 hox
  have HXZ := hide hxz
  rw [Tm.monMove_len, HLP.out] at hcx
  rw [Tm.monMove_len, HLP.out]
  have HRX := hide hrx
  have HRP2 := hide ((unhide HRP).bel hb2)
  have HB2 := hide (below_tr (unhide HB1) hb2)
  clear hox hrx hbx hb2 hxz HRP HB1
  have HLX : Hid ((Tm.monMove p a b d).length = np) := by unfold Hid; rw [Tm.monMove_len]; exact HLP.out
  generalize hX : Tm.monMove p a b d = X at *
  have HX := hide hX
  clear hX
  go_wp2_with fail
  refine (c77 p a b d ap np capp _ HLP.out (by omega) HD.out (unhide HZ) (unhide HRP2)).mono ?_
  rintro e w3 ⟨vy, rfl, hoy, hb3⟩
  rw [unhide HX] at hoy
  obtain ⟨ay, capy, rfl, hcy, hry, hby⟩ := hoy.row
  rw [HLX.out] at hcy
  rw [HLX.out]
  have HRY := hide hry
  have HRX3 := hide ((unhide HRX).bel hb3)
  have HRP3 := hide ((unhide HRP2).bel hb3)
  have HB3 := hide (below_tr (unhide HB2) hb3)
  clear hoy hry hby hb3 HRX HRP2 HB2
  generalize hbb : Tm.moveOk p a b d = bb at *
  have HBB := hide hbb
  clear hbb
  go_wp2_with fail
  refine (swI X ax ay np capx capy _ HLX.out (by omega) (unhide HRX3) (unhide HRY)).mono ?_
  rintro e w4 ⟨rfl, hb4⟩
  have HRX4 := hide ((unhide HRX3).bel hb4)
  have HRP4 := hide ((unhide HRP3).bel hb4)
  have HB4 := hide (below_tr (unhide HB3) hb4)
  clear hb4 HRX3 HRP3 HB3 HRY
  cases bb with
  | false =>
    have hXp : X = p := (unhide HX).symm.trans (Tm.monMove_no (unhide HBB))
    subst hXp
    go_wp2_with fail
    refine (swI X ax ap np capx capp _ HLX.out (by omega) (unhide HRX4) (unhide HRP4)).mono ?_
    rintro e w5 ⟨rfl, hb5⟩
    have HB5 := hide (below_tr (unhide HB4) hb5)
    clear hb5 HB4 HRX4 HRP4
    go_wp2_with (go_at_call 40; refine (c40 _).mono ?_; rintro e w' ⟨rfl, rfl⟩)
    go_ret
    exact ⟨rfl, unhide HB5⟩
  | true =>
    obtain ⟨ha, hb, hab, hn, hp, hXk, hh⟩ := move_law (unhide HBB)
    have hsum := move_sum (unhide HBB)
    rw [unhide HX] at hXk hh hsum
    have HH := hide hh
    have HP := hide hp
    have HXK := hide hXk
    have HAB := hide hab
    obtain ⟨d1, d2⟩ := hn
    have dn : (a != b) = true := by rw [bne_iff_ne]; exact hab
    clear hh hp hXk ha hb hab
    go_wp2_with fail
    go_loop [11] (fun i => ∃ J : Nat, 1 ≤ J ∧ J ≤ 6 ∧ i = .int .i64 J) (fun i => 7 - (intOf i).toNat)
    case atStart => exact ⟨1, by omega, by omega, rfl⟩
    case round =>
      obtain ⟨J, hJ1, hJ6, rfl⟩ := hrel
      by_cases hlt : J < 6
      · have hle : (J : Int) ≤ 5 := by omega
        have hj1 : (1 : Int) ≤ (J : Int) := by omega
        have hu := unhide HH (J : Int) hj1 hle
        have mx : Tm.monHas X (J : Int) = Tm.has X (J : Int) := Tm.monHas_of (unhide HXK) ⟨hj1, hle⟩
        have mp : Tm.monHas p (J : Int) = Tm.has p (J : Int) := Tm.monHas_of (unhide HP) ⟨hj1, hle⟩
        have bd := has_bd (unhide HP) hj1 hle
        obtain ⟨e1, e2⟩ := bd
        by_cases ea : (J : Int) = a
        · have eb : ¬ ((J : Int) = b) := fun e => unhide HAB (ea.symm.trans e)
          have ba : ((J : Int) == a) = true := by simpa using ea
          have bb' : ((J : Int) == b) = false := by simpa using eb
          rw [if_neg eb, if_pos ea] at hu
          have hne : (Tm.monHas X (J : Int) != Tm.monHas p (J : Int) + -d) = false := by rw [bne_eq_false_iff_eq, mx, mp]; exact hu
          have HMP := hide mp
          clear hu mx ea eb mp
          generalize hmx : Tm.monHas X (J : Int) = mX at *
          generalize hmp : Tm.monHas p (J : Int) = mP at *
          have mpb : 0 ≤ mP ∧ mP ≤ 100000 := by rw [unhide HMP]; omega
          obtain ⟨mp1, mp2⟩ := mpb
          go_wp2_with fail
          refine (c78 X _ _ _ _ _ HLX.out (by omega) (unhide HRX4)).mono ?_
          rintro e w' ⟨rfl, rfl⟩
          go_wp2_with fail
          refine (c78 p _ _ _ _ _ HLP.out (by omega) (unhide HRP4)).mono ?_
          rintro e w' ⟨rfl, rfl⟩
          go_wp2_with fail
          go_round
          case rel => exact ⟨J + 1, by omega, by omega, by go_num⟩
          case measure => simp [intOf]; omega
        have ba : ((J : Int) == a) = false := by simpa using ea
        by_cases eb : (J : Int) = b
        · have bb' : ((J : Int) == b) = true := by simpa using eb
          rw [if_pos eb] at hu
          have hne : (Tm.monHas X (J : Int) != Tm.monHas p (J : Int) + d) = false := by rw [bne_eq_false_iff_eq, mx, mp]; exact hu
          have HMP := hide mp
          clear hu mx ea eb mp
          generalize hmx : Tm.monHas X (J : Int) = mX at *
          generalize hmp : Tm.monHas p (J : Int) = mP at *
          have mpb : 0 ≤ mP ∧ mP ≤ 100000 := by rw [unhide HMP]; omega
          obtain ⟨mp1, mp2⟩ := mpb
          go_wp2_with fail
          refine (c78 X _ _ _ _ _ HLX.out (by omega) (unhide HRX4)).mono ?_
          rintro e w' ⟨rfl, rfl⟩
          go_wp2_with fail
          refine (c78 p _ _ _ _ _ HLP.out (by omega) (unhide HRP4)).mono ?_
          rintro e w' ⟨rfl, rfl⟩
          go_wp2_with fail
          go_round
          case rel => exact ⟨J + 1, by omega, by omega, by go_num⟩
          case measure => simp [intOf]; omega
        · have bb' : ((J : Int) == b) = false := by simpa using eb
          rw [if_neg eb, if_neg ea] at hu
          have hne : (Tm.monHas X (J : Int) != Tm.monHas p (J : Int)) = false := by rw [bne_eq_false_iff_eq, mx, mp]; omega
          have HMP := hide mp
          clear hu mx ea eb mp
          generalize hmx : Tm.monHas X (J : Int) = mX at *
          generalize hmp : Tm.monHas p (J : Int) = mP at *
          have mpb : 0 ≤ mP ∧ mP ≤ 100000 := by rw [unhide HMP]; omega
          obtain ⟨mp1, mp2⟩ := mpb
          go_wp2_with fail
          refine (c78 X _ _ _ _ _ HLX.out (by omega) (unhide HRX4)).mono ?_
          rintro e w' ⟨rfl, rfl⟩
          go_wp2_with fail
          refine (c78 p _ _ _ _ _ HLP.out (by omega) (unhide HRP4)).mono ?_
          rintro e w' ⟨rfl, rfl⟩
          go_wp2_with fail
          go_round
          case rel => exact ⟨J + 1, by omega, by omega, by go_num⟩
          case measure => simp [intOf]; omega
      · have hJ : J = 6 := by omega
        subst hJ
        have hxk := unhide HXK
        go_wp2_with fail
        refine (c79 X _ _ _ _ HLX.out (by omega) (unhide HRX4)).mono ?_
        rintro e w' ⟨rfl, rfl⟩
        rw [hsum]
        go_wp2_with fail
        refine (c79 p _ _ _ _ HLP.out (by omega) (unhide HRP4)).mono ?_
        rintro e w' ⟨rfl, rfl⟩
        go_wp2_with (go_at_call 80; refine (c80 X _ _ _ _ HLX.out (by omega) (unhide HRX4)).mono ?_; rintro e w' ⟨rfl, rfl⟩)
        go_ret
        exact ⟨rfl, unhide HB4⟩
end Go.Proofs.Ytjdnengmllamcaa
