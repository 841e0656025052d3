/-
  The walks of the laws FnMonHas and FnMonTurn: at every code they answer true, and nothing that was there is written.
-/
import Derived.Test.YtjdnengmllamcaaDrm
namespace Go.Proofs.Ytjdnengmllamcaa
open Go.RowKit
set_option linter.unusedVariables false
set_option maxRecDepth 100000

def hasTo (p : List Int) : Nat → Int
  | 0 => 0
  | k + 1 => wrap64 (hasTo p k + Tm.monHas p (k : Int))
theorem five {p : List Int} (h : Tm.monOk p = true) : ∃ a b c d e : Int, p = [a, b, c, d, e] ∧ (0 ≤ a ∧ a ≤ 100000) ∧ (0 ≤ b ∧ b ≤ 100000) ∧ (0 ≤ c ∧ c ≤ 100000) ∧ (0 ≤ d ∧ d ≤ 100000) ∧ (0 ≤ e ∧ e ≤ 100000) := by
  obtain ⟨hl, hall⟩ := Tm.monOk_iff.1 h
  match p, hl with
  | [a, b, c, d, e], _ => exact ⟨a, b, c, d, e, rfl, hall a (by simp), hall b (by simp), hall c (by simp), hall d (by simp), hall e (by simp)⟩
theorem wrap_small {n : Int} (h : -9223372036854775808 ≤ n ∧ n ≤ 9223372036854775807) : wrap64 n = n := by unfold wrap64; omega
theorem monSum_five (a b c d e : Int) (h : (-1000000 ≤ a ∧ a ≤ 1000000) ∧ (-1000000 ≤ b ∧ b ≤ 1000000) ∧ (-1000000 ≤ c ∧ c ≤ 1000000) ∧ (-1000000 ≤ d ∧ d ≤ 1000000) ∧ (-1000000 ≤ e ∧ e ≤ 1000000)) : monSum [a, b, c, d, e] = a + b + c + d + e := by
  show wrap64 (wrap64 (wrap64 (wrap64 (wrap64 (0 + a) + b) + c) + d) + e) = _
  rw [wrap_small (n := 0 + a) (by omega), wrap_small (n := 0 + a + b) (by omega), wrap_small (n := 0 + a + b + c) (by omega), wrap_small (n := 0 + a + b + c + d) (by omega), wrap_small (n := 0 + a + b + c + d + e) (by omega)]
  omega
theorem has_five {a b c d e : Int} (h : Tm.monOk [a, b, c, d, e] = true) : Tm.monHas [a, b, c, d, e] 1 = a ∧ Tm.monHas [a, b, c, d, e] 2 = b ∧ Tm.monHas [a, b, c, d, e] 3 = c ∧ Tm.monHas [a, b, c, d, e] 4 = d ∧ Tm.monHas [a, b, c, d, e] 5 = e := by
  refine ⟨?_, ?_, ?_, ?_, ?_⟩ <;> (rw [Tm.monHas_of h (by omega)]; rfl)
theorem hasTo_ok {p : List Int} (h : Tm.monOk p = true) : hasTo p 7 = monSum p := by
  obtain ⟨a, b, c, d, e, rfl, ha, hb, hc, hd, he⟩ := five h
  rw [monSum_five a b c d e (by omega)]
  obtain ⟨h1, h2, h3, h4, h5⟩ := has_five h
  have h0 : Tm.monHas [a, b, c, d, e] 0 = 0 := Tm.monHas_no (by omega)
  have h6 : Tm.monHas [a, b, c, d, e] 6 = 0 := Tm.monHas_no (by omega)
  show wrap64 (wrap64 (wrap64 (wrap64 (wrap64 (wrap64 (wrap64 (0 + Tm.monHas [a, b, c, d, e] 0) + Tm.monHas [a, b, c, d, e] 1) + Tm.monHas [a, b, c, d, e] 2) + Tm.monHas [a, b, c, d, e] 3) + Tm.monHas [a, b, c, d, e] 4) + Tm.monHas [a, b, c, d, e] 5) + Tm.monHas [a, b, c, d, e] 6) = _
  rw [h0, h1, h2, h3, h4, h5, h6]
  rw [wrap_small (n := 0 + 0) (by omega), wrap_small (n := 0 + 0 + a) (by omega), wrap_small (n := 0 + 0 + a + b) (by omega), wrap_small (n := 0 + 0 + a + b + c) (by omega), wrap_small (n := 0 + 0 + a + b + c + d) (by omega), wrap_small (n := 0 + 0 + a + b + c + d + e) (by omega), wrap_small (n := 0 + 0 + a + b + c + d + e + 0) (by omega)]
  omega
theorem hasTo_no {p : List Int} (h : Tm.monOk p = false) : ∀ k, hasTo p k = 0 := by
  intro k
  induction k with
  | zero => rfl
  | succ k ih =>
    show wrap64 (hasTo p k + Tm.monHas p (k : Int)) = 0
    rw [ih, Tm.monHas_no (by simp [h])]
    exact wrap_small (by omega)
theorem turn_law {p : List Int} {u n : Int} (h : Tm.turnOk p u n = true) : Tm.turnOk (Tm.turnSet p u n) u (-n) = true ∧ Tm.turnSet (Tm.turnSet p u n) u (-n) = p ∧ Tm.monHas (Tm.turnSet p u n) u = Tm.monHas p u + n ∧ monSum (Tm.turnSet p u n) = monSum p + n ∧ (-100000 ≤ n ∧ n ≤ 100000) ∧ (0 ≤ monSum p ∧ monSum p ≤ 500000) := by
  have hok := Tm.turnSet_ok h
  obtain ⟨h1, h2, h3, h4⟩ := Tm.turnOk_iff.1 h
  have hm : Tm.monHas (Tm.turnSet p u n) u = Tm.monHas p u + n := by
    rw [Tm.monHas_of hok h2, Tm.monHas_of h1 h2, Tm.has_turnSet (Tm.monOk_iff.1 h1).1 h2 h2, if_pos rfl]
  obtain ⟨a, b, c, d, e, rfl, ha, hb, hc, hd, he⟩ := five h1
  have hs := monSum_five a b c d e (by omega)
  refine ⟨?_, ?_, hm, ?_, h3, by omega⟩
  · rw [Tm.turnOk_iff]
    refine ⟨hok, h2, by omega, ?_⟩
    rw [Tm.has_turnSet (Tm.monOk_iff.1 h1).1 h2 h2, if_pos rfl]
    have hg := Tm.monOk_get h1 (j := (u - 1).toNat) (by omega)
    change 0 ≤ Tm.has [a, b, c, d, e] u ∧ Tm.has [a, b, c, d, e] u ≤ 100000 at hg
    omega
  · obtain rfl | rfl | rfl | rfl | rfl : u = 1 ∨ u = 2 ∨ u = 3 ∨ u = 4 ∨ u = 5 := by omega
    · show [a + n + -n, b, c, d, e] = _; rw [Int.add_neg_cancel_right]
    · show [a, b + n + -n, c, d, e] = _; rw [Int.add_neg_cancel_right]
    · show [a, b, c + n + -n, d, e] = _; rw [Int.add_neg_cancel_right]
    · show [a, b, c, d + n + -n, e] = _; rw [Int.add_neg_cancel_right]
    · show [a, b, c, d, e + n + -n] = _; rw [Int.add_neg_cancel_right]
  · rw [hs]
    obtain rfl | rfl | rfl | rfl | rfl : u = 1 ∨ u = 2 ∨ u = 3 ∨ u = 4 ∨ u = 5 := by omega
    · show monSum [a + n, b, c, d, e] = _; rw [monSum_five _ _ _ _ _ (by omega)]; omega
    · show monSum [a, b + n, c, d, e] = _; rw [monSum_five _ _ _ _ _ (by omega)]; omega
    · show monSum [a, b, c + n, d, e] = _; rw [monSum_five _ _ _ _ _ (by omega)]; omega
    · show monSum [a, b, c, d + n, e] = _; rw [monSum_five _ _ _ _ _ (by omega)]; omega
    · show monSum [a, b, c, d, e + n] = _; rw [monSum_five _ _ _ _ _ (by omega)]; omega

def oneI (b : Bool) : Int := if b = true then 1 else 0

set_option maxHeartbeats 400000 in
theorem c89 (b : Bool) (w : World) : Calls Try.prog 89 #[.bool b] w fun e w' => e = .returned (.int .i64 (oneI b)) ∧ w' = w := by
  cases b
  · go_enter Try.func89, Try.ntmps89
    go_wp2_with fail
    go_ret
    exact ⟨rfl, rfl⟩
  · go_enter Try.func89, Try.ntmps89
    go_wp2_with fail
    go_ret
    exact ⟨rfl, rfl⟩
theorem swI (xs : List Int) (ao bo : Option Addr) (n cap cap' : Nat) (w : World) (hn : xs.length = n) (h1 : n ≤ 1048576) (hr : Row w ao xs) (hs : Row w bo xs) :
    Calls Try.prog 32 #[.slice ao n cap, .slice bo n cap'] w fun e w' => e = .returned (.bool true) ∧ Below w.heap.size w w' := by
  refine (c32 xs xs ao bo n cap n cap' w hn hn (by omega) (by omega) hr hs).mono ?_
  rintro e w1 ⟨rfl, q, rfl⟩
  exact ⟨by simp, below_dn (Below.refl _ _) q⟩

set_option maxHeartbeats 4000000 in
theorem law15 (bs cs : List Int) (ao bo : Option Addr) (n cap m cap' : Nat) (w : World) (hn : bs.length = n) (hc : n ≤ cap) (hm : cap ≤ maxLen) (hB : Bytes w ao bs) (hn2 : cs.length = m) (hc2 : m ≤ cap') (hm2 : cap' ≤ maxLen) (hB2 : Bytes w bo cs) :
    Calls Try.prog 15 #[.slice ao n cap, .slice bo m cap'] w (Holds w) := by
  have HM := hide hm
  have HM2 := hide hm2
  unfold maxLen at hm hm2
  have HB := hide hB
  have HB2 := hide hB2
  have HN := hide hn
  have HN2 := hide hn2
  clear hB hB2 hn hn2
  by_cases hbig : (1048576 : Int) < (n : Int)
  · go_enter Try.func15, Try.ntmps15
    go_wp2_with fail
    go_ret
    exact ⟨rfl, Below.refl _ _⟩
  have hbd : decide ((1048576 : Int) < (n : Int)) = false := by simpa using hbig
  by_cases hbig2 : (1048576 : Int) < (m : Int)
  · go_enter Try.func15, Try.ntmps15
    go_wp2_with fail
    go_ret
    exact ⟨rfl, Below.refl _ _⟩
  have hbd2 : decide ((1048576 : Int) < (m : Int)) = false := by simpa using hbig2
  go_enter Try.func15, Try.ntmps15
  go_wp2_with fail
  refine (c85 bs ao n cap _ HN.out hc (unhide HM) (unhide HB)).mono ?_
  rintro e w1 ⟨u, hu0, hu1, ap, np, capp, p, rfl, hlp, hp6, hpc, -, hrp, hb1⟩
  have HRP := hide hrp
  have HB1 := hide hb1
  have HLP := hide hlp
  clear hrp hb1 hlp
  go_wp2_with fail
  refine (c86 cs bo m cap' _ HN2.out hc2 (unhide HM2) ?hbb).mono ?_
  case hbb =>
    obtain ⟨q1, q2⟩ := unhide HB2
    refine ⟨q1, fun hne => ?_⟩
    obtain ⟨b, off, rfl, hcs⟩ := q2 hne
    exact ⟨b, off, rfl, fun j hj => cell_bl (unhide HB1) (hcs j hj)⟩
  rintro e w2 ⟨aq, nq, capq, q, rfl, hlq, hq6, hqc, -, hrq, hb2⟩
  have HRQ := hide hrq
  have HB2' := hide (below_tr (unhide HB1) hb2)
  have HRP2 := hide ((unhide HRP).bel hb2)
  have HLQ := hide hlq
  clear hrq hb2 hlq HRP HB1
  go_wp2_with (first | (go_at_call 78; refine (c78 p _ _ _ _ _ HLP.out (by omega) (unhide HRP2)).mono ?_; rintro e w' ⟨rfl, rfl⟩) | (go_at_call 87; refine (c87 p _ _ _ _ _ HLP.out (by omega) (unhide HRP2)).mono ?_; rintro e w' ⟨rfl, rfl⟩) | (go_at_call 79; refine (c79 q _ _ _ _ HLQ.out (by omega) (unhide HRQ)).mono ?_; rintro e w' ⟨rfl, rfl⟩) | (go_at_call 88; refine (c88 q _ _ _ _ HLQ.out (by omega) (unhide HRQ)).mono ?_; rintro e w' ⟨rfl, rfl⟩) | (go_at_call 84; refine (c84 p _ _ _ _ HLP.out (by omega) (unhide HRP2)).mono ?_; rintro e w' ⟨rfl, rfl⟩) | (go_at_call 89; refine (c89 _ _).mono ?_; rintro e w' ⟨rfl, rfl⟩) | (go_at_call 40; refine (c40 _).mono ?_; rintro e w' ⟨rfl, rfl⟩))
  go_loop [8, 9] (fun t i => ∃ J : Nat, J ≤ 7 ∧ i = .int .i64 J ∧ t = .int .i64 (hasTo p J)) (fun _ i => 7 - (intOf i).toNat)
  case atStart => exact ⟨0, by omega, rfl, rfl⟩
  case round =>
    obtain ⟨J, hJ, rfl, rfl⟩ := hrel
    by_cases hlt : J < 7
    · have HT : Hid (hasTo p (J + 1) = wrap64 (hasTo p J + Tm.monHas p (J : Int))) := rfl
      have hle : (J : Int) ≤ 6 := by omega
      generalize hasTo p J = y at *
      go_wp2_with (first | (go_at_call 78; refine (c78 p _ _ _ _ _ HLP.out (by omega) (unhide HRP2)).mono ?_; rintro e w' ⟨rfl, rfl⟩) | (go_at_call 87; refine (c87 p _ _ _ _ _ HLP.out (by omega) (unhide HRP2)).mono ?_; rintro e w' ⟨rfl, rfl⟩) | (go_at_call 79; refine (c79 p _ _ _ _ HLP.out (by omega) (unhide HRP2)).mono ?_; rintro e w' ⟨rfl, rfl⟩) | (go_at_call 88; refine (c88 q _ _ _ _ HLQ.out (by omega) (unhide HRQ)).mono ?_; rintro e w' ⟨rfl, rfl⟩) | (go_at_call 84; refine (c84 p _ _ _ _ HLP.out (by omega) (unhide HRP2)).mono ?_; rintro e w' ⟨rfl, rfl⟩) | (go_at_call 89; refine (c89 _ _).mono ?_; rintro e w' ⟨rfl, rfl⟩) | (go_at_call 40; refine (c40 _).mono ?_; rintro e w' ⟨rfl, rfl⟩))
      go_round
      case rel => exact ⟨J + 1, by omega, by go_num, by rw [unhide HT]⟩
      case measure => simp [intOf]; omega
    · have hJ7 : J = 7 := by omega
      subst hJ7
      have h00 : Tm.monHas p 0 = 0 := Tm.monHas_no (by omega)
      rcases hk : Tm.monOk p with _ | _
      · have hh := hasTo_no hk 7
        have hon : oneI false = 0 := rfl
        rw [hh]
        clear hh
        generalize hsp : monSum p = sp at *
        go_wp2_with (first | (go_at_call 78; refine (c78 p _ _ _ _ _ HLP.out (by omega) (unhide HRP2)).mono ?_; rintro e w' ⟨rfl, rfl⟩) | (go_at_call 87; refine (c87 p _ _ _ _ _ HLP.out (by omega) (unhide HRP2)).mono ?_; rintro e w' ⟨rfl, rfl⟩) | (go_at_call 79; refine (c79 p _ _ _ _ HLP.out (by omega) (unhide HRP2)).mono ?_; rintro e w' ⟨rfl, rfl⟩) | (go_at_call 88; refine (c88 q _ _ _ _ HLQ.out (by omega) (unhide HRQ)).mono ?_; rintro e w' ⟨rfl, rfl⟩) | (go_at_call 84; refine (c84 p _ _ _ _ HLP.out (by omega) (unhide HRP2)).mono ?_; rintro e w' ⟨rfl, rfl⟩) | (go_at_call 89; refine (c89 _ _).mono ?_; rintro e w' ⟨rfl, rfl⟩) | (go_at_call 40; refine (c40 _).mono ?_; rintro e w' ⟨rfl, rfl⟩))
        go_ret
        exact ⟨rfl, unhide HB2'⟩
      · have hh := hasTo_ok hk
        have hon : oneI true = 1 := rfl
        have hs : (0 ≤ monSum p ∧ monSum p ≤ 500000) := by
          obtain ⟨a, b, c, d, e, rfl, ha, hb, hc, hd, he⟩ := five hk
          rw [monSum_five a b c d e (by omega)]; omega
        rw [hh]
        clear hh
        generalize hsp : monSum p = sp at *
        obtain ⟨s1, s2⟩ := hs
        have hw1 : wrap64 sp = sp := wrap_small (by omega)
        have hw2 : (sp == wrap64 sp) = true := by rw [hw1]; simp
        go_wp2_with (first | (go_at_call 78; refine (c78 p _ _ _ _ _ HLP.out (by omega) (unhide HRP2)).mono ?_; rintro e w' ⟨rfl, rfl⟩) | (go_at_call 87; refine (c87 p _ _ _ _ _ HLP.out (by omega) (unhide HRP2)).mono ?_; rintro e w' ⟨rfl, rfl⟩) | (go_at_call 79; refine (c79 p _ _ _ _ HLP.out (by omega) (unhide HRP2)).mono ?_; rintro e w' ⟨rfl, rfl⟩) | (go_at_call 88; refine (c88 q _ _ _ _ HLQ.out (by omega) (unhide HRQ)).mono ?_; rintro e w' ⟨rfl, rfl⟩) | (go_at_call 84; refine (c84 p _ _ _ _ HLP.out (by omega) (unhide HRP2)).mono ?_; rintro e w' ⟨rfl, rfl⟩) | (go_at_call 89; refine (c89 _ _).mono ?_; rintro e w' ⟨rfl, rfl⟩) | (go_at_call 40; refine (c40 _).mono ?_; rintro e w' ⟨rfl, rfl⟩))
        go_ret
        exact ⟨rfl, unhide HB2'⟩
end Go.Proofs.Ytjdnengmllamcaa
