/-
  The walks of chapter 6: whether purses are ok, what somebody has, the sum, a copy, turning a purse.
-/
import Derived.Test.YtjdnengmllamcaaKeep
import Derived.Test.YtjdnengmllamcaaEnta
import Derived.Test.YtjdnengmllamcaaMathm
namespace Go.Proofs.Ytjdnengmllamcaa
open Go.RowKit
set_option linter.unusedVariables false
set_option maxRecDepth 100000

def sumTo (p : List Int) (k : Nat) : Int := (p.take k).foldl (fun s x => wrap64 (s + x)) 0
theorem sumTo_zero (p : List Int) : sumTo p 0 = 0 := by simp [sumTo]
theorem sumTo_succ (p : List Int) (k : Nat) (h : k < p.length) : sumTo p (k + 1) = wrap64 (sumTo p k + p.getD k 0) := by
  unfold sumTo; rw [Tm.take_snoc p k h, List.foldl_append]; rfl
def monSum (p : List Int) : Int := sumTo p p.length

set_option maxHeartbeats 400000 in
theorem c144 (n a b : Int) (w : World) : Calls Try.prog 144 #[.int .i64 n, .int .i64 a, .int .i64 b] w fun e w' => e = .returned (.bool (decide (a ≤ n ∧ n ≤ b))) ∧ w' = w := by
  by_cases h0 : a ≤ n
  · go_enter Try.func144, Try.ntmps144
    go_wp2
    go_ret
    exact ⟨ret_bool (by simp [h0]), rfl⟩
  · have h1 : decide (a ≤ n) = false := by simpa using h0
    go_enter Try.func144, Try.ntmps144
    go_wp2
    go_ret
    exact ⟨ret_bool (by simp), rfl⟩

set_option maxHeartbeats 1000000 in
theorem c80 (p : List Int) (ao : Option Addr) (n cap : Nat) (w : World) (hn : p.length = n) (hm : n ≤ 9223372036854775807) (hr : Row w ao p) :
    Calls Try.prog 80 #[.slice ao n cap] w fun e w' => e = .returned (.bool (Tm.monOk p)) ∧ w' = w := by
  subst hn
  have HR := hide hr
  clear hr
  by_cases hl : p.length = 5
  case neg =>
    have HE := hide (Tm.monOk_len hl)
    have b8 : ((p.length : Int) != 5) = true := by rw [bne_iff_ne]; omega
    clear hl
    go_enter Try.func80, Try.ntmps80
    go_wp2_with fail
    go_ret
    exact ⟨ret_bool (unhide HE).symm, rfl⟩
  have b8 : ((p.length : Int) != 5) = false := by rw [bne_eq_false_iff_eq]; omega
  have HL := hide hl
  clear hl
  go_enter Try.func80, Try.ntmps80
  go_wp2_with fail
  go_loop [10] (fun i => ∃ k : Nat, k ≤ p.length ∧ i = .int .i64 k ∧ ∀ j, j < k → 0 ≤ p.getD j 0 ∧ p.getD j 0 ≤ 100000) (fun i => p.length - (intOf i).toNat)
  case atStart => exact ⟨0, Nat.zero_le _, rfl, fun j hj => absurd hj (Nat.not_lt_zero _)⟩
  case round =>
    obtain ⟨k, hk, rfl, hall⟩ := hrel
    have HAL := hide hall
    clear hall
    by_cases hlt : k < p.length
    · obtain ⟨b, off, rfl, hc⟩ := (unhide HR).2 (by intro e; subst e; simp at hlt)
      have hcell := hc k hlt
      by_cases ho : 0 ≤ p.getD k 0 ∧ p.getD k 0 ≤ 100000
      · have HA : Hid (∀ j, j < k + 1 → 0 ≤ p.getD j 0 ∧ p.getD j 0 ≤ 100000) := by
          intro j hj
          by_cases e : j = k
          · subst e; exact ho
          · exact unhide HAL j (by omega)
        have hd : decide (0 ≤ p.getD k 0 ∧ p.getD k 0 ≤ 100000) = true := by simpa using ho
        clear hc ho
        generalize p.getD k 0 = x at *
        go_wp2_with (go_at_call 144; refine (c144 _ _ _ _).mono ?_; rintro e w' ⟨rfl, rfl⟩)
        go_round
        case rel => exact ⟨k + 1, by omega, by go_num, HA.out⟩
        case measure => simp [intOf]; omega
      · have HE := hide (Tm.monOk_at hlt ho)
        have hd : decide (0 ≤ p.getD k 0 ∧ p.getD k 0 ≤ 100000) = false := by simpa using ho
        clear hc ho
        generalize p.getD k 0 = x at *
        go_wp2_with (go_at_call 144; refine (c144 _ _ _ _).mono ?_; rintro e w' ⟨rfl, rfl⟩)
        go_ret
        exact ⟨ret_bool (unhide HE).symm, rfl⟩
    · have hke : k = p.length := by omega
      subst hke
      have HE := hide (Tm.monOk_all HL.out (unhide HAL))
      go_wp2_with fail
      go_ret
      exact ⟨ret_bool (unhide HE).symm, rfl⟩

set_option maxHeartbeats 1000000 in
theorem c79 (p : List Int) (ao : Option Addr) (n cap : Nat) (w : World) (hn : p.length = n) (hm : n ≤ 9223372036854775807) (hr : Row w ao p) :
    Calls Try.prog 79 #[.slice ao n cap] w fun e w' => e = .returned (.int .i64 (monSum p)) ∧ w' = w := by
  subst hn
  have HR := hide hr
  clear hr
  have HS : Hid (monSum p = sumTo p p.length) := rfl
  go_enter Try.func79, Try.ntmps79
  go_wp2_with fail
  go_loop [3, 8] (fun t i => ∃ k : Nat, k ≤ p.length ∧ i = .int .i64 k ∧ t = .int .i64 (sumTo p k)) (fun _ i => p.length - (intOf i).toNat)
  case atStart => exact ⟨0, Nat.zero_le _, rfl, rfl⟩
  case round =>
    obtain ⟨k, hk, rfl, rfl⟩ := hrel
    by_cases hlt : k < p.length
    · obtain ⟨b, off, rfl, hc⟩ := (unhide HR).2 (by intro e; subst e; simp at hlt)
      have hcell := hc k hlt
      have HN := hide (sumTo_succ p k hlt)
      clear hc
      generalize p.getD k 0 = x at *
      generalize sumTo p k = y at *
      go_wp2_with fail
      go_round
      case rel => exact ⟨k + 1, by omega, by go_num, by rw [unhide HN]⟩
      case measure => simp [intOf]; omega
    · have hke : k = p.length := by omega
      subst hke
      generalize sumTo p p.length = y at *
      go_wp2_with fail
      go_ret
      exact ⟨ret_int (unhide HS).symm, rfl⟩

set_option maxHeartbeats 1000000 in
theorem c78 (p : List Int) (u : Int) (ao : Option Addr) (n cap : Nat) (w : World) (hn : p.length = n) (hm : n ≤ 9223372036854775807) (hr : Row w ao p) :
    Calls Try.prog 78 #[.slice ao n cap, .int .i64 u] w fun e w' => e = .returned (.int .i64 (Tm.monHas p u)) ∧ w' = w := by
  subst hn
  have HR := hide hr
  clear hr
  rcases hk : Tm.monOk p with _ | _
  · have HE := hide (Tm.monHas_no (p := p) (u := u) (by simp [hk]))
    go_enter Try.func78, Try.ntmps78
    go_wp2_with (first | (go_at_call 80; refine (c80 p _ _ _ _ rfl hm (unhide HR)).mono ?_; rintro e w' ⟨rfl, rfl⟩) | (go_at_call 143; refine (c143 _ _).mono ?_; rintro e w' ⟨rfl, rfl⟩))
    go_ret
    exact ⟨ret_int (unhide HE).symm, rfl⟩
  · by_cases hu : 1 ≤ u ∧ u ≤ 5
    · have HE := hide (Tm.monHas_of hk hu)
      have hl := (Tm.monOk_iff.1 hk).1
      obtain ⟨b, off, rfl, hc⟩ := (unhide HR).2 (by intro e; subst e; simp at hl)
      obtain ⟨j, rfl⟩ : ∃ j : Nat, u = (j : Int) + 1 := ⟨(u - 1).toNat, by omega⟩
      have hj : j < p.length := by omega
      have hcell := hc j hj
      have HG := hide (Tm.has_nat p j)
      clear hl
      have hd : decide (1 ≤ (j : Int) + 1 ∧ (j : Int) + 1 ≤ 5) = true := by simpa using hu
      clear hc
      generalize p.getD j 0 = x at *
      go_enter Try.func78, Try.ntmps78
      go_wp2_with (first | (go_at_call 80; refine (c80 p _ _ _ _ rfl hm (unhide HR)).mono ?_; rintro e w' ⟨rfl, rfl⟩) | (go_at_call 143; refine (c143 _ _).mono ?_; rintro e w' ⟨rfl, rfl⟩))
      go_ret
      exact ⟨ret_int (by rw [unhide HE, unhide HG]), rfl⟩
    · have HE := hide (Tm.monHas_no (p := p) (u := u) (fun e => hu e.2))
      have hd : decide (1 ≤ u ∧ u ≤ 5) = false := by simpa using hu
      clear hu
      go_enter Try.func78, Try.ntmps78
      go_wp2_with (first | (go_at_call 80; refine (c80 p _ _ _ _ rfl hm (unhide HR)).mono ?_; rintro e w' ⟨rfl, rfl⟩) | (go_at_call 143; refine (c143 _ _).mono ?_; rintro e w' ⟨rfl, rfl⟩))
      go_ret
      exact ⟨ret_int (unhide HE).symm, rfl⟩

set_option maxHeartbeats 1000000 in
theorem c84 (p : List Int) (ao : Option Addr) (n cap : Nat) (w : World) (hn : p.length = n) (hm : n ≤ 9223372036854775807) (hr : Row w ao p) :
    Calls Try.prog 84 #[.slice ao n cap] w fun e w' => e = .returned (.bool (Tm.monOk p)) ∧ w' = w := by
  subst hn
  have HR := hide hr
  clear hr
  by_cases hl : p.length = 5
  case neg =>
    have HE := hide (Tm.monOk_len hl)
    have b8 : ((p.length : Int) != 5) = true := by rw [bne_iff_ne]; omega
    clear hl
    go_enter Try.func84, Try.ntmps84
    go_wp2_with fail
    go_ret
    exact ⟨ret_bool (unhide HE).symm, rfl⟩
  have b8 : ((p.length : Int) != 5) = false := by rw [bne_eq_false_iff_eq]; omega
  have HL := hide hl
  clear hl
  go_enter Try.func84, Try.ntmps84
  go_wp2_with fail
  go_loop [3] (fun i => ∃ k : Nat, k ≤ p.length ∧ i = .int .i64 k ∧ ∀ j, j < k → 0 ≤ p.getD j 0 ∧ p.getD j 0 ≤ 100000) (fun i => p.length - (intOf i).toNat)
  case atStart => exact ⟨0, Nat.zero_le _, rfl, fun j hj => absurd hj (Nat.not_lt_zero _)⟩
  case round =>
    obtain ⟨k, hk, rfl, hall⟩ := hrel
    have HAL := hide hall
    clear hall
    by_cases hlt : k < p.length
    · obtain ⟨b, off, rfl, hc⟩ := (unhide HR).2 (by intro e; subst e; simp at hlt)
      have hcell := hc k hlt
      by_cases ho : 0 ≤ p.getD k 0 ∧ p.getD k 0 ≤ 100000
      · have HA : Hid (∀ j, j < k + 1 → 0 ≤ p.getD j 0 ∧ p.getD j 0 ≤ 100000) := by
          intro j hj
          by_cases e : j = k
          · subst e; exact ho
          · exact unhide HAL j (by omega)
        have hd : decide (0 ≤ p.getD k 0 ∧ p.getD k 0 ≤ 100000) = true := by simpa using ho
        clear hc ho
        generalize p.getD k 0 = x at *
        go_wp2_with (go_at_call 109; refine (c109 _ _ _ _).mono ?_; rintro e w' ⟨rfl, rfl⟩)
        go_round
        case rel => exact ⟨k + 1, by omega, by go_num, HA.out⟩
        case measure => simp [intOf]; omega
      · have HE := hide (Tm.monOk_at hlt ho)
        have hd : decide (0 ≤ p.getD k 0 ∧ p.getD k 0 ≤ 100000) = false := by simpa using ho
        clear hc ho
        generalize p.getD k 0 = x at *
        go_wp2_with (go_at_call 109; refine (c109 _ _ _ _).mono ?_; rintro e w' ⟨rfl, rfl⟩)
        go_ret
        exact ⟨ret_bool (unhide HE).symm, rfl⟩
    · have hke : k = p.length := by omega
      subst hke
      have HE := hide (Tm.monOk_all HL.out (unhide HAL))
      go_wp2_with fail
      go_ret
      exact ⟨ret_bool (unhide HE).symm, rfl⟩

set_option maxHeartbeats 1000000 in
theorem c88 (p : List Int) (ao : Option Addr) (n cap : Nat) (w : World) (hn : p.length = n) (hm : n ≤ 9223372036854775807) (hr : Row w ao p) :
    Calls Try.prog 88 #[.slice ao n cap] w fun e w' => e = .returned (.int .i64 (monSum p)) ∧ w' = w := by
  subst hn
  have HR := hide hr
  clear hr
  have HS : Hid (monSum p = sumTo p p.length) := rfl
  go_enter Try.func88, Try.ntmps88
  go_wp2_with fail
  go_loop [3, 4] (fun t i => ∃ k : Nat, k ≤ p.length ∧ i = .int .i64 k ∧ t = .int .i64 (sumTo p k)) (fun _ i => p.length - (intOf i).toNat)
  case atStart => exact ⟨0, Nat.zero_le _, rfl, rfl⟩
  case round =>
    obtain ⟨k, hk, rfl, rfl⟩ := hrel
    by_cases hlt : k < p.length
    · obtain ⟨b, off, rfl, hc⟩ := (unhide HR).2 (by intro e; subst e; simp at hlt)
      have hcell := hc k hlt
      have HN := hide (sumTo_succ p k hlt)
      clear hc
      generalize p.getD k 0 = x at *
      generalize sumTo p k = y at *
      go_wp2_with fail
      go_round
      case rel => exact ⟨k + 1, by omega, by go_num, by rw [unhide HN]⟩
      case measure => simp [intOf]; omega
    · have hke : k = p.length := by omega
      subst hke
      generalize sumTo p p.length = y at *
      go_wp2_with fail
      go_ret
      exact ⟨ret_int (unhide HS).symm, rfl⟩

set_option maxHeartbeats 1000000 in
theorem c87 (p : List Int) (u : Int) (ao : Option Addr) (n cap : Nat) (w : World) (hn : p.length = n) (hm : n ≤ 9223372036854775807) (hr : Row w ao p) :
    Calls Try.prog 87 #[.slice ao n cap, .int .i64 u] w fun e w' => e = .returned (.int .i64 (Tm.monHas p u)) ∧ w' = w := by
  subst hn
  have HR := hide hr
  clear hr
  rcases hk : Tm.monOk p with _ | _
  · have HE := hide (Tm.monHas_no (p := p) (u := u) (by simp [hk]))
    go_enter Try.func87, Try.ntmps87
    go_wp2_with (first | (go_at_call 84; refine (c84 p _ _ _ _ rfl hm (unhide HR)).mono ?_; rintro e w' ⟨rfl, rfl⟩) | (go_at_call 109; refine (c109 _ _ _ _).mono ?_; rintro e w' ⟨rfl, rfl⟩))
    go_ret
    exact ⟨ret_int (unhide HE).symm, rfl⟩
  · by_cases hu : 1 ≤ u ∧ u ≤ 5
    · have HE := hide (Tm.monHas_of hk hu)
      have hl := (Tm.monOk_iff.1 hk).1
      obtain ⟨b, off, rfl, hc⟩ := (unhide HR).2 (by intro e; subst e; simp at hl)
      obtain ⟨j, rfl⟩ : ∃ j : Nat, u = (j : Int) + 1 := ⟨(u - 1).toNat, by omega⟩
      have hj : j < p.length := by omega
      have hcell := hc j hj
      have HG := hide (Tm.has_nat p j)
      clear hl
      have hd : decide (1 ≤ (j : Int) + 1 ∧ (j : Int) + 1 ≤ 5) = true := by simpa using hu
      clear hc
      generalize p.getD j 0 = x at *
      go_enter Try.func87, Try.ntmps87
      go_wp2_with (first | (go_at_call 84; refine (c84 p _ _ _ _ rfl hm (unhide HR)).mono ?_; rintro e w' ⟨rfl, rfl⟩) | (go_at_call 109; refine (c109 _ _ _ _).mono ?_; rintro e w' ⟨rfl, rfl⟩))
      go_ret
      exact ⟨ret_int (by rw [unhide HE, unhide HG]), rfl⟩
    · have HE := hide (Tm.monHas_no (p := p) (u := u) (fun e => hu e.2))
      have hd : decide (1 ≤ u ∧ u ≤ 5) = false := by simpa using hu
      clear hu
      go_enter Try.func87, Try.ntmps87
      go_wp2_with (first | (go_at_call 84; refine (c84 p _ _ _ _ rfl hm (unhide HR)).mono ?_; rintro e w' ⟨rfl, rfl⟩) | (go_at_call 109; refine (c109 _ _ _ _).mono ?_; rintro e w' ⟨rfl, rfl⟩))
      go_ret
      exact ⟨ret_int (unhide HE).symm, rfl⟩
end Go.Proofs.Ytjdnengmllamcaa
