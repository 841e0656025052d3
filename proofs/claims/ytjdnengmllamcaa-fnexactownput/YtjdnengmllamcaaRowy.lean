/-
  The walks of TreSplit, TreOk (the program's and the model's), and of the laws' own helpers over lists of numbers: whether two are the same, a copy of one.
-/
import Derived.Test.YtjdnengmllamcaaLeaf
import Derived.Deep.QuietTactic
import Derived.BigQuiet
namespace Go.Proofs.Ytjdnengmllamcaa
open Go.RowKit

set_option maxHeartbeats 1000000 in
theorem c156 (n : Int) (w : World) : Calls Try.prog 156 #[.int .i64 n] w fun e w' => e = .returned (.int .i64 (Tm.treSplit n)) ∧ w' = w := by
  by_cases h0 : n < 2
  · have Hf : Hid (Tm.treSplit n = 0) := Tm.treSplit_no (Or.inl h0)
    go_enter Try.func156, Try.ntmps156
    go_wp2_with fail
    go_ret
    exact ⟨ret_int Hf.out.symm, rfl⟩
  · have h0' : decide (n < 2) = false := by simpa using h0
    by_cases h1 : 40 < n
    · have Hf : Hid (Tm.treSplit n = 0) := Tm.treSplit_no (Or.inr h1)
      go_enter Try.func156, Try.ntmps156
      go_wp2_with fail
      go_ret
      exact ⟨ret_int Hf.out.symm, rfl⟩
    · have h1' : decide (40 < n) = false := by simpa using h1
      have Hf : Hid (Tm.treSplit n = Tm.split n) := Tm.treSplit_of (by omega) (by omega)
      go_enter Try.func156, Try.ntmps156
      go_wp2_with fail
      go_loop [3] (fun t => ∃ k : Int, (k = 1 ∨ k = 2 ∨ k = 4 ∨ k = 8 ∨ k = 16 ∨ k = 32) ∧ k < n ∧ t = .int .i64 k) (fun t => (64 - intOf t).toNat)
      case atStart => exact ⟨1, by omega, by omega, rfl⟩
      case round =>
        obtain ⟨k, hk, hkn, rfl⟩ := hrel
        have k1 : 1 ≤ k := by omega
        have k2 : k ≤ 32 := by omega
        by_cases hlt : 2 * k < n
        · have HK : Hid (k = 1 ∨ k = 2 ∨ k = 4 ∨ k = 8 ∨ k = 16 ∨ k = 32) := hk
          clear hk
          go_wp2_with fail
          go_round
          case rel => exact ⟨k * 2, by have := HK.out; omega, by omega, rfl⟩
          case measure => simp [intOf]; omega
        · have HE : Hid (k = Tm.split n) := Tm.split_eq hk hkn (by omega)
          clear hk
          go_wp2_with fail
          go_ret
          exact ⟨ret_int (by rw [Hf.out, ← HE.out]), rfl⟩

set_option maxHeartbeats 1000000 in
theorem c154 (n : Int) (w : World) : Calls Try.prog 154 #[.int .i64 n] w fun e w' => e = .returned (.int .i64 (Tm.treSplit n)) ∧ w' = w := by
  by_cases h0 : 2 ≤ n ∧ n ≤ 40
  · have Hf : Hid (Tm.treSplit n = Tm.split n) := Tm.treSplit_of (by omega) (by omega)
    obtain ⟨h1, h2⟩ := h0
    go_enter Try.func154, Try.ntmps154
    go_wp2_with (go_at_call 109; refine (c109 _ _ _ _).mono ?_; rintro e w' ⟨rfl, rfl⟩)
    go_loop [3] (fun t => ∃ k : Int, (k = 1 ∨ k = 2 ∨ k = 4 ∨ k = 8 ∨ k = 16 ∨ k = 32) ∧ k < n ∧ t = .int .i64 k) (fun t => (64 - intOf t).toNat)
    case atStart => exact ⟨1, by omega, by omega, rfl⟩
    case round =>
      obtain ⟨k, hk, hkn, rfl⟩ := hrel
      have k1 : 1 ≤ k := by omega
      have k2 : k ≤ 32 := by omega
      by_cases hlt : 2 * k < n
      · have HK : Hid (k = 1 ∨ k = 2 ∨ k = 4 ∨ k = 8 ∨ k = 16 ∨ k = 32) := hk
        clear hk
        go_wp2_with fail
        go_round
        case rel => exact ⟨2 * k, by have := HK.out; omega, by omega, rfl⟩
        case measure => simp [intOf]; omega
      · have HE : Hid (k = Tm.split n) := Tm.split_eq hk hkn (by omega)
        clear hk
        go_wp2_with fail
        go_ret
        exact ⟨ret_int (by rw [Hf.out, ← HE.out]), rfl⟩
  · have Hf : Hid (Tm.treSplit n = 0) := Tm.treSplit_no (by omega)
    have hd : decide (2 ≤ n ∧ n ≤ 40) = false := by simpa using h0
    clear h0
    go_enter Try.func154, Try.ntmps154
    go_wp2_with (go_at_call 109; refine (c109 _ _ _ _).mono ?_; rintro e w' ⟨rfl, rfl⟩)
    go_ret
    exact ⟨ret_int Hf.out.symm, rfl⟩

set_option maxHeartbeats 1000000 in
theorem c127 (zs : List Int) (ao : Option Addr) (n cap : Nat) (w : World) (hn : zs.length = n) (hm : n ≤ 140737488355328) (hr : Row w ao zs) :
    Calls Try.prog 127 #[.slice ao n cap] w fun e w' => e = .returned (.bool (Tm.treOk zs)) ∧ w' = w := by
  subst hn
  obtain ⟨-, hr⟩ := hr
  by_cases h0 : zs = []
  · subst h0
    clear hr hm
    go_enter Try.func127, Try.ntmps127
    go_wp2_with fail
    refine wp_loop_rounds 1 ?_
    rw [rounds_succ]
    go_wp2_with fail
    go_ret
    exact ⟨rfl, rfl⟩
  · obtain ⟨b, off, rfl, hc⟩ := hr h0
    clear hr
    by_cases h1 : (40 : Int) < (zs.length : Int)
    · have Hf : Hid (Tm.treOk zs = false) := by unfold Hid Tm.treOk; rw [decide_eq_false (by omega)]; rfl
      clear hc
      go_enter Try.func127, Try.ntmps127
      go_wp2_with fail
      go_ret
      exact ⟨ret_bool Hf.out.symm, rfl⟩
    · have Hf : Hid (Tm.treOk zs = Tm.okAll zs) := by unfold Hid Tm.treOk; rw [decide_eq_true (by omega)]; rfl
      go_enter Try.func127, Try.ntmps127
      go_wp2_with fail
      go_loop [10] (fun i => ∃ k : Nat, k ≤ zs.length ∧ i = .int .i64 k ∧ ∀ j, j < k → Tm.okB (zs.getD j 0) = true) (fun i => zs.length - (intOf i).toNat)
      case atStart => exact ⟨0, Nat.zero_le _, rfl, fun j hj => absurd hj (Nat.not_lt_zero _)⟩
      case round =>
        obtain ⟨k, hk, rfl, hall⟩ := hrel
        by_cases hlt : k < zs.length
        · have hcell := hc k hlt
          rcases ho : Tm.okB (zs.getD k 0) with _ | _
          · have HE : Hid (Tm.okAll zs = false) := Tm.okAll_no hlt ho
            clear hc hall
            generalize zs.getD k 0 = x at *
            go_wp2_with (go_at_call 34; refine (c34 _ _).mono ?_; rintro e w' ⟨rfl, rfl⟩)
            go_ret
            exact ⟨ret_bool (by rw [Hf.out, HE.out]), rfl⟩
          · have HA : Hid (∀ j, j < k + 1 → Tm.okB (zs.getD j 0) = true) := by
              intro j hj
              by_cases e : j = k
              · subst e; exact ho
              · exact hall j (by omega)
            clear hc hall
            generalize zs.getD k 0 = x at *
            go_wp2_with (go_at_call 34; refine (c34 _ _).mono ?_; rintro e w' ⟨rfl, rfl⟩)
            go_round
            case rel => exact ⟨k + 1, by omega, by go_num, HA.out⟩
            case measure => simp [intOf]; omega
        · have hke : k = zs.length := by omega
          subst hke
          have HE : Hid (Tm.okAll zs = true) := Tm.okAll_yes hall
          clear hc hall
          go_wp2_with fail
          go_ret
          exact ⟨ret_bool (by rw [Hf.out, HE.out]), rfl⟩

set_option maxHeartbeats 1000000 in
theorem c173 (zs : List Int) (ao : Option Addr) (n cap : Nat) (w : World) (hn : zs.length = n) (hm : n ≤ 140737488355328) (hr : Row w ao zs) :
    Calls Try.prog 173 #[.slice ao n cap] w fun e w' => e = .returned (.bool (Tm.treOk zs)) ∧ w' = w := by
  subst hn
  obtain ⟨-, hr⟩ := hr
  by_cases h0 : zs = []
  · subst h0
    clear hr hm
    go_enter Try.func173, Try.ntmps173
    go_wp2_with fail
    refine wp_loop_rounds 1 ?_
    rw [rounds_succ]
    go_wp2_with fail
    go_ret
    exact ⟨rfl, rfl⟩
  · obtain ⟨b, off, rfl, hc⟩ := hr h0
    clear hr
    by_cases h1 : (40 : Int) < (zs.length : Int)
    · have Hf : Hid (Tm.treOk zs = false) := by unfold Hid Tm.treOk; rw [decide_eq_false (by omega)]; rfl
      clear hc
      go_enter Try.func173, Try.ntmps173
      go_wp2_with fail
      go_ret
      exact ⟨ret_bool Hf.out.symm, rfl⟩
    · have Hf : Hid (Tm.treOk zs = Tm.okAll zs) := by unfold Hid Tm.treOk; rw [decide_eq_true (by omega)]; rfl
      go_enter Try.func173, Try.ntmps173
      go_wp2_with fail
      go_loop [3] (fun i => ∃ k : Nat, k ≤ zs.length ∧ i = .int .i64 k ∧ ∀ j, j < k → Tm.okB (zs.getD j 0) = true) (fun i => zs.length - (intOf i).toNat)
      case atStart => exact ⟨0, Nat.zero_le _, rfl, fun j hj => absurd hj (Nat.not_lt_zero _)⟩
      case round =>
        obtain ⟨k, hk, rfl, hall⟩ := hrel
        by_cases hlt : k < zs.length
        · have hcell := hc k hlt
          rcases ho : Tm.okB (zs.getD k 0) with _ | _
          · have HE : Hid (Tm.okAll zs = false) := Tm.okAll_no hlt ho
            clear hc hall
            generalize zs.getD k 0 = x at *
            go_wp2_with (go_at_call 172; refine (c172 _ _).mono ?_; rintro e w' ⟨rfl, rfl⟩)
            go_ret
            exact ⟨ret_bool (by rw [Hf.out, HE.out]), rfl⟩
          · have HA : Hid (∀ j, j < k + 1 → Tm.okB (zs.getD j 0) = true) := by
              intro j hj
              by_cases e : j = k
              · subst e; exact ho
              · exact hall j (by omega)
            clear hc hall
            generalize zs.getD k 0 = x at *
            go_wp2_with (go_at_call 172; refine (c172 _ _).mono ?_; rintro e w' ⟨rfl, rfl⟩)
            go_round
            case rel => exact ⟨k + 1, by omega, by go_num, HA.out⟩
            case measure => simp [intOf]; omega
        · have hke : k = zs.length := by omega
          subst hke
          have HE : Hid (Tm.okAll zs = true) := Tm.okAll_yes hall
          clear hc hall
          go_wp2_with fail
          go_ret
          exact ⟨ret_bool (by rw [Hf.out, HE.out]), rfl⟩
end Go.Proofs.Ytjdnengmllamcaa
