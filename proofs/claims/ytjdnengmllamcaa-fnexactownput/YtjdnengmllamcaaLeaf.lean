/-
  The walks of leaves: MixLeaf of the program and of its model, over whatever list of numbers in memory.
-/
import Derived.Test.YtjdnengmllamcaaMix
namespace Go.Proofs.Ytjdnengmllamcaa
open Go.RowKit

/-- A slice of ints in memory: where there are elements, it leads to their cells, and each is an int. -/
def Row (w : World) (ao : Option Addr) (zs : List Int) : Prop :=
  (∀ z ∈ zs, -9223372036854775808 ≤ z ∧ z ≤ 9223372036854775807) ∧
  (zs ≠ [] → ∃ b off, ao = some ⟨b, off, none⟩ ∧ ∀ k, k < zs.length → w.cell? ⟨b, off + k, none⟩ = some (.int .i64 (zs.getD k 0)))

theorem tmod_bd (n : Int) : -65521 < n.tmod 65521 ∧ n.tmod 65521 < 65521 := by
  have h1 := Int.tmod_lt_of_pos n (b := 65521) (by omega)
  have h2 := Int.lt_tmod_of_pos n (b := 65521) (by omega)
  omega
theorem tmod_emod_neg (n : Int) (h : n.tmod 65521 < 0) : n.tmod 65521 + 65521 = n % 65521 := by
  have := Int.tmod_eq_emod (a := n) (b := 65521)
  split at this <;> omega
theorem tmod_emod_pos (n : Int) (h : 0 ≤ n.tmod 65521) : n.tmod 65521 = n % 65521 := by
  have := Int.tmod_eq_emod (a := n) (b := 65521)
  split at this <;> omega
theorem tmod_emod (n : Int) : n.tmod 65521 % 65521 = n % 65521 := by
  have := Int.tmod_eq_emod (a := n) (b := 65521)
  split at this <;> omega
theorem tmod_emod_spec (n : Int) : (n.tmod 65521 + 65521) % 65521 = n % 65521 := by
  have := Int.tmod_eq_emod (a := n) (b := 65521)
  split at this <;> omega

set_option maxHeartbeats 400000 in
theorem c165 (n : Int) (w : World) : Calls Try.prog 165 #[.int .i64 n] w fun e w' => e = .returned (.int .i64 (n % 65521)) ∧ w' = w := by
  have hb := tmod_bd n
  obtain ⟨b1, b2⟩ := hb
  by_cases h0 : n.tmod 65521 < 0
  · have Hf : Hid (n.tmod 65521 + 65521 = n % 65521) := tmod_emod_neg n h0
    go_enter Try.func165, Try.ntmps165
    go_wp2
    go_ret
    exact ⟨ret_int Hf.out, rfl⟩
  · have Hf : Hid (n.tmod 65521 = n % 65521) := tmod_emod_pos n (by omega)
    go_enter Try.func165, Try.ntmps165
    go_wp2
    go_ret
    exact ⟨ret_int Hf.out, rfl⟩

set_option maxHeartbeats 400000 in
theorem c148 (m n : Int) (w : World) (h1 : 0 ≤ m) (h2 : m < 65521) : Calls Try.prog 148 #[.int .i64 m, .int .i64 n] w fun e w' => e = .returned (.int .i64 (Tm.leafStep m n)) ∧ w' = w := by
  have b1 : 0 ≤ n % 65521 := by omega
  have b2 : n % 65521 < 65521 := by omega
  go_enter Try.func148, Try.ntmps148
  go_wp2_with (go_at_call 165; refine (c165 _ _).mono ?_; rintro e w' ⟨rfl, rfl⟩)
  go_ret
  exact ⟨rfl, rfl⟩

set_option maxHeartbeats 400000 in
theorem c149 (m n : Int) (w : World) (h1 : 0 ≤ m) (h2 : m < 65521) : Calls Try.prog 149 #[.int .i64 m, .int .i64 n] w fun e w' => e = .returned (.int .i64 ((m * 31 + n % 65521) % 65521)) ∧ w' = w := by
  have b1 : 0 ≤ n % 65521 := by omega
  have b2 : n % 65521 < 65521 := by omega
  go_enter Try.func149, Try.ntmps149
  go_wp2_with (go_at_call 165; refine (c165 _ _).mono ?_; rintro e w' ⟨rfl, rfl⟩)
  go_ret
  exact ⟨rfl, rfl⟩

theorem leaf_end (zs : List Int) : (Tm.leafTo zs 7 * 31 + (zs.length : Int) % 65521) % 65521 = Tm.leaf zs := by unfold Tm.leaf; omega

set_option maxHeartbeats 1000000 in
theorem c107 (zs : List Int) (ao : Option Addr) (n cap : Nat) (w : World) (hn : zs.length = n) (hm : n ≤ 140737488355328) (hr : Row w ao zs) :
    Calls Try.prog 107 #[.slice ao n cap] w fun e w' => e = .returned (.int .i64 (Tm.leaf zs)) ∧ w' = w := by
  subst hn
  obtain ⟨-, hr⟩ := hr
  by_cases h0 : zs = []
  · subst h0
    go_enter Try.func107, Try.ntmps107
    go_wp2_with fail
    refine wp_loop_rounds 1 ?_
    rw [rounds_succ]
    go_wp2_with (go_at_call 149; refine (c149 _ _ _ (by omega) (by omega)).mono ?_; rintro e w' ⟨rfl, rfl⟩)
    go_ret
    exact ⟨rfl, rfl⟩
  · obtain ⟨b, off, rfl, hc⟩ := hr h0
    clear hr
    go_enter Try.func107, Try.ntmps107
    go_wp2_with fail
    go_loop [3, 8] (fun m i => ∃ k : Nat, k ≤ zs.length ∧ i = .int .i64 k ∧ m = .int .i64 (Tm.leafTo (zs.take k) 7)) (fun _ i => zs.length - (intOf i).toNat)
    case atStart => exact ⟨0, Nat.zero_le _, rfl, rfl⟩
    case round =>
      obtain ⟨k, hk, rfl, rfl⟩ := hrel
      have hb := Tm.leafTo_bd (zs.take k) 7 (by omega)
      obtain ⟨b1, b2⟩ := hb
      by_cases hlt : k < zs.length
      · have hcell := hc k hlt
        have HS : Hid (Tm.leafTo (zs.take (k + 1)) 7 = Tm.leafStep (Tm.leafTo (zs.take k) 7) (zs.getD k 0)) := Tm.leafTo_take zs k 7 hlt
        generalize Tm.leafTo (zs.take k) 7 = m at *
        generalize zs.getD k 0 = x at *
        clear hc
        go_wp2_with (go_at_call 148; refine (c148 _ _ _ b1 b2).mono ?_; rintro e w' ⟨rfl, rfl⟩)
        go_round
        case rel => exact ⟨k + 1, by omega, by go_num, by rw [HS.out]⟩
        case measure => simp [intOf]; omega
      · have hke : k = zs.length := by omega
        subst hke
        have HE : Hid ((Tm.leafTo zs 7 * 31 + (zs.length : Int) % 65521) % 65521 = Tm.leaf zs) := leaf_end zs
        clear hc
        rw [List.take_length] at *
        go_wp2_with (go_at_call 149; refine (c149 _ _ _ b1 b2).mono ?_; rintro e w' ⟨rfl, rfl⟩)
        go_ret
        exact ⟨ret_int (by first | exact HE.out | rfl), rfl⟩

set_option maxHeartbeats 1000000 in
theorem c108 (zs : List Int) (ao : Option Addr) (n cap : Nat) (w : World) (hn : zs.length = n) (hm : n ≤ 140737488355328) (hr : Row w ao zs) :
    Calls Try.prog 108 #[.slice ao n cap] w fun e w' => e = .returned (.int .i64 (Tm.leaf zs)) ∧ w' = w := by
  subst hn
  obtain ⟨-, hr⟩ := hr
  by_cases h0 : zs = []
  · subst h0
    go_enter Try.func108, Try.ntmps108
    go_wp2_with fail
    refine wp_loop_rounds 1 ?_
    rw [rounds_succ]
    go_wp2_with fail
    go_ret
    exact ⟨rfl, rfl⟩
  · obtain ⟨b, off, rfl, hc⟩ := hr h0
    clear hr
    go_enter Try.func108, Try.ntmps108
    go_wp2_with fail
    go_loop [3, 4] (fun m i => ∃ k : Nat, k ≤ zs.length ∧ i = .int .i64 k ∧ m = .int .i64 (Tm.leafTo (zs.take k) 7)) (fun _ i => zs.length - (intOf i).toNat)
    case atStart => exact ⟨0, Nat.zero_le _, rfl, rfl⟩
    case round =>
      obtain ⟨k, hk, rfl, rfl⟩ := hrel
      have hb := Tm.leafTo_bd (zs.take k) 7 (by omega)
      obtain ⟨b1, b2⟩ := hb
      by_cases hlt : k < zs.length
      · have hcell := hc k hlt
        have HS : Hid (Tm.leafTo (zs.take (k + 1)) 7 = Tm.leafStep (Tm.leafTo (zs.take k) 7) (zs.getD k 0)) := Tm.leafTo_take zs k 7 hlt
        generalize Tm.leafTo (zs.take k) 7 = m at *
        generalize zs.getD k 0 = x at *
        have hb := tmod_bd x
        obtain ⟨c1, c2⟩ := hb
        clear hc
        go_wp2_with fail
        go_round
        case rel => exact ⟨k + 1, by omega, by go_num, by rw [HS.out]; unfold Tm.leafStep; rw [tmod_emod]⟩
        case measure => simp [intOf]; omega
      · have hke : k = zs.length := by omega
        subst hke
        have HE : Hid ((Tm.leafTo zs 7 * 31 + (zs.length : Int)) % 65521 = Tm.leaf zs) := rfl
        clear hc
        rw [List.take_length] at *
        go_wp2_with fail
        go_ret
        exact ⟨ret_int (by first | exact HE.out | rfl), rfl⟩
end Go.Proofs.Ytjdnengmllamcaa
