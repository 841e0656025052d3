/-
  Texts of the proof, what it needs of them: Mix.
-/
import Derived.BigQuiet
import Derived.Deep.QuietTactic
import Derived.Test.YtmlbphmbffkdnaaGreatGh00
import Derived.Test.YtmlbphmbffkdnaaGreatProg
import Derived.WalkKit
import Derived.WalkLawsBesides
import Derived.WalkSpells
namespace Go.Proofs.YtmlbphmbffkdnaaGreat
open Go.RowKit

theorem ret_int {k : IntKind} {a b : Int} (h : a = b) : Ending.returned (.int k a) = .returned (.int k b) := by rw [h]
theorem hide {p : Prop} (h : p) : Hid p := h
theorem unhide {p : Prop} (h : Hid p) : p := h
theorem ret_bool {a b : Bool} (h : a = b) : Ending.returned (.bool a) = .returned (.bool b) := by rw [h]

set_option maxHeartbeats 400000 in
theorem c46 (n : Int) (w : World) : Calls Tryz.prog 46 #[.int .i64 n] w fun e w' => e = .returned (.bool (Tm.okB n)) ∧ w' = w := by
  by_cases h0 : 0 ≤ n
  · go_enter Tryz.func46, Tryz.ntmps46
    go_wp2
    go_ret
    exact ⟨ret_bool (by simp [Tm.okB, h0]), rfl⟩
  · have h1 : decide (0 ≤ n) = false := by simpa using h0
    go_enter Tryz.func46, Tryz.ntmps46
    go_wp2
    go_ret
    exact ⟨ret_bool (by simp [Tm.okB]; omega), rfl⟩

set_option maxHeartbeats 400000 in
theorem c40 (n a b : Int) (w : World) : Calls Tryz.prog 40 #[.int .i64 n, .int .i64 a, .int .i64 b] w fun e w' => e = .returned (.bool (decide (a ≤ n ∧ n ≤ b))) ∧ w' = w := by
  by_cases h0 : a ≤ n
  · go_enter Tryz.func40, Tryz.ntmps40
    go_wp2
    go_ret
    exact ⟨ret_bool (by simp [h0]), rfl⟩
  · have h1 : decide (a ≤ n) = false := by simpa using h0
    go_enter Tryz.func40, Tryz.ntmps40
    go_wp2
    go_ret
    exact ⟨ret_bool (by simp), rfl⟩

set_option maxHeartbeats 400000 in
theorem c81 (n : Int) (w : World) : Calls Tryz.prog 81 #[.int .i64 n] w fun e w' => e = .returned (.bool (Tm.okB n)) ∧ w' = w := by
  go_enter Tryz.func81, Tryz.ntmps81
  go_wp2_with (go_at_call 40; refine (c40 _ _ _ _).mono ?_; rintro e w' ⟨rfl, rfl⟩)
  go_ret
  exact ⟨ret_bool (by rw [Bool.eq_iff_iff]; simp [Tm.okB]; omega), rfl⟩

set_option maxHeartbeats 400000 in
theorem c66 (a b : Int) (w : World) (ha : 0 ≤ a ∧ a < 65521) (hb : 0 ≤ b ∧ b < 65521) : Calls Tryz.prog 66 #[.int .i64 a, .int .i64 b] w fun e w' => e = .returned (.int .i64 (Tm.pairRaw a b)) ∧ w' = w := by
  have hm := Tm.mul_bd ha hb
  obtain ⟨m1, m2⟩ := hm
  obtain ⟨a1, a2⟩ := ha
  obtain ⟨b1, b2⟩ := hb
  go_enter Tryz.func66, Tryz.ntmps66
  go_wp2
  go_ret
  exact ⟨rfl, rfl⟩

set_option maxHeartbeats 400000 in
theorem c22 (a b : Int) (w : World) : Calls Tryz.prog 22 #[.int .i64 a, .int .i64 b] w fun e w' => e = .returned (.int .i64 (Tm.pair a b)) ∧ w' = w := by
  rcases hA : Tm.okB a with _ | _
  · have hf : Tm.pair a b = 0 := Tm.pair_no (by simp [hA])
    have Hf : Hid (Tm.pair a b = 0) := hf
    clear hf
    go_enter Tryz.func22, Tryz.ntmps22
    go_wp2_with (go_at_call 46; refine (c46 _ _).mono ?_; rintro e w' ⟨rfl, rfl⟩)
    go_ret
    exact ⟨ret_int Hf.out.symm, rfl⟩
  · rcases hB : Tm.okB b with _ | _
    · have hf : Tm.pair a b = 0 := Tm.pair_no (by simp [hB])
      have Hf : Hid (Tm.pair a b = 0) := hf
      clear hf
      go_enter Tryz.func22, Tryz.ntmps22
      go_wp2_with (go_at_call 46; refine (c46 _ _).mono ?_; rintro e w' ⟨rfl, rfl⟩)
      go_ret
      exact ⟨ret_int Hf.out.symm, rfl⟩
    · have Hf : Hid (Tm.pair a b = Tm.pairRaw a b) := Tm.pair_of hA hB
      have ha := (Tm.okB_iff _).1 hA
      have hb := (Tm.okB_iff _).1 hB
      go_enter Tryz.func22, Tryz.ntmps22
      go_wp2_with (first | (go_at_call 46; refine (c46 _ _).mono ?_; rintro e w' ⟨rfl, rfl⟩) | (go_at_call 66; refine (c66 _ _ _ ha hb).mono ?_; rintro e w' ⟨rfl, rfl⟩))
      go_ret
      exact ⟨ret_int Hf.out.symm, rfl⟩

set_option maxHeartbeats 400000 in
theorem c86 (a b : Int) (w : World) : Calls Tryz.prog 86 #[.int .i64 a, .int .i64 b] w fun e w' => e = .returned (.int .i64 (Tm.pair a b)) ∧ w' = w := by
  rcases hA : Tm.okB a with _ | _
  · have hf : Tm.pair a b = 0 := Tm.pair_no (by simp [hA])
    have Hf : Hid (Tm.pair a b = 0) := hf
    clear hf
    go_enter Tryz.func86, Tryz.ntmps86
    go_wp2_with (go_at_call 81; refine (c81 _ _).mono ?_; rintro e w' ⟨rfl, rfl⟩)
    go_ret
    exact ⟨ret_int Hf.out.symm, rfl⟩
  · rcases hB : Tm.okB b with _ | _
    · have hf : Tm.pair a b = 0 := Tm.pair_no (by simp [hB])
      have Hf : Hid (Tm.pair a b = 0) := hf
      clear hf
      go_enter Tryz.func86, Tryz.ntmps86
      go_wp2_with (go_at_call 81; refine (c81 _ _).mono ?_; rintro e w' ⟨rfl, rfl⟩)
      go_ret
      exact ⟨ret_int Hf.out.symm, rfl⟩
    · have Hf : Hid (Tm.pair a b = Tm.pairRaw a b) := Tm.pair_of hA hB
      have ha := (Tm.okB_iff _).1 hA
      have hb := (Tm.okB_iff _).1 hB
      have hm := Tm.mul_bd ha hb
      obtain ⟨m1, m2⟩ := hm
      obtain ⟨a1, a2⟩ := ha
      obtain ⟨b1, b2⟩ := hb
      go_enter Tryz.func86, Tryz.ntmps86
      go_wp2_with (go_at_call 81; refine (c81 _ _).mono ?_; rintro e w' ⟨rfl, rfl⟩)
      go_ret
      exact ⟨ret_int (by rw [Hf.out, ← Tm.pairRaw_spec]), rfl⟩

end Go.Proofs.YtmlbphmbffkdnaaGreat
namespace Go.Proofs.YtmlbphmbffkdnaaGreat
open Go.RowKit

/-- A slice of ints in memory: where there are elements, it leads to their cells, and each is an int. -/
def Row (w : World) (ao : Option Addr) (zs : List Int) : Prop :=
  (∀ z ∈ zs, -9223372036854775808 ≤ z ∧ z ≤ 9223372036854775807) ∧
  (zs ≠ [] → ∃ b off, ao = some ⟨b, off, none⟩ ∧ ∀ k, k < zs.length → w.cell? ⟨b, off + k, none⟩ = some (.int .i64 (zs.getD k 0)))

theorem tmod_bd (n : Int) : -65521 < n.tmod 65521 ∧ n.tmod 65521 < 65521 := by
  have h1 := Int.tmod_lt_of_pos n (b := 65521) (by omega)
  have h2 := Int.lt_tmod_of_pos n (b := 65521) (by omega)
  omega
theorem tmod_emod_neg (n : Int) (h : n.tmod 65521 < 0) : n.tmod 65521 + 65521 = n % 65521 := by
  have := Int.tmod_eq_emod (a := n) (b := 65521)
  split at this <;> omega
theorem tmod_emod_pos (n : Int) (h : 0 ≤ n.tmod 65521) : n.tmod 65521 = n % 65521 := by
  have := Int.tmod_eq_emod (a := n) (b := 65521)
  split at this <;> omega
theorem tmod_emod (n : Int) : n.tmod 65521 % 65521 = n % 65521 := by
  have := Int.tmod_eq_emod (a := n) (b := 65521)
  split at this <;> omega
set_option maxHeartbeats 400000 in
theorem c115 (n : Int) (w : World) : Calls Tryz.prog 115 #[.int .i64 n] w fun e w' => e = .returned (.int .i64 (n % 65521)) ∧ w' = w := by
  have hb := tmod_bd n
  obtain ⟨b1, b2⟩ := hb
  by_cases h0 : n.tmod 65521 < 0
  · have Hf : Hid (n.tmod 65521 + 65521 = n % 65521) := tmod_emod_neg n h0
    go_enter Tryz.func115, Tryz.ntmps115
    go_wp2
    go_ret
    exact ⟨ret_int Hf.out, rfl⟩
  · have Hf : Hid (n.tmod 65521 = n % 65521) := tmod_emod_pos n (by omega)
    go_enter Tryz.func115, Tryz.ntmps115
    go_wp2
    go_ret
    exact ⟨ret_int Hf.out, rfl⟩

set_option maxHeartbeats 400000 in
theorem c93 (m n : Int) (w : World) (h1 : 0 ≤ m) (h2 : m < 65521) : Calls Tryz.prog 93 #[.int .i64 m, .int .i64 n] w fun e w' => e = .returned (.int .i64 (Tm.leafStep m n)) ∧ w' = w := by
  have b1 : 0 ≤ n % 65521 := by omega
  have b2 : n % 65521 < 65521 := by omega
  go_enter Tryz.func93, Tryz.ntmps93
  go_wp2_with (go_at_call 115; refine (c115 _ _).mono ?_; rintro e w' ⟨rfl, rfl⟩)
  go_ret
  exact ⟨rfl, rfl⟩

set_option maxHeartbeats 400000 in
theorem c94 (m n : Int) (w : World) (h1 : 0 ≤ m) (h2 : m < 65521) : Calls Tryz.prog 94 #[.int .i64 m, .int .i64 n] w fun e w' => e = .returned (.int .i64 ((m * 31 + n % 65521) % 65521)) ∧ w' = w := by
  have b1 : 0 ≤ n % 65521 := by omega
  have b2 : n % 65521 < 65521 := by omega
  go_enter Tryz.func94, Tryz.ntmps94
  go_wp2_with (go_at_call 115; refine (c115 _ _).mono ?_; rintro e w' ⟨rfl, rfl⟩)
  go_ret
  exact ⟨rfl, rfl⟩

theorem leaf_end (zs : List Int) : (Tm.leafTo zs 7 * 31 + (zs.length : Int) % 65521) % 65521 = Tm.leaf zs := by unfold Tm.leaf; omega

set_option maxHeartbeats 1000000 in
theorem c62 (zs : List Int) (ao : Option Addr) (n cap : Nat) (w : World) (hn : zs.length = n) (hm : n ≤ 140737488355328) (hr : Row w ao zs) :
    Calls Tryz.prog 62 #[.slice ao n cap] w fun e w' => e = .returned (.int .i64 (Tm.leaf zs)) ∧ w' = w := by
  subst hn
  obtain ⟨-, hr⟩ := hr
  by_cases h0 : zs = []
  · subst h0
    go_enter Tryz.func62, Tryz.ntmps62
    go_wp2_with fail
    refine wp_loop_rounds 1 ?_
    rw [rounds_succ]
    go_wp2_with (go_at_call 94; refine (c94 _ _ _ (by omega) (by omega)).mono ?_; rintro e w' ⟨rfl, rfl⟩)
    go_ret
    exact ⟨rfl, rfl⟩
  · obtain ⟨b, off, rfl, hc⟩ := hr h0
    clear hr
    go_enter Tryz.func62, Tryz.ntmps62
    go_wp2_with fail
    go_loop [3, 8] (fun m i => ∃ k : Nat, k ≤ zs.length ∧ i = .int .i64 k ∧ m = .int .i64 (Tm.leafTo (zs.take k) 7)) (fun _ i => zs.length - (intOf i).toNat)
    case atStart => exact ⟨0, Nat.zero_le _, rfl, rfl⟩
    case round =>
      obtain ⟨k, hk, rfl, rfl⟩ := hrel
      have hb := Tm.leafTo_bd (zs.take k) 7 (by omega)
      obtain ⟨b1, b2⟩ := hb
      by_cases hlt : k < zs.length
      · have hcell := hc k hlt
        have HS : Hid (Tm.leafTo (zs.take (k + 1)) 7 = Tm.leafStep (Tm.leafTo (zs.take k) 7) (zs.getD k 0)) := Tm.leafTo_take zs k 7 hlt
        generalize Tm.leafTo (zs.take k) 7 = m at *
        generalize zs.getD k 0 = x at *
        clear hc
        go_wp2_with (go_at_call 93; refine (c93 _ _ _ b1 b2).mono ?_; rintro e w' ⟨rfl, rfl⟩)
        go_round
        case rel => exact ⟨k + 1, by omega, by go_num, by rw [HS.out]⟩
        case measure => simp [intOf]; omega
      · have hke : k = zs.length := by omega
        subst hke
        have HE : Hid ((Tm.leafTo zs 7 * 31 + (zs.length : Int) % 65521) % 65521 = Tm.leaf zs) := leaf_end zs
        clear hc
        rw [List.take_length] at *
        go_wp2_with (go_at_call 94; refine (c94 _ _ _ b1 b2).mono ?_; rintro e w' ⟨rfl, rfl⟩)
        go_ret
        exact ⟨ret_int (by first | exact HE.out | rfl), rfl⟩

set_option maxHeartbeats 1000000 in
theorem c107 (zs : List Int) (ao : Option Addr) (n cap : Nat) (w : World) (hn : zs.length = n) (hm : n ≤ 140737488355328) (hr : Row w ao zs) :
    Calls Tryz.prog 107 #[.slice ao n cap] w fun e w' => e = .returned (.int .i64 (Tm.leaf zs)) ∧ w' = w := by
  subst hn
  obtain ⟨-, hr⟩ := hr
  by_cases h0 : zs = []
  · subst h0
    go_enter Tryz.func107, Tryz.ntmps107
    go_wp2_with fail
    refine wp_loop_rounds 1 ?_
    rw [rounds_succ]
    go_wp2_with fail
    go_ret
    exact ⟨rfl, rfl⟩
  · obtain ⟨b, off, rfl, hc⟩ := hr h0
    clear hr
    go_enter Tryz.func107, Tryz.ntmps107
    go_wp2_with fail
    go_loop [3, 4] (fun m i => ∃ k : Nat, k ≤ zs.length ∧ i = .int .i64 k ∧ m = .int .i64 (Tm.leafTo (zs.take k) 7)) (fun _ i => zs.length - (intOf i).toNat)
    case atStart => exact ⟨0, Nat.zero_le _, rfl, rfl⟩
    case round =>
      obtain ⟨k, hk, rfl, rfl⟩ := hrel
      have hb := Tm.leafTo_bd (zs.take k) 7 (by omega)
      obtain ⟨b1, b2⟩ := hb
      by_cases hlt : k < zs.length
      · have hcell := hc k hlt
        have HS : Hid (Tm.leafTo (zs.take (k + 1)) 7 = Tm.leafStep (Tm.leafTo (zs.take k) 7) (zs.getD k 0)) := Tm.leafTo_take zs k 7 hlt
        generalize Tm.leafTo (zs.take k) 7 = m at *
        generalize zs.getD k 0 = x at *
        have hb := tmod_bd x
        obtain ⟨c1, c2⟩ := hb
        clear hc
        go_wp2_with fail
        go_round
        case rel => exact ⟨k + 1, by omega, by go_num, by rw [HS.out]; unfold Tm.leafStep; rw [tmod_emod]⟩
        case measure => simp [intOf]; omega
      · have hke : k = zs.length := by omega
        subst hke
        have HE : Hid ((Tm.leafTo zs 7 * 31 + (zs.length : Int)) % 65521 = Tm.leaf zs) := rfl
        clear hc
        rw [List.take_length] at *
        go_wp2_with fail
        go_ret
        exact ⟨ret_int (by first | exact HE.out | rfl), rfl⟩
end Go.Proofs.YtmlbphmbffkdnaaGreat
namespace Go.Proofs.YtmlbphmbffkdnaaGreat
open Go.RowKit

set_option maxHeartbeats 1000000 in
theorem c95 (n : Int) (w : World) : Calls Tryz.prog 95 #[.int .i64 n] w fun e w' => e = .returned (.int .i64 (Tm.treSplit n)) ∧ w' = w := by
  by_cases h0 : n < 2
  · have Hf : Hid (Tm.treSplit n = 0) := Tm.treSplit_no (Or.inl h0)
    go_enter Tryz.func95, Tryz.ntmps95
    go_wp2_with fail
    go_ret
    exact ⟨ret_int Hf.out.symm, rfl⟩
  · have h0' : decide (n < 2) = false := by simpa using h0
    by_cases h1 : 40 < n
    · have Hf : Hid (Tm.treSplit n = 0) := Tm.treSplit_no (Or.inr h1)
      go_enter Tryz.func95, Tryz.ntmps95
      go_wp2_with fail
      go_ret
      exact ⟨ret_int Hf.out.symm, rfl⟩
    · have h1' : decide (40 < n) = false := by simpa using h1
      have Hf : Hid (Tm.treSplit n = Tm.split n) := Tm.treSplit_of (by omega) (by omega)
      go_enter Tryz.func95, Tryz.ntmps95
      go_wp2_with fail
      go_loop [3] (fun t => ∃ k : Int, (k = 1 ∨ k = 2 ∨ k = 4 ∨ k = 8 ∨ k = 16 ∨ k = 32) ∧ k < n ∧ t = .int .i64 k) (fun t => (64 - intOf t).toNat)
      case atStart => exact ⟨1, by omega, by omega, rfl⟩
      case round =>
        obtain ⟨k, hk, hkn, rfl⟩ := hrel
        have k1 : 1 ≤ k := by omega
        have k2 : k ≤ 32 := by omega
        by_cases hlt : 2 * k < n
        · have HK : Hid (k = 1 ∨ k = 2 ∨ k = 4 ∨ k = 8 ∨ k = 16 ∨ k = 32) := hk
          clear hk
          go_wp2_with fail
          go_round
          case rel => exact ⟨k * 2, by have := HK.out; omega, by omega, rfl⟩
          case measure => simp [intOf]; omega
        · have HE : Hid (k = Tm.split n) := Tm.split_eq hk hkn (by omega)
          clear hk
          go_wp2_with fail
          go_ret
          exact ⟨ret_int (by rw [Hf.out, ← HE.out]), rfl⟩

set_option maxHeartbeats 1000000 in
theorem c85 (n : Int) (w : World) : Calls Tryz.prog 85 #[.int .i64 n] w fun e w' => e = .returned (.int .i64 (Tm.treSplit n)) ∧ w' = w := by
  by_cases h0 : 2 ≤ n ∧ n ≤ 40
  · have Hf : Hid (Tm.treSplit n = Tm.split n) := Tm.treSplit_of (by omega) (by omega)
    obtain ⟨h1, h2⟩ := h0
    go_enter Tryz.func85, Tryz.ntmps85
    go_wp2_with (go_at_call 40; refine (c40 _ _ _ _).mono ?_; rintro e w' ⟨rfl, rfl⟩)
    go_loop [3] (fun t => ∃ k : Int, (k = 1 ∨ k = 2 ∨ k = 4 ∨ k = 8 ∨ k = 16 ∨ k = 32) ∧ k < n ∧ t = .int .i64 k) (fun t => (64 - intOf t).toNat)
    case atStart => exact ⟨1, by omega, by omega, rfl⟩
    case round =>
      obtain ⟨k, hk, hkn, rfl⟩ := hrel
      have k1 : 1 ≤ k := by omega
      have k2 : k ≤ 32 := by omega
      by_cases hlt : 2 * k < n
      · have HK : Hid (k = 1 ∨ k = 2 ∨ k = 4 ∨ k = 8 ∨ k = 16 ∨ k = 32) := hk
        clear hk
        go_wp2_with fail
        go_round
        case rel => exact ⟨2 * k, by have := HK.out; omega, by omega, rfl⟩
        case measure => simp [intOf]; omega
      · have HE : Hid (k = Tm.split n) := Tm.split_eq hk hkn (by omega)
        clear hk
        go_wp2_with fail
        go_ret
        exact ⟨ret_int (by rw [Hf.out, ← HE.out]), rfl⟩
  · have Hf : Hid (Tm.treSplit n = 0) := Tm.treSplit_no (by omega)
    have hd : decide (2 ≤ n ∧ n ≤ 40) = false := by simpa using h0
    clear h0
    go_enter Tryz.func85, Tryz.ntmps85
    go_wp2_with (go_at_call 40; refine (c40 _ _ _ _).mono ?_; rintro e w' ⟨rfl, rfl⟩)
    go_ret
    exact ⟨ret_int Hf.out.symm, rfl⟩

set_option maxHeartbeats 1000000 in
theorem c63 (zs : List Int) (ao : Option Addr) (n cap : Nat) (w : World) (hn : zs.length = n) (hm : n ≤ 140737488355328) (hr : Row w ao zs) :
    Calls Tryz.prog 63 #[.slice ao n cap] w fun e w' => e = .returned (.bool (Tm.treOk zs)) ∧ w' = w := by
  subst hn
  obtain ⟨-, hr⟩ := hr
  by_cases h0 : zs = []
  · subst h0
    clear hr hm
    go_enter Tryz.func63, Tryz.ntmps63
    go_wp2_with fail
    refine wp_loop_rounds 1 ?_
    rw [rounds_succ]
    go_wp2_with fail
    go_ret
    exact ⟨rfl, rfl⟩
  · obtain ⟨b, off, rfl, hc⟩ := hr h0
    clear hr
    by_cases h1 : (40 : Int) < (zs.length : Int)
    · have Hf : Hid (Tm.treOk zs = false) := by unfold Hid Tm.treOk; rw [decide_eq_false (by omega)]; rfl
      clear hc
      go_enter Tryz.func63, Tryz.ntmps63
      go_wp2_with fail
      go_ret
      exact ⟨ret_bool Hf.out.symm, rfl⟩
    · have Hf : Hid (Tm.treOk zs = Tm.okAll zs) := by unfold Hid Tm.treOk; rw [decide_eq_true (by omega)]; rfl
      go_enter Tryz.func63, Tryz.ntmps63
      go_wp2_with fail
      go_loop [10] (fun i => ∃ k : Nat, k ≤ zs.length ∧ i = .int .i64 k ∧ ∀ j, j < k → Tm.okB (zs.getD j 0) = true) (fun i => zs.length - (intOf i).toNat)
      case atStart => exact ⟨0, Nat.zero_le _, rfl, fun j hj => absurd hj (Nat.not_lt_zero _)⟩
      case round =>
        obtain ⟨k, hk, rfl, hall⟩ := hrel
        by_cases hlt : k < zs.length
        · have hcell := hc k hlt
          rcases ho : Tm.okB (zs.getD k 0) with _ | _
          · have HE : Hid (Tm.okAll zs = false) := Tm.okAll_no hlt ho
            clear hc hall
            generalize zs.getD k 0 = x at *
            go_wp2_with (go_at_call 46; refine (c46 _ _).mono ?_; rintro e w' ⟨rfl, rfl⟩)
            go_ret
            exact ⟨ret_bool (by rw [Hf.out, HE.out]), rfl⟩
          · have HA : Hid (∀ j, j < k + 1 → Tm.okB (zs.getD j 0) = true) := by
              intro j hj
              by_cases e : j = k
              · subst e; exact ho
              · exact hall j (by omega)
            clear hc hall
            generalize zs.getD k 0 = x at *
            go_wp2_with (go_at_call 46; refine (c46 _ _).mono ?_; rintro e w' ⟨rfl, rfl⟩)
            go_round
            case rel => exact ⟨k + 1, by omega, by go_num, HA.out⟩
            case measure => simp [intOf]; omega
        · have hke : k = zs.length := by omega
          subst hke
          have HE : Hid (Tm.okAll zs = true) := Tm.okAll_yes hall
          clear hc hall
          go_wp2_with fail
          go_ret
          exact ⟨ret_bool (by rw [Hf.out, HE.out]), rfl⟩

set_option maxHeartbeats 1000000 in
theorem c120 (zs : List Int) (ao : Option Addr) (n cap : Nat) (w : World) (hn : zs.length = n) (hm : n ≤ 140737488355328) (hr : Row w ao zs) :
    Calls Tryz.prog 120 #[.slice ao n cap] w fun e w' => e = .returned (.bool (Tm.treOk zs)) ∧ w' = w := by
  subst hn
  obtain ⟨-, hr⟩ := hr
  by_cases h0 : zs = []
  · subst h0
    clear hr hm
    go_enter Tryz.func120, Tryz.ntmps120
    go_wp2_with fail
    refine wp_loop_rounds 1 ?_
    rw [rounds_succ]
    go_wp2_with fail
    go_ret
    exact ⟨rfl, rfl⟩
  · obtain ⟨b, off, rfl, hc⟩ := hr h0
    clear hr
    by_cases h1 : (40 : Int) < (zs.length : Int)
    · have Hf : Hid (Tm.treOk zs = false) := by unfold Hid Tm.treOk; rw [decide_eq_false (by omega)]; rfl
      clear hc
      go_enter Tryz.func120, Tryz.ntmps120
      go_wp2_with fail
      go_ret
      exact ⟨ret_bool Hf.out.symm, rfl⟩
    · have Hf : Hid (Tm.treOk zs = Tm.okAll zs) := by unfold Hid Tm.treOk; rw [decide_eq_true (by omega)]; rfl
      go_enter Tryz.func120, Tryz.ntmps120
      go_wp2_with fail
      go_loop [3] (fun i => ∃ k : Nat, k ≤ zs.length ∧ i = .int .i64 k ∧ ∀ j, j < k → Tm.okB (zs.getD j 0) = true) (fun i => zs.length - (intOf i).toNat)
      case atStart => exact ⟨0, Nat.zero_le _, rfl, fun j hj => absurd hj (Nat.not_lt_zero _)⟩
      case round =>
        obtain ⟨k, hk, rfl, hall⟩ := hrel
        by_cases hlt : k < zs.length
        · have hcell := hc k hlt
          rcases ho : Tm.okB (zs.getD k 0) with _ | _
          · have HE : Hid (Tm.okAll zs = false) := Tm.okAll_no hlt ho
            clear hc hall
            generalize zs.getD k 0 = x at *
            go_wp2_with (go_at_call 81; refine (c81 _ _).mono ?_; rintro e w' ⟨rfl, rfl⟩)
            go_ret
            exact ⟨ret_bool (by rw [Hf.out, HE.out]), rfl⟩
          · have HA : Hid (∀ j, j < k + 1 → Tm.okB (zs.getD j 0) = true) := by
              intro j hj
              by_cases e : j = k
              · subst e; exact ho
              · exact hall j (by omega)
            clear hc hall
            generalize zs.getD k 0 = x at *
            go_wp2_with (go_at_call 81; refine (c81 _ _).mono ?_; rintro e w' ⟨rfl, rfl⟩)
            go_round
            case rel => exact ⟨k + 1, by omega, by go_num, HA.out⟩
            case measure => simp [intOf]; omega
        · have hke : k = zs.length := by omega
          subst hke
          have HE : Hid (Tm.okAll zs = true) := Tm.okAll_yes hall
          clear hc hall
          go_wp2_with fail
          go_ret
          exact ⟨ret_bool (by rw [Hf.out, HE.out]), rfl⟩
end Go.Proofs.YtmlbphmbffkdnaaGreat
namespace Go.Proofs.YtmlbphmbffkdnaaGreat
open Go.RowKit

theorem Tryz.info3 : (Tryz.prog.info? 3).map (fun i => (i.zero, i.size, i.bytes)) = some (some (.int .i64 0), 1, 8) := by kernel_rfl

/-- An int fits into 64 bits. -/
def Fits (zs : List Int) : Prop := ∀ z ∈ zs, -9223372036854775808 ≤ z ∧ z ≤ 9223372036854775807

/-- The slice v is the call's own, from block 'base' on, and holds these numbers. -/
def Own (w : World) (base : Nat) (v : Value) (zs : List Int) : Prop :=
  Fits zs ∧ w.ownsRow base 3 1 v zs.length (zs.map (Value.int .i64))

theorem cells_of_own {w : World} {base g n cap : Nat} {zs : List Int} (h : w.ownsRow base 3 1 (.slice (some ⟨g, 0, none⟩) n cap) n (zs.map (Value.int .i64))) (hn : zs.length = n) :
    ∀ k, k < n → w.cell? ⟨g, 0 + k, none⟩ = some (.int .i64 (zs.getD k 0)) := by
  intro k hk
  rw [Nat.zero_add, h.cellAt k (by omega)]
  simp [List.getD, List.getElem?_eq_getElem (show k < zs.length by omega)]

/-- What is owned can be read. -/
theorem Own.row {w : World} {base : Nat} {v : Value} {zs : List Int} (h : Own w base v zs) :
    ∃ ao cap, v = .slice ao zs.length cap ∧ zs.length ≤ cap ∧ Row w ao zs ∧ (∀ a, ao = some a → base ≤ a.block ∧ a.block < w.heap.size) := by
  obtain ⟨hf, ho⟩ := h
  have hlt := ho.lt
  rcases ho.2 with ⟨hv, hz⟩ | ⟨g, cap, cur, hv, hb, hh, hnc, hcm, hcs, htake⟩
  · subst hv
    have : zs = [] := List.eq_nil_of_length_eq_zero hz
    subst this
    exact ⟨none, 0, rfl, Nat.le_refl _, ⟨hf, fun h => absurd rfl h⟩, fun a h => by cases h⟩
  · subst hv
    refine ⟨some ⟨g, 0, none⟩, cap, rfl, hnc, ⟨hf, fun _ => ⟨g, 0, rfl, cells_of_own ho rfl⟩⟩, ?_⟩
    intro a ha
    cases ha
    exact hlt g rfl

theorem Row.below {w w' : World} {ao : Option Addr} {zs : List Int} (h : Row w ao zs) {B : Nat} (hb : Below B w w') (hB : w.heap.size ≤ B) : Row w' ao zs := by
  refine ⟨h.1, fun hne => ?_⟩
  obtain ⟨b, off, rfl, hc⟩ := h.2 hne
  refine ⟨b, off, rfl, fun k hk => ?_⟩
  have h1 := hc k hk
  have h2 := World.block_lt_of_cell? w _ h1
  rw [hb.cell (p := ⟨b, off + k, none⟩) (Nat.lt_of_lt_of_le h2 hB)]
  exact h1
theorem Row.kept {w w' : World} {ao : Option Addr} {zs : List Int} {row : Option Nat} (h : Row w ao zs) (hg : w.grownBy w' row) (hne : ∀ a, ao = some a → some a.block ≠ row) : Row w' ao zs := by
  refine ⟨h.1, fun hne' => ?_⟩
  obtain ⟨b, off, rfl, hc⟩ := h.2 hne'
  exact ⟨b, off, rfl, fun k hk => hg.cell (hc k hk) (hne ⟨b, off, none⟩ rfl)⟩

/-- the first so many, as Go cuts them -/
theorem Row.take {w : World} {ao : Option Addr} {zs : List Int} (h : Row w ao zs) (k : Nat) : Row w ao (zs.take k) := by
  refine ⟨fun z hz => h.1 z (List.mem_of_mem_take hz), fun hne => ?_⟩
  have hz : zs ≠ [] := by intro e; subst e; simp at hne
  obtain ⟨b, off, rfl, hc⟩ := h.2 hz
  refine ⟨b, off, rfl, fun j hj => ?_⟩
  simp only [List.length_take] at hj
  rw [hc j (by omega)]
  simp [List.getD, show j < k by omega]
theorem Row.drop {w : World} {b off : Nat} {zs : List Int} (h : Row w (some ⟨b, off, none⟩) zs) (k : Nat) : Row w (some ⟨b, off + k, none⟩) (zs.drop k) := by
  refine ⟨fun z hz => h.1 z (List.mem_of_mem_drop hz), fun hne => ?_⟩
  have hz : zs ≠ [] := by intro e; subst e; simp at hne
  obtain ⟨b', off', e, hc⟩ := h.2 hz
  simp only [Option.some.injEq, Addr.mk.injEq, and_true] at e
  obtain ⟨rfl, rfl⟩ := e
  refine ⟨b, off + k, rfl, fun j hj => ?_⟩
  simp only [List.length_drop] at hj
  rw [Nat.add_assoc, hc (k + j) (by omega)]
  simp [List.getD]

end Go.Proofs.YtmlbphmbffkdnaaGreat
