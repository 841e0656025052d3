/-
  The walks of mixing: what MixOk, MixPair, MixLeaf of the program and of its model answer, at every number and every list of numbers.
-/
import Derived.Test.YtchmjimfpamoeaaRows
import Derived.Test.YtchmjimfpamoeaaMath
import Derived.WalkKit
import Derived.WalkSpells
import Derived.WalkLawsBesides
namespace Go.Proofs.Ytchmjimfpamoeaa
open Go.RowKit

theorem ret_int {k : IntKind} {a b : Int} (h : a = b) : Ending.returned (.int k a) = .returned (.int k b) := by rw [h]
theorem hide {p : Prop} (h : p) : Hid p := h
theorem unhide {p : Prop} (h : Hid p) : p := h
theorem ret_bool {a b : Bool} (h : a = b) : Ending.returned (.bool a) = .returned (.bool b) := by rw [h]

set_option maxHeartbeats 400000 in
theorem c40 (n : Int) (w : World) : Calls Try.prog 40 #[.int .i64 n] w fun e w' => e = .returned (.bool (Tm.okB n)) ∧ w' = w := by
  by_cases h0 : 0 ≤ n
  · go_enter Try.func40, Try.ntmps40
    go_wp2
    go_ret
    exact ⟨ret_bool (by simp [Tm.okB, h0]), rfl⟩
  · have h1 : decide (0 ≤ n) = false := by simpa using h0
    go_enter Try.func40, Try.ntmps40
    go_wp2
    go_ret
    exact ⟨ret_bool (by simp [Tm.okB]; omega), rfl⟩

set_option maxHeartbeats 400000 in
theorem c98 (n a b : Int) (w : World) : Calls Try.prog 98 #[.int .i64 n, .int .i64 a, .int .i64 b] w fun e w' => e = .returned (.bool (decide (a ≤ n ∧ n ≤ b))) ∧ w' = w := by
  by_cases h0 : a ≤ n
  · go_enter Try.func98, Try.ntmps98
    go_wp2
    go_ret
    exact ⟨ret_bool (by simp [h0]), rfl⟩
  · have h1 : decide (a ≤ n) = false := by simpa using h0
    go_enter Try.func98, Try.ntmps98
    go_wp2
    go_ret
    exact ⟨ret_bool (by simp), rfl⟩

set_option maxHeartbeats 400000 in
theorem c153 (n : Int) (w : World) : Calls Try.prog 153 #[.int .i64 n] w fun e w' => e = .returned (.bool (Tm.okB n)) ∧ w' = w := by
  go_enter Try.func153, Try.ntmps153
  go_wp2_with (go_at_call 98; refine (c98 _ _ _ _).mono ?_; rintro e w' ⟨rfl, rfl⟩)
  go_ret
  exact ⟨ret_bool (by rw [Bool.eq_iff_iff]; simp [Tm.okB]; omega), rfl⟩

set_option maxHeartbeats 400000 in
theorem c126 (a b : Int) (w : World) (ha : 0 ≤ a ∧ a < 65521) (hb : 0 ≤ b ∧ b < 65521) : Calls Try.prog 126 #[.int .i64 a, .int .i64 b] w fun e w' => e = .returned (.int .i64 (Tm.pairRaw a b)) ∧ w' = w := by
  have hm := Tm.mul_bd ha hb
  obtain ⟨m1, m2⟩ := hm
  obtain ⟨a1, a2⟩ := ha
  obtain ⟨b1, b2⟩ := hb
  go_enter Try.func126, Try.ntmps126
  go_wp2
  go_ret
  exact ⟨rfl, rfl⟩

set_option maxHeartbeats 400000 in
theorem c71 (a b : Int) (w : World) : Calls Try.prog 71 #[.int .i64 a, .int .i64 b] w fun e w' => e = .returned (.int .i64 (Tm.pair a b)) ∧ w' = w := by
  rcases hA : Tm.okB a with _ | _
  · have hf : Tm.pair a b = 0 := Tm.pair_no (by simp [hA])
    have Hf : Hid (Tm.pair a b = 0) := hf
    clear hf
    go_enter Try.func71, Try.ntmps71
    go_wp2_with (go_at_call 40; refine (c40 _ _).mono ?_; rintro e w' ⟨rfl, rfl⟩)
    go_ret
    exact ⟨ret_int Hf.out.symm, rfl⟩
  · rcases hB : Tm.okB b with _ | _
    · have hf : Tm.pair a b = 0 := Tm.pair_no (by simp [hB])
      have Hf : Hid (Tm.pair a b = 0) := hf
      clear hf
      go_enter Try.func71, Try.ntmps71
      go_wp2_with (go_at_call 40; refine (c40 _ _).mono ?_; rintro e w' ⟨rfl, rfl⟩)
      go_ret
      exact ⟨ret_int Hf.out.symm, rfl⟩
    · have Hf : Hid (Tm.pair a b = Tm.pairRaw a b) := Tm.pair_of hA hB
      have ha := (Tm.okB_iff _).1 hA
      have hb := (Tm.okB_iff _).1 hB
      go_enter Try.func71, Try.ntmps71
      go_wp2_with (first | (go_at_call 40; refine (c40 _ _).mono ?_; rintro e w' ⟨rfl, rfl⟩) | (go_at_call 126; refine (c126 _ _ _ ha hb).mono ?_; rintro e w' ⟨rfl, rfl⟩))
      go_ret
      exact ⟨ret_int Hf.out.symm, rfl⟩

set_option maxHeartbeats 400000 in
theorem c138 (a b : Int) (w : World) : Calls Try.prog 138 #[.int .i64 a, .int .i64 b] w fun e w' => e = .returned (.int .i64 (Tm.pair a b)) ∧ w' = w := by
  rcases hA : Tm.okB a with _ | _
  · have hf : Tm.pair a b = 0 := Tm.pair_no (by simp [hA])
    have Hf : Hid (Tm.pair a b = 0) := hf
    clear hf
    go_enter Try.func138, Try.ntmps138
    go_wp2_with (go_at_call 153; refine (c153 _ _).mono ?_; rintro e w' ⟨rfl, rfl⟩)
    go_ret
    exact ⟨ret_int Hf.out.symm, rfl⟩
  · rcases hB : Tm.okB b with _ | _
    · have hf : Tm.pair a b = 0 := Tm.pair_no (by simp [hB])
      have Hf : Hid (Tm.pair a b = 0) := hf
      clear hf
      go_enter Try.func138, Try.ntmps138
      go_wp2_with (go_at_call 153; refine (c153 _ _).mono ?_; rintro e w' ⟨rfl, rfl⟩)
      go_ret
      exact ⟨ret_int Hf.out.symm, rfl⟩
    · have Hf : Hid (Tm.pair a b = Tm.pairRaw a b) := Tm.pair_of hA hB
      have ha := (Tm.okB_iff _).1 hA
      have hb := (Tm.okB_iff _).1 hB
      have hm := Tm.mul_bd ha hb
      obtain ⟨m1, m2⟩ := hm
      obtain ⟨a1, a2⟩ := ha
      obtain ⟨b1, b2⟩ := hb
      go_enter Try.func138, Try.ntmps138
      go_wp2_with (go_at_call 153; refine (c153 _ _).mono ?_; rintro e w' ⟨rfl, rfl⟩)
      go_ret
      exact ⟨ret_int (by rw [Hf.out, ← Tm.pairRaw_spec]), rfl⟩

end Go.Proofs.Ytchmjimfpamoeaa
