/-
  The walks of mixing: what MixOk, MixPair, MixLeaf of the program and of its model answer, at every number and every list of numbers.
-/
import Derived.Test.YtiockogogfoojaaRows
import Derived.Test.YtiockogogfoojaaMath
import Derived.WalkKit
import Derived.WalkSpells
import Derived.WalkLawsBesides
namespace Go.Proofs.Ytiockogogfoojaa
open Go.RowKit

theorem ret_int {k : IntKind} {a b : Int} (h : a = b) : Ending.returned (.int k a) = .returned (.int k b) := by rw [h]
theorem hide {p : Prop} (h : p) : Hid p := h
theorem unhide {p : Prop} (h : Hid p) : p := h
theorem ret_bool {a b : Bool} (h : a = b) : Ending.returned (.bool a) = .returned (.bool b) := by rw [h]

set_option maxHeartbeats 400000 in
theorem c27 (n : Int) (w : World) : Calls Try.prog 27 #[.int .i64 n] w fun e w' => e = .returned (.bool (Tm.okB n)) ∧ w' = w := by
  by_cases h0 : 0 ≤ n
  · go_enter Try.func27, Try.ntmps27
    go_wp2
    go_ret
    exact ⟨ret_bool (by simp [Tm.okB, h0]), rfl⟩
  · have h1 : decide (0 ≤ n) = false := by simpa using h0
    go_enter Try.func27, Try.ntmps27
    go_wp2
    go_ret
    exact ⟨ret_bool (by simp [Tm.okB]; omega), rfl⟩

set_option maxHeartbeats 400000 in
theorem c62 (n a b : Int) (w : World) : Calls Try.prog 62 #[.int .i64 n, .int .i64 a, .int .i64 b] w fun e w' => e = .returned (.bool (decide (a ≤ n ∧ n ≤ b))) ∧ w' = w := by
  by_cases h0 : a ≤ n
  · go_enter Try.func62, Try.ntmps62
    go_wp2
    go_ret
    exact ⟨ret_bool (by simp [h0]), rfl⟩
  · have h1 : decide (a ≤ n) = false := by simpa using h0
    go_enter Try.func62, Try.ntmps62
    go_wp2
    go_ret
    exact ⟨ret_bool (by simp), rfl⟩

set_option maxHeartbeats 400000 in
theorem c28 (n : Int) (w : World) : Calls Try.prog 28 #[.int .i64 n] w fun e w' => e = .returned (.bool (Tm.okB n)) ∧ w' = w := by
  go_enter Try.func28, Try.ntmps28
  go_wp2_with (go_at_call 62; refine (c62 _ _ _ _).mono ?_; rintro e w' ⟨rfl, rfl⟩)
  go_ret
  exact ⟨ret_bool (by rw [Bool.eq_iff_iff]; simp [Tm.okB]; omega), rfl⟩

set_option maxHeartbeats 400000 in
theorem c61 (a b : Int) (w : World) (ha : 0 ≤ a ∧ a < 65521) (hb : 0 ≤ b ∧ b < 65521) : Calls Try.prog 61 #[.int .i64 a, .int .i64 b] w fun e w' => e = .returned (.int .i64 (Tm.pairRaw a b)) ∧ w' = w := by
  have hm := Tm.mul_bd ha hb
  obtain ⟨m1, m2⟩ := hm
  obtain ⟨a1, a2⟩ := ha
  obtain ⟨b1, b2⟩ := hb
  go_enter Try.func61, Try.ntmps61
  go_wp2
  go_ret
  exact ⟨rfl, rfl⟩

set_option maxHeartbeats 400000 in
theorem c25 (a b : Int) (w : World) : Calls Try.prog 25 #[.int .i64 a, .int .i64 b] w fun e w' => e = .returned (.int .i64 (Tm.pair a b)) ∧ w' = w := by
  rcases hA : Tm.okB a with _ | _
  · have hf : Tm.pair a b = 0 := Tm.pair_no (by simp [hA])
    have Hf : Hid (Tm.pair a b = 0) := hf
    clear hf
    go_enter Try.func25, Try.ntmps25
    go_wp2_with (go_at_call 27; refine (c27 _ _).mono ?_; rintro e w' ⟨rfl, rfl⟩)
    go_ret
    exact ⟨ret_int Hf.out.symm, rfl⟩
  · rcases hB : Tm.okB b with _ | _
    · have hf : Tm.pair a b = 0 := Tm.pair_no (by simp [hB])
      have Hf : Hid (Tm.pair a b = 0) := hf
      clear hf
      go_enter Try.func25, Try.ntmps25
      go_wp2_with (go_at_call 27; refine (c27 _ _).mono ?_; rintro e w' ⟨rfl, rfl⟩)
      go_ret
      exact ⟨ret_int Hf.out.symm, rfl⟩
    · have Hf : Hid (Tm.pair a b = Tm.pairRaw a b) := Tm.pair_of hA hB
      have ha := (Tm.okB_iff _).1 hA
      have hb := (Tm.okB_iff _).1 hB
      go_enter Try.func25, Try.ntmps25
      go_wp2_with (first | (go_at_call 27; refine (c27 _ _).mono ?_; rintro e w' ⟨rfl, rfl⟩) | (go_at_call 61; refine (c61 _ _ _ ha hb).mono ?_; rintro e w' ⟨rfl, rfl⟩))
      go_ret
      exact ⟨ret_int Hf.out.symm, rfl⟩

set_option maxHeartbeats 400000 in
theorem c26 (a b : Int) (w : World) : Calls Try.prog 26 #[.int .i64 a, .int .i64 b] w fun e w' => e = .returned (.int .i64 (Tm.pair a b)) ∧ w' = w := by
  rcases hA : Tm.okB a with _ | _
  · have hf : Tm.pair a b = 0 := Tm.pair_no (by simp [hA])
    have Hf : Hid (Tm.pair a b = 0) := hf
    clear hf
    go_enter Try.func26, Try.ntmps26
    go_wp2_with (go_at_call 28; refine (c28 _ _).mono ?_; rintro e w' ⟨rfl, rfl⟩)
    go_ret
    exact ⟨ret_int Hf.out.symm, rfl⟩
  · rcases hB : Tm.okB b with _ | _
    · have hf : Tm.pair a b = 0 := Tm.pair_no (by simp [hB])
      have Hf : Hid (Tm.pair a b = 0) := hf
      clear hf
      go_enter Try.func26, Try.ntmps26
      go_wp2_with (go_at_call 28; refine (c28 _ _).mono ?_; rintro e w' ⟨rfl, rfl⟩)
      go_ret
      exact ⟨ret_int Hf.out.symm, rfl⟩
    · have Hf : Hid (Tm.pair a b = Tm.pairRaw a b) := Tm.pair_of hA hB
      have ha := (Tm.okB_iff _).1 hA
      have hb := (Tm.okB_iff _).1 hB
      have hm := Tm.mul_bd ha hb
      obtain ⟨m1, m2⟩ := hm
      obtain ⟨a1, a2⟩ := ha
      obtain ⟨b1, b2⟩ := hb
      go_enter Try.func26, Try.ntmps26
      go_wp2_with (go_at_call 28; refine (c28 _ _).mono ?_; rintro e w' ⟨rfl, rfl⟩)
      go_ret
      exact ⟨ret_int (by rw [Hf.out, ← Tm.pairRaw_spec]), rfl⟩

end Go.Proofs.Ytiockogogfoojaa
