/-
  The walks of mixing: what MixOk, MixPair, MixLeaf of the program and of its model answer, at every number and every list of numbers.
-/
import Derived.Test.YtjdnengmllamcaaRows
import Derived.Test.YtjdnengmllamcaaMath
import Derived.WalkKit
import Derived.WalkSpells
import Derived.WalkLawsBesides
namespace Go.Proofs.Ytjdnengmllamcaa
open Go.RowKit

theorem ret_int {k : IntKind} {a b : Int} (h : a = b) : Ending.returned (.int k a) = .returned (.int k b) := by rw [h]
theorem hide {p : Prop} (h : p) : Hid p := h
theorem unhide {p : Prop} (h : Hid p) : p := h
theorem ret_bool {a b : Bool} (h : a = b) : Ending.returned (.bool a) = .returned (.bool b) := by rw [h]

set_option maxHeartbeats 400000 in
theorem c34 (n : Int) (w : World) : Calls Try.prog 34 #[.int .i64 n] w fun e w' => e = .returned (.bool (Tm.okB n)) ∧ w' = w := by
  by_cases h0 : 0 ≤ n
  · go_enter Try.func34, Try.ntmps34
    go_wp2
    go_ret
    exact ⟨ret_bool (by simp [Tm.okB, h0]), rfl⟩
  · have h1 : decide (0 ≤ n) = false := by simpa using h0
    go_enter Try.func34, Try.ntmps34
    go_wp2
    go_ret
    exact ⟨ret_bool (by simp [Tm.okB]; omega), rfl⟩

set_option maxHeartbeats 400000 in
theorem c109 (n a b : Int) (w : World) : Calls Try.prog 109 #[.int .i64 n, .int .i64 a, .int .i64 b] w fun e w' => e = .returned (.bool (decide (a ≤ n ∧ n ≤ b))) ∧ w' = w := by
  by_cases h0 : a ≤ n
  · go_enter Try.func109, Try.ntmps109
    go_wp2
    go_ret
    exact ⟨ret_bool (by simp [h0]), rfl⟩
  · have h1 : decide (a ≤ n) = false := by simpa using h0
    go_enter Try.func109, Try.ntmps109
    go_wp2
    go_ret
    exact ⟨ret_bool (by simp), rfl⟩

set_option maxHeartbeats 400000 in
theorem c172 (n : Int) (w : World) : Calls Try.prog 172 #[.int .i64 n] w fun e w' => e = .returned (.bool (Tm.okB n)) ∧ w' = w := by
  go_enter Try.func172, Try.ntmps172
  go_wp2_with (go_at_call 109; refine (c109 _ _ _ _).mono ?_; rintro e w' ⟨rfl, rfl⟩)
  go_ret
  exact ⟨ret_bool (by rw [Bool.eq_iff_iff]; simp [Tm.okB]; omega), rfl⟩

set_option maxHeartbeats 400000 in
theorem c136 (a b : Int) (w : World) (ha : 0 ≤ a ∧ a < 65521) (hb : 0 ≤ b ∧ b < 65521) : Calls Try.prog 136 #[.int .i64 a, .int .i64 b] w fun e w' => e = .returned (.int .i64 (Tm.pairRaw a b)) ∧ w' = w := by
  have hm := Tm.mul_bd ha hb
  obtain ⟨m1, m2⟩ := hm
  obtain ⟨a1, a2⟩ := ha
  obtain ⟨b1, b2⟩ := hb
  go_enter Try.func136, Try.ntmps136
  go_wp2
  go_ret
  exact ⟨rfl, rfl⟩

set_option maxHeartbeats 400000 in
theorem c67 (a b : Int) (w : World) : Calls Try.prog 67 #[.int .i64 a, .int .i64 b] w fun e w' => e = .returned (.int .i64 (Tm.pair a b)) ∧ w' = w := by
  rcases hA : Tm.okB a with _ | _
  · have hf : Tm.pair a b = 0 := Tm.pair_no (by simp [hA])
    have Hf : Hid (Tm.pair a b = 0) := hf
    clear hf
    go_enter Try.func67, Try.ntmps67
    go_wp2_with (go_at_call 34; refine (c34 _ _).mono ?_; rintro e w' ⟨rfl, rfl⟩)
    go_ret
    exact ⟨ret_int Hf.out.symm, rfl⟩
  · rcases hB : Tm.okB b with _ | _
    · have hf : Tm.pair a b = 0 := Tm.pair_no (by simp [hB])
      have Hf : Hid (Tm.pair a b = 0) := hf
      clear hf
      go_enter Try.func67, Try.ntmps67
      go_wp2_with (go_at_call 34; refine (c34 _ _).mono ?_; rintro e w' ⟨rfl, rfl⟩)
      go_ret
      exact ⟨ret_int Hf.out.symm, rfl⟩
    · have Hf : Hid (Tm.pair a b = Tm.pairRaw a b) := Tm.pair_of hA hB
      have ha := (Tm.okB_iff _).1 hA
      have hb := (Tm.okB_iff _).1 hB
      go_enter Try.func67, Try.ntmps67
      go_wp2_with (first | (go_at_call 34; refine (c34 _ _).mono ?_; rintro e w' ⟨rfl, rfl⟩) | (go_at_call 136; refine (c136 _ _ _ ha hb).mono ?_; rintro e w' ⟨rfl, rfl⟩))
      go_ret
      exact ⟨ret_int Hf.out.symm, rfl⟩

set_option maxHeartbeats 400000 in
theorem c155 (a b : Int) (w : World) : Calls Try.prog 155 #[.int .i64 a, .int .i64 b] w fun e w' => e = .returned (.int .i64 (Tm.pair a b)) ∧ w' = w := by
  rcases hA : Tm.okB a with _ | _
  · have hf : Tm.pair a b = 0 := Tm.pair_no (by simp [hA])
    have Hf : Hid (Tm.pair a b = 0) := hf
    clear hf
    go_enter Try.func155, Try.ntmps155
    go_wp2_with (go_at_call 172; refine (c172 _ _).mono ?_; rintro e w' ⟨rfl, rfl⟩)
    go_ret
    exact ⟨ret_int Hf.out.symm, rfl⟩
  · rcases hB : Tm.okB b with _ | _
    · have hf : Tm.pair a b = 0 := Tm.pair_no (by simp [hB])
      have Hf : Hid (Tm.pair a b = 0) := hf
      clear hf
      go_enter Try.func155, Try.ntmps155
      go_wp2_with (go_at_call 172; refine (c172 _ _).mono ?_; rintro e w' ⟨rfl, rfl⟩)
      go_ret
      exact ⟨ret_int Hf.out.symm, rfl⟩
    · have Hf : Hid (Tm.pair a b = Tm.pairRaw a b) := Tm.pair_of hA hB
      have ha := (Tm.okB_iff _).1 hA
      have hb := (Tm.okB_iff _).1 hB
      have hm := Tm.mul_bd ha hb
      obtain ⟨m1, m2⟩ := hm
      obtain ⟨a1, a2⟩ := ha
      obtain ⟨b1, b2⟩ := hb
      go_enter Try.func155, Try.ntmps155
      go_wp2_with (go_at_call 172; refine (c172 _ _).mono ?_; rintro e w' ⟨rfl, rfl⟩)
      go_ret
      exact ⟨ret_int (by rw [Hf.out, ← Tm.pairRaw_spec]), rfl⟩

end Go.Proofs.Ytjdnengmllamcaa
