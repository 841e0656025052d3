/-
  The walks of the laws of mixing and of parting: at every code they answer true, and nothing that was there is written.
-/
import Derived.Test.YtiockogogfoojaaDrawc
namespace Go.Proofs.Ytiockogogfoojaa
open Go.RowKit

set_option maxHeartbeats 400000 in
theorem c29 (w : World) : Calls Try.prog 29 #[] w fun e w' => e = .returned (.bool true) ∧ w' = w := by
  go_enter Try.func29, Try.ntmps29
  go_wp2_with (go_at_call 27; refine (c27 _ _).mono ?_; rintro e w' ⟨rfl, rfl⟩)
  go_ret
  exact ⟨ret_bool (by decide), rfl⟩

/-- what a law leaves: true, and nothing that was there is written -/
def Holds (w : World) (e : Ending) (w' : World) : Prop := e = .returned (.bool true) ∧ Below w.heap.size w w'

set_option maxHeartbeats 2000000 in
theorem law6 (zs : List Int) (ao : Option Addr) (n cap : Nat) (w : World) (hn : zs.length = n) (hc : n ≤ cap) (hm : cap ≤ maxLen) (hB : Bytes w ao zs) :
    Calls Try.prog 6 #[.slice ao n cap] w (Holds w) := by
  have HM := hide hm
  unfold maxLen at hm
  have HB := hide hB
  clear hB
  by_cases hbig : (1048576 : Int) < (n : Int)
  · go_enter Try.func6, Try.ntmps6
    go_wp2_with fail
    go_ret
    exact ⟨rfl, Below.refl _ _⟩
  · go_enter Try.func6, Try.ntmps6
    go_wp2_with fail
    refine (c36 zs ao n cap _ hn hc (unhide HM) (unhide HB)).mono ?_
    rintro e w1 ⟨x, rfl, hb⟩
    have HBe := hide hb
    clear hb
    by_cases h1 : x < 2
    · have hf : Tm.treSplit x = 0 := Tm.treSplit_no (Or.inl h1)
      go_wp2_with (first | (go_at_call 37; refine (c37 _ _).mono ?_; rintro e w' ⟨rfl, rfl⟩) | (go_at_call 38; refine (c38 _ _).mono ?_; rintro e w' ⟨rfl, rfl⟩) | (go_at_call 29; refine (c29 _).mono ?_; rintro e w' ⟨rfl, rfl⟩))
      go_ret
      exact ⟨rfl, unhide HBe⟩
    · have h1' : decide (x < 2) = false := by simpa using h1
      by_cases h2 : 40 < x
      · have hf : Tm.treSplit x = 0 := Tm.treSplit_no (Or.inr h2)
        go_wp2_with (first | (go_at_call 37; refine (c37 _ _).mono ?_; rintro e w' ⟨rfl, rfl⟩) | (go_at_call 38; refine (c38 _ _).mono ?_; rintro e w' ⟨rfl, rfl⟩) | (go_at_call 29; refine (c29 _).mono ?_; rintro e w' ⟨rfl, rfl⟩))
        go_ret
        exact ⟨rfl, unhide HBe⟩
      · have h2' : decide (40 < x) = false := by simpa using h2
        have hf : Tm.treSplit x = Tm.split x := Tm.treSplit_of (by omega) (by omega)
        have hs := Tm.split_bd (n := x) (by omega) (by omega)
        have hp := Tm.split_pow x
        rw [← hf] at hs hp
        clear hf
        obtain ⟨s1, s2, s3⟩ := hs
        have HP := hide hp
        clear hp
        go_wp2_with (first | (go_at_call 37; refine (c37 _ _).mono ?_; rintro e w' ⟨rfl, rfl⟩) | (go_at_call 38; refine (c38 _ _).mono ?_; rintro e w' ⟨rfl, rfl⟩))
        go_loop [5] (fun t => ∃ p : Int, (p = 1 ∨ p = 2 ∨ p = 4 ∨ p = 8 ∨ p = 16 ∨ p = 32) ∧ p ≤ Tm.treSplit x ∧ t = .int .i64 p) (fun t => (64 - intOf t).toNat)
        case atStart => exact ⟨1, by omega, by omega, rfl⟩
        case round =>
          obtain ⟨p, hp, hple, rfl⟩ := hrel
          generalize Tm.treSplit x = k at *
          have p1 : 1 ≤ p := by omega
          have p2 : p ≤ 32 := by omega
          have Hp := hide hp
          clear hp
          by_cases hlt : p < k
          · go_wp2_with fail
            go_round
            case rel => exact ⟨2 * p, by have := unhide Hp; have := unhide HP; omega, by have := unhide Hp; have := unhide HP; omega, rfl⟩
            case measure => simp [intOf]; omega
          · have hpe : p = k := by omega
            subst hpe
            have t1 : decide (p < x) = true := by simpa using s2
            have t2 : decide (x ≤ 2 * p) = true := by simpa using s3
            go_wp2_with fail
            go_ret
            exact ⟨rfl, unhide HBe⟩
end Go.Proofs.Ytiockogogfoojaa
