/-
  The draw of what a ticket cost first, and the walk of the law FnEntCap.
-/
import Derived.Test.YtchmjimfpamoeaaEnta
import Derived.Test.YtchmjimfpamoeaaDrawb
import Derived.Test.YtchmjimfpamoeaaLawsB
namespace Go.Proofs.Ytchmjimfpamoeaa
open Go.RowKit
set_option linter.unusedVariables false
set_option maxRecDepth 100000

theorem below_g {w w1 w2 : World} {r : Nat} (h : Below w.heap.size w w1) (hg : w1.grownBy w2 (some r)) (hr : w.heap.size ≤ r) : Below w.heap.size w w2 := h.grown hg h.size (fun k hk => by cases hk; exact hr)

set_option maxHeartbeats 2000000 in
theorem c29 (zs : List Int) (ao : Option Addr) (n cap : Nat) (w : World) (hn : zs.length = n) (hc : n ≤ cap) (hm : cap ≤ maxLen) (hB : Bytes w ao zs) :
    Calls Try.prog 29 #[.slice ao n cap] w fun e w' => ∃ x : Int, e = .returned (.int .i64 x) ∧ (-1 ≤ x ∧ x ≤ 51) ∧ Below w.heap.size w w' := by
  have HB := hide hB
  have HM := hide hm
  clear hB hm
  go_enter Try.func29, Try.ntmps29
  go_wp2_with fail
  refine (c96 zs ao n cap _ hn hc (unhide HM) (unhide HB)).mono ?_
  rintro e w1 ⟨rfl, hr1, hb1, hs1⟩
  have HR1 := hide hr1
  have HB1 := hide hb1
  clear hr1 hb1 hs1 HB HM
  go_wp2_with fail
  refine (c97 w.heap.size 0 52 _ (by omega) (unhide HR1)).mono ?_
  rintro e w2 ⟨y, rfl, hy, hy2, hr, hg⟩
  have hy3 : y < 52 := hy2 (by omega)
  have HR2 := hide hr
  have HB2 := hide (below_g (unhide HB1) hg (Nat.le_refl _))
  clear hr hg hy2 HR1 HB1
  go_wp2_with fail
  refine (pick_lit w.heap.size 1 9 _ _ (by omega) (by omega) (unhide HR2)).mono ?_
  rintro e w3 ⟨z, rfl, hz, hz2, hr, hg, hl⟩
  have HB3 := hide (below_g (unhide HB2) hg (Nat.le_refl _))
  have h0 := hl 0 _ rfl
  have h1 := hl 1 _ rfl
  have h2 := hl 2 _ rfl
  have h3 := hl 3 _ rfl
  have h4 := hl 4 _ rfl
  have h5 := hl 5 _ rfl
  have h6 := hl 6 _ rfl
  have h7 := hl 7 _ rfl
  have h8 := hl 8 _ rfl
  clear hr hg hl HR2 HB2
  obtain rfl | rfl | rfl | rfl | rfl | rfl | rfl | rfl | rfl : z = 0 ∨ z = 1 ∨ z = 2 ∨ z = 3 ∨ z = 4 ∨ z = 5 ∨ z = 6 ∨ z = 7 ∨ z = 8 := by omega
  all_goals
    go_wp2_with fail
    go_ret
    exact ⟨_, rfl, by omega, unhide HB3⟩

set_option maxHeartbeats 2000000 in
theorem law3 (zs : List Int) (ao : Option Addr) (n cap : Nat) (w : World) (hn : zs.length = n) (hc : n ≤ cap) (hm : cap ≤ maxLen) (hB : Bytes w ao zs) :
    Calls Try.prog 3 #[.slice ao n cap] w (Holds w) := by
  have HM := hide hm
  unfold maxLen at hm
  have HB := hide hB
  clear hB
  by_cases hbig : (1048576 : Int) < (n : Int)
  · go_enter Try.func3, Try.ntmps3
    go_wp2_with fail
    go_ret
    exact ⟨rfl, Below.refl _ _⟩
  go_enter Try.func3, Try.ntmps3
  go_wp2_with fail
  refine (c29 zs ao n cap _ hn hc (unhide HM) (unhide HB)).mono ?_
  rintro e w1 ⟨f, rfl, hf, hb⟩
  obtain ⟨f0, f1⟩ := hf
  have HBe := hide hb
  clear hb HB HM hbig hm hc hn
  by_cases h : 1 ≤ f ∧ f ≤ 50
  · obtain ⟨l1, l2, l3, l4⟩ := Tm.cap_law h
    have hcb := Tm.cap_bd f
    obtain ⟨c0, c1⟩ := hcb
    obtain ⟨h1, h2⟩ := h
    have d1 : decide (f < 1) = false := by simpa using h1
    have d2 : decide (50 < f) = false := by simpa using h2
    by_cases h5 : f = 50
    · subst h5
      have e60 : Tm.cap 50 = 60 := by decide
      clear l1 l2 l3 l4 c0 c1
      go_wp2_with (first | (go_at_call 30; refine (c30 _ _).mono ?_; rintro e w' ⟨rfl, rfl⟩; rw [e60]) | (go_at_call 31; refine (c31 _ _).mono ?_; rintro e w' ⟨rfl, rfl⟩; rw [e60]))
      go_ret
      exact ⟨rfl, unhide HBe⟩
    · have b5 : (f == 50) = false := by simpa using h5
      have l5 : Tm.cap f < Tm.cap (f + 1) := by omega
      have hcb2 := Tm.cap_bd (f + 1)
      obtain ⟨c2, c3⟩ := hcb2
      clear l4 h5
      go_wp2_with (first | (go_at_call 30; refine (c30 _ _).mono ?_; rintro e w' ⟨rfl, rfl⟩) | (go_at_call 31; refine (c31 _ _).mono ?_; rintro e w' ⟨rfl, rfl⟩))
      go_ret
      exact ⟨rfl, unhide HBe⟩
  · have e0 := Tm.cap_no h
    by_cases h1 : f < 1
    · go_wp2_with (first | (go_at_call 30; refine (c30 _ _).mono ?_; rintro e w' ⟨rfl, rfl⟩; rw [e0]) | (go_at_call 31; refine (c31 _ _).mono ?_; rintro e w' ⟨rfl, rfl⟩; rw [e0]) | (go_at_call 32; refine (c32 _).mono ?_; rintro e w' ⟨rfl, rfl⟩))
      go_ret
      exact ⟨rfl, unhide HBe⟩
    · have d1 : decide (f < 1) = false := by simpa using h1
      have h2 : 50 < f := by omega
      go_wp2_with (first | (go_at_call 30; refine (c30 _ _).mono ?_; rintro e w' ⟨rfl, rfl⟩; rw [e0]) | (go_at_call 31; refine (c31 _ _).mono ?_; rintro e w' ⟨rfl, rfl⟩; rw [e0]) | (go_at_call 32; refine (c32 _).mono ?_; rintro e w' ⟨rfl, rfl⟩))
      go_ret
      exact ⟨rfl, unhide HBe⟩
end Go.Proofs.Ytchmjimfpamoeaa
