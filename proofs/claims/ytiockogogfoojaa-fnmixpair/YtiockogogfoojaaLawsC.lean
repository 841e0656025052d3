/-
  The walk of the law FnMixPair: at every two codes it answers true, and nothing that was there is written.
-/
import Derived.Test.YtiockogogfoojaaLawsB
namespace Go.Proofs.Ytiockogogfoojaa
open Go.RowKit

theorem Bytes.below {w w' : World} {ao : Option Addr} {zs : List Int} (h : Bytes w ao zs) (hb : Below w.heap.size w w') : Bytes w' ao zs := by
  refine ⟨h.1, fun hne => ?_⟩
  obtain ⟨b, off, rfl, hc⟩ := h.2 hne
  refine ⟨b, off, rfl, fun k hk => ?_⟩
  have h1 := hc k hk
  rw [hb.cell (p := ⟨b, off + k, none⟩) (World.block_lt_of_cell? w _ h1)]
  exact h1

theorem pair_left {a b c : Int} (ha : Tm.okB a = true) (hb : Tm.okB b = true) (hc : Tm.okB c = true) (h1 : ¬ c = a) (h2 : ¬ b = 57330) : (Tm.pair c b == Tm.pair a b) = false := by
  rw [Tm.pair_of hc hb, Tm.pair_of ha hb, beq_eq_false_iff_ne]
  exact fun h => h1 (Tm.pairRaw_left ((Tm.okB_iff _).1 ha) ((Tm.okB_iff _).1 hc) ((Tm.okB_iff _).1 hb) h2 h)
theorem pair_right {a b c : Int} (ha : Tm.okB a = true) (hb : Tm.okB b = true) (hc : Tm.okB c = true) (h1 : ¬ c = b) (h2 : ¬ a = 65394) : (Tm.pair a c == Tm.pair a b) = false := by
  rw [Tm.pair_of ha hc, Tm.pair_of ha hb, beq_eq_false_iff_ne]
  exact fun h => h1 (Tm.pairRaw_right ((Tm.okB_iff _).1 ha) ((Tm.okB_iff _).1 hb) ((Tm.okB_iff _).1 hc) h2 h)

set_option maxHeartbeats 8000000 in
theorem law3 (zs ys : List Int) (ao bo : Option Addr) (n cap m cap' : Nat) (w : World) (hn : zs.length = n) (hc : n ≤ cap) (hm : cap ≤ maxLen) (hB : Bytes w ao zs) (hn' : ys.length = m) (hc' : m ≤ cap') (hm' : cap' ≤ maxLen) (hB' : Bytes w bo ys) :
    Calls Try.prog 3 #[.slice ao n cap, .slice bo m cap'] w (Holds w) := by
  have HM := hide hm
  have HM' := hide hm'
  unfold maxLen at hm hm'
  have HB := hide hB
  have HB' := hide hB'
  clear hB hB'
  by_cases hbig : (1048576 : Int) < (n : Int)
  · go_enter Try.func3, Try.ntmps3
    go_wp2_with fail
    go_ret
    exact ⟨rfl, Below.refl _ _⟩
  have hbig' : decide ((1048576 : Int) < (n : Int)) = false := by simpa using hbig
  by_cases hbug : (1048576 : Int) < (m : Int)
  · go_enter Try.func3, Try.ntmps3
    go_wp2_with fail
    go_ret
    exact ⟨rfl, Below.refl _ _⟩
  have hbug' : decide ((1048576 : Int) < (m : Int)) = false := by simpa using hbug
  go_enter Try.func3, Try.ntmps3
  go_wp2_with fail
  refine (c23 zs ao n cap _ hn hc (unhide HM) (unhide HB)).mono ?_
  rintro e w1 ⟨a, b, rfl, hb1⟩
  have HBe := hide hb1
  have HB2 := hide ((unhide HB').below hb1)
  clear hb1
  go_wp2_with fail
  refine (c24 ys bo m cap' _ hn' hc' (unhide HM') (unhide HB2)).mono ?_
  rintro e w2 ⟨c, rfl, -, hb2⟩
  have HBf := hide ((unhide HBe).trans (hb2.mono (unhide HBe).size))
  clear hb2 HB2 HBe HB HB' HM HM'
  rcases hA : Tm.okB a with _ | _
  · have hf : Tm.pair a b = 0 := Tm.pair_no (by simp [hA])
    go_wp2_with (first | (go_at_call 25; refine (c25 _ _ _).mono ?_; rintro e w' ⟨rfl, rfl⟩) | (go_at_call 26; refine (c26 _ _ _).mono ?_; rintro e w' ⟨rfl, rfl⟩) | (go_at_call 27; refine (c27 _ _).mono ?_; rintro e w' ⟨rfl, rfl⟩) | (go_at_call 28; refine (c28 _ _).mono ?_; rintro e w' ⟨rfl, rfl⟩) | (go_at_call 29; refine (c29 _).mono ?_; rintro e w' ⟨rfl, rfl⟩))
    go_ret
    exact ⟨rfl, unhide HBf⟩
  rcases hBb : Tm.okB b with _ | _
  · have hf : Tm.pair a b = 0 := Tm.pair_no (by simp [hBb])
    go_wp2_with (first | (go_at_call 25; refine (c25 _ _ _).mono ?_; rintro e w' ⟨rfl, rfl⟩) | (go_at_call 26; refine (c26 _ _ _).mono ?_; rintro e w' ⟨rfl, rfl⟩) | (go_at_call 27; refine (c27 _ _).mono ?_; rintro e w' ⟨rfl, rfl⟩) | (go_at_call 28; refine (c28 _ _).mono ?_; rintro e w' ⟨rfl, rfl⟩) | (go_at_call 29; refine (c29 _).mono ?_; rintro e w' ⟨rfl, rfl⟩))
    go_ret
    exact ⟨rfl, unhide HBf⟩
  have hok : Tm.okB (Tm.pair a b) = true := Tm.pair_ok a b
  have h31 : (Tm.pair 0 0 == 31) = true := by decide
  rcases hC : Tm.okB c with _ | _
  · go_wp2_with (first | (go_at_call 25; refine (c25 _ _ _).mono ?_; rintro e w' ⟨rfl, rfl⟩) | (go_at_call 26; refine (c26 _ _ _).mono ?_; rintro e w' ⟨rfl, rfl⟩) | (go_at_call 27; refine (c27 _ _).mono ?_; rintro e w' ⟨rfl, rfl⟩) | (go_at_call 28; refine (c28 _ _).mono ?_; rintro e w' ⟨rfl, rfl⟩) | (go_at_call 29; refine (c29 _).mono ?_; rintro e w' ⟨rfl, rfl⟩))
    go_ret
    exact ⟨rfl, unhide HBf⟩
  have k1 : (c != a) = false ∨ ((c != a) = true ∧ (b != 57330) = false) ∨ ((c != a) = true ∧ (b != 57330) = true ∧ (Tm.pair c b == Tm.pair a b) = false) := by
    by_cases h1 : c = a
    · exact Or.inl (by simp [h1])
    · by_cases h2 : b = 57330
      · exact Or.inr (Or.inl ⟨by simpa using h1, by simp [h2]⟩)
      · exact Or.inr (Or.inr ⟨by simpa using h1, by simpa using h2, pair_left hA hBb hC h1 h2⟩)
  have k2 : (c != b) = false ∨ ((c != b) = true ∧ (a != 65394) = false) ∨ ((c != b) = true ∧ (a != 65394) = true ∧ (Tm.pair a c == Tm.pair a b) = false) := by
    by_cases h1 : c = b
    · exact Or.inl (by simp [h1])
    · by_cases h2 : a = 65394
      · exact Or.inr (Or.inl ⟨by simpa using h1, by simp [h2]⟩)
      · exact Or.inr (Or.inr ⟨by simpa using h1, by simpa using h2, pair_right hA hBb hC h1 h2⟩)
  rcases k1 with k1 | ⟨k1, k1'⟩ | ⟨k1, k1', k1''⟩ <;> rcases k2 with k2 | ⟨k2, k2'⟩ | ⟨k2, k2', k2''⟩
  all_goals
    go_wp2_with (first | (go_at_call 25; refine (c25 _ _ _).mono ?_; rintro e w' ⟨rfl, rfl⟩) | (go_at_call 26; refine (c26 _ _ _).mono ?_; rintro e w' ⟨rfl, rfl⟩) | (go_at_call 27; refine (c27 _ _).mono ?_; rintro e w' ⟨rfl, rfl⟩) | (go_at_call 28; refine (c28 _ _).mono ?_; rintro e w' ⟨rfl, rfl⟩) | (go_at_call 29; refine (c29 _).mono ?_; rintro e w' ⟨rfl, rfl⟩))
    go_ret
    exact ⟨rfl, unhide HBf⟩
end Go.Proofs.Ytiockogogfoojaa
