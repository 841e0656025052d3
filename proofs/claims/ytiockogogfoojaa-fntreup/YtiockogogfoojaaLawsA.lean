/-
  The walks of the exact laws of MixOk, MixPair, MixLeaf, TreOk, TreSplit: at every argument they answer true, and nothing that was there is written.
-/
import Derived.Test.YtiockogogfoojaaEqs
namespace Go.Proofs.Ytiockogogfoojaa
open Go.RowKit

set_option maxHeartbeats 400000 in
theorem law13 (n : Int) (w : World) : Calls Try.prog 13 #[.int .i64 n] w fun e w' => e = .returned (.bool true) ∧ w' = w := by
  go_enter Try.func13, Try.ntmps13
  go_wp2_with (first | (go_at_call 27; refine (c27 _ _).mono ?_; rintro e w' ⟨rfl, rfl⟩) | (go_at_call 28; refine (c28 _ _).mono ?_; rintro e w' ⟨rfl, rfl⟩))
  go_ret
  exact ⟨rfl, rfl⟩

set_option maxHeartbeats 400000 in
theorem law14 (a b : Int) (w : World) : Calls Try.prog 14 #[.int .i64 a, .int .i64 b] w fun e w' => e = .returned (.bool true) ∧ w' = w := by
  go_enter Try.func14, Try.ntmps14
  go_wp2_with (first | (go_at_call 25; refine (c25 _ _ _).mono ?_; rintro e w' ⟨rfl, rfl⟩) | (go_at_call 26; refine (c26 _ _ _).mono ?_; rintro e w' ⟨rfl, rfl⟩))
  go_ret
  exact ⟨rfl, rfl⟩

set_option maxHeartbeats 400000 in
theorem law17 (n : Int) (w : World) : Calls Try.prog 17 #[.int .i64 n] w fun e w' => e = .returned (.bool true) ∧ w' = w := by
  go_enter Try.func17, Try.ntmps17
  go_wp2_with (first | (go_at_call 37; refine (c37 _ _).mono ?_; rintro e w' ⟨rfl, rfl⟩) | (go_at_call 38; refine (c38 _ _).mono ?_; rintro e w' ⟨rfl, rfl⟩))
  go_ret
  exact ⟨rfl, rfl⟩

theorem below_drewN {B : Nat} {a w : World} (h : Below B a w) (n : Nat) : Below B a (w.drewN n) := ⟨h.os, h.tape, h.output, h.size, h.block⟩
theorem Row.drewN {w : World} {ao : Option Addr} {zs : List Int} (h : Row w ao zs) (n : Nat) : Row (w.drewN n) ao zs := h.below (B := w.heap.size) (below_drewN (Below.refl _ _) n) (Nat.le_refl _)

/-- a copy of a list: its own memory, and the same numbers -/
theorem copy_any (zs : List Int) (ao : Option Addr) (n cap : Nat) (w : World) (hn : zs.length = n) (hm : n ≤ 1048576) (hr : Row w ao zs) :
    Calls Try.prog 55 #[.slice ao n cap] w fun e w' => e = .returned (.slice (some ⟨w.heap.size, 0, none⟩) n n) ∧ Row w' (some ⟨w.heap.size, 0, none⟩) zs ∧ Below w.heap.size w w' := by
  refine (c55 zs ao n cap w hn hm hr).mono ?_
  rintro e w1 ⟨rfl, ho, hb⟩
  refine ⟨rfl, ⟨hr.1, fun _ => ⟨w.heap.size, 0, rfl, ?_⟩⟩, hb⟩
  have := ho.2
  rw [hn] at this
  intro k hk
  exact cells_of_own this hn k (by omega)
theorem decide_self (xs : List Int) : decide (xs = xs) = true := by simp

set_option maxHeartbeats 1000000 in
theorem law15 (zs : List Int) (ao : Option Addr) (n cap : Nat) (w : World) (hn : zs.length = n) (hm : n ≤ maxLen) (hr : Row w ao zs) :
    Calls Try.prog 15 #[.slice ao n cap] w fun e w' => e = .returned (.bool true) ∧ Below w.heap.size w w' := by
  unfold maxLen at hm
  by_cases hbig : (1048576 : Int) < (n : Int)
  · go_enter Try.func15, Try.ntmps15
    go_wp2_with fail
    go_ret
    exact ⟨rfl, Below.refl _ _⟩
  · have HR := hide hr
    have HN := hide hn
    clear hr hn
    go_enter Try.func15, Try.ntmps15
    go_wp2_with fail
    refine (copy_any zs ao n cap _ HN.out (by omega) (unhide HR)).mono ?_
    rintro e w1 ⟨rfl, hr1, hb1⟩
    have HR1 := hide hr1
    clear hr1
    go_wp2_with fail
    refine (c32 zs _ n n _ HN.out (by omega) (unhide HR1)).mono ?_
    rintro e w1' ⟨rfl, rfl⟩
    have HRa := hide ((unhide HR).below hb1 (Nat.le_refl _))
    go_wp2_with fail
    refine (copy_any zs ao n cap _ HN.out (by omega) (unhide HRa)).mono ?_
    rintro e w2 ⟨rfl, hr2, hb2⟩
    have HR2 := hide hr2
    clear hr2
    go_wp2_with fail
    refine (c31 zs _ n n _ HN.out (by omega) (unhide HR2)).mono ?_
    rintro e w2' ⟨rfl, rfl⟩
    have HRb := hide ((unhide HRa).below hb2 (Nat.le_refl _))
    go_wp2_with fail
    refine (copy_any zs ao n cap _ HN.out (by omega) (unhide HRb)).mono ?_
    rintro e w3 ⟨rfl, hr3, hb3⟩
    have HR3 := hide hr3
    have HR23 := hide ((unhide HR2).below hb3 (Nat.le_refl _))
    clear hr3
    go_wp2_with fail
    refine (c56 zs zs _ _ n n n n _ HN.out HN.out (by omega) (by omega) (unhide HR23) (unhide HR3)).mono ?_
    rintro e w4 ⟨rfl, q, rfl⟩
    rw [decide_self]
    have hfin : Below w.heap.size w (w3.drewN q) := below_drewN ((hb1.trans (hb2.mono hb1.size)).trans (hb3.mono (Nat.le_trans hb1.size hb2.size))) q
    have HB := hide hfin
    clear hfin
    go_wp2_with fail
    go_ret
    exact ⟨rfl, unhide HB⟩

set_option maxHeartbeats 1000000 in
theorem law16 (zs : List Int) (ao : Option Addr) (n cap : Nat) (w : World) (hn : zs.length = n) (hm : n ≤ maxLen) (hr : Row w ao zs) :
    Calls Try.prog 16 #[.slice ao n cap] w fun e w' => e = .returned (.bool true) ∧ Below w.heap.size w w' := by
  unfold maxLen at hm
  by_cases hbig : (1048576 : Int) < (n : Int)
  · go_enter Try.func16, Try.ntmps16
    go_wp2_with fail
    go_ret
    exact ⟨rfl, Below.refl _ _⟩
  · have HR := hide hr
    have HN := hide hn
    clear hr hn
    go_enter Try.func16, Try.ntmps16
    go_wp2_with fail
    refine (copy_any zs ao n cap _ HN.out (by omega) (unhide HR)).mono ?_
    rintro e w1 ⟨rfl, hr1, hb1⟩
    have HR1 := hide hr1
    clear hr1
    go_wp2_with fail
    refine (c35 zs _ n n _ HN.out (by omega) (unhide HR1)).mono ?_
    rintro e w1' ⟨rfl, rfl⟩
    have HRa := hide ((unhide HR).below hb1 (Nat.le_refl _))
    go_wp2_with fail
    refine (copy_any zs ao n cap _ HN.out (by omega) (unhide HRa)).mono ?_
    rintro e w2 ⟨rfl, hr2, hb2⟩
    have HR2 := hide hr2
    clear hr2
    go_wp2_with fail
    refine (c34 zs _ n n _ HN.out (by omega) (unhide HR2)).mono ?_
    rintro e w2' ⟨rfl, rfl⟩
    have HRb := hide ((unhide HRa).below hb2 (Nat.le_refl _))
    go_wp2_with fail
    refine (copy_any zs ao n cap _ HN.out (by omega) (unhide HRb)).mono ?_
    rintro e w3 ⟨rfl, hr3, hb3⟩
    have HR3 := hide hr3
    have HR23 := hide ((unhide HR2).below hb3 (Nat.le_refl _))
    clear hr3
    go_wp2_with fail
    refine (c56 zs zs _ _ n n n n _ HN.out HN.out (by omega) (by omega) (unhide HR23) (unhide HR3)).mono ?_
    rintro e w4 ⟨rfl, q, rfl⟩
    rw [decide_self]
    have hfin : Below w.heap.size w (w3.drewN q) := below_drewN ((hb1.trans (hb2.mono hb1.size)).trans (hb3.mono (Nat.le_trans hb1.size hb2.size))) q
    have HB := hide hfin
    clear hfin
    go_wp2_with fail
    go_ret
    exact ⟨rfl, unhide HB⟩

end Go.Proofs.Ytiockogogfoojaa
