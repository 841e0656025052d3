/-
  The walks of the model's draws of what is checked and of what is told upwards: DrawTreUp.
-/
import Derived.Test.YtiockogogfoojaaDrawe
namespace Go.Proofs.Ytiockogogfoojaa
open Go.RowKit
set_option linter.unusedVariables false

def Upped (w : World) (e : Ending) (w' : World) : Prop :=
  ∃ (n i x : Int) (pv : Value) (qs : List Int), e = .returned (.tuple #[.int .i64 n, .int .i64 i, .int .i64 x, pv]) ∧ Own w' w.heap.size pv qs ∧ qs.length ≤ 7 ∧ (0 ≤ n ∧ n ≤ 42) ∧ (-1 ≤ i ∧ i ≤ 42) ∧ (-9223372036854775808 ≤ x ∧ x ≤ 9223372036854775807) ∧ Below w.heap.size w w'

set_option maxHeartbeats 3000000 in
theorem c50 (zs : List Int) (ao : Option Addr) (n cap : Nat) (w : World) (hn : zs.length = n) (hc : n ≤ cap) (hm : cap ≤ maxLen) (hB : Bytes w ao zs) :
    Calls Try.prog 50 #[.slice ao n cap] w (Upped w) := by
  have HB := hide hB
  clear hB
  go_enter Try.func50, Try.ntmps50
  go_wp2_with fail
  refine (c59 zs ao n cap _ hn hc hm (unhide HB)).mono ?_
  rintro e w1 ⟨rfl, hr, hb, hl⟩
  have HR := hide hr
  have HBe := hide hb
  clear hr hb hm hc hn HB
  go_wp2_with fail
  refine (c71 _ 0 _ (by omega) (unhide HR)).mono ?_
  rintro e w2 ⟨v, pv, ys, qs, i, x, rfl, hS, hy, hq, hi, hx⟩
  obtain ⟨ao', cap', rfl, hcap', -, -⟩ := hS.2.1.row
  have HS := hide hS
  clear hS HR
  go_wp2_with fail
  refine (c72 _ (0 + 400) 12 _ (by omega) (by omega) (unhide HS).2.2.2.1).mono ?_
  rintro e w4 ⟨b, rfl, hr, hg⟩
  have HS4 := hide ((unhide HS).step hg hr)
  clear hr hg HS
  cases b
  · skip
    go_wp2_with fail
    refine (c72 _ (0 + 400 + 1) 12 _ (by omega) (by omega) (unhide HS4).2.2.2.1).mono ?_
    rintro e w6 ⟨b6, rfl, hr, hg⟩
    have HS6 := hide ((unhide HS4).step hg hr)
    clear hr hg HS4
    cases b6
    · skip
      have HBf := hide (below_of_grown (unhide HBe) (unhide HS6).2.2.2.2)
      go_wp2_with fail
      try simp only [Exit.inBlock, Exit.then]
      refine bodyPost_ret (results_tmp4 rfl _ _ _) rfl ?_
      exact ⟨_, _, _, _, qs, rfl, (unhide HS6).2.2.1.mono (Nat.le_of_lt hl), hq, by omega, by omega, hx, unhide HBf⟩
    · go_wp2_with fail
      refine (pick_lit _ (0 + 400 + 1 + 1) 2 _ _ (by omega) (by omega) (unhide HS6).2.2.2.1).mono ?_
      rintro e w7 ⟨z2, rfl, hz21, hz22, hr, hg, hc⟩
      have HS7 := hide ((unhide HS6).step hg hr)
      clear hr hg
      have hcell : ∃ y : Int, -1 ≤ y ∧ y ≤ 42 ∧ w7.cell? ⟨w6.heap.size, z2.toNat, none⟩ = some (.int .i64 y) := by
        obtain rfl | rfl : z2 = 0 ∨ z2 = 1 := by omega
        · exact ⟨-1, by omega, by omega, hc 0 _ rfl⟩
        · exact ⟨(ys.length : Int), by omega, by omega, hc 1 _ rfl⟩
      obtain ⟨y2, hy20, hy21, hcy⟩ := hcell
      clear hc HS6
      obtain ⟨zN2, rfl⟩ := Int.eq_ofNat_of_zero_le hz21
      simp only [Int.toNat_natCast] at hcy
      have HBf := hide (below_of_grown (unhide HBe) (unhide HS7).2.2.2.2)
      go_wp2_with fail
      try simp only [Exit.inBlock, Exit.then]
      refine bodyPost_ret (results_tmp4 rfl _ _ _) rfl ?_
      exact ⟨_, _, _, _, qs, rfl, (unhide HS7).2.2.1.mono (Nat.le_of_lt hl), hq, by omega, by omega, hx, unhide HBf⟩
  · go_wp2_with fail
    refine (pick_lit _ (0 + 400 + 1) 3 _ _ (by omega) (by omega) (unhide HS4).2.2.2.1).mono ?_
    rintro e w5 ⟨z, rfl, hz1, hz2, hr, hg, hc⟩
    have HS5 := hide ((unhide HS4).step hg hr)
    clear hr hg
    have hcell : ∃ y : Int, 0 ≤ y ∧ y ≤ 42 ∧ w5.cell? ⟨w4.heap.size, z.toNat, none⟩ = some (.int .i64 y) := by
      obtain rfl | rfl | rfl : z = 0 ∨ z = 1 ∨ z = 2 := by omega
      · exact ⟨0, by omega, by omega, hc 0 _ rfl⟩
      · exact ⟨41, by omega, by omega, hc 1 _ rfl⟩
      · exact ⟨_, by omega, by omega, hc 2 _ rfl⟩
    obtain ⟨y, hy0, hy1, hcy⟩ := hcell
    clear hc HS4
    obtain ⟨zN, rfl⟩ := Int.eq_ofNat_of_zero_le hz1
    simp only [Int.toNat_natCast] at hcy
    go_wp2_with fail
    clear hcy
    refine (c72 _ (0 + 400 + 1 + 1) 12 _ (by omega) (by omega) (unhide HS5).2.2.2.1).mono ?_
    rintro e w6 ⟨b6, rfl, hr, hg⟩
    have HS6 := hide ((unhide HS5).step hg hr)
    clear hr hg HS5
    cases b6
    · skip
      have HBf := hide (below_of_grown (unhide HBe) (unhide HS6).2.2.2.2)
      go_wp2_with fail
      try simp only [Exit.inBlock, Exit.then]
      refine bodyPost_ret (results_tmp4 rfl _ _ _) rfl ?_
      exact ⟨_, _, _, _, qs, rfl, (unhide HS6).2.2.1.mono (Nat.le_of_lt hl), hq, by omega, by omega, hx, unhide HBf⟩
    · go_wp2_with fail
      refine (pick_lit _ (0 + 400 + 1 + 1 + 1) 2 _ _ (by omega) (by omega) (unhide HS6).2.2.2.1).mono ?_
      rintro e w7 ⟨z2, rfl, hz21, hz22, hr, hg, hc⟩
      have HS7 := hide ((unhide HS6).step hg hr)
      clear hr hg
      have hcell : ∃ y : Int, -1 ≤ y ∧ y ≤ 42 ∧ w7.cell? ⟨w6.heap.size, z2.toNat, none⟩ = some (.int .i64 y) := by
        obtain rfl | rfl : z2 = 0 ∨ z2 = 1 := by omega
        · exact ⟨-1, by omega, by omega, hc 0 _ rfl⟩
        · exact ⟨y, by omega, by omega, hc 1 _ rfl⟩
      obtain ⟨y2, hy20, hy21, hcy⟩ := hcell
      clear hc HS6
      obtain ⟨zN2, rfl⟩ := Int.eq_ofNat_of_zero_le hz21
      simp only [Int.toNat_natCast] at hcy
      have HBf := hide (below_of_grown (unhide HBe) (unhide HS7).2.2.2.2)
      go_wp2_with fail
      try simp only [Exit.inBlock, Exit.then]
      refine bodyPost_ret (results_tmp4 rfl _ _ _) rfl ?_
      exact ⟨_, _, _, _, qs, rfl, (unhide HS7).2.2.1.mono (Nat.le_of_lt hl), hq, by omega, by omega, hx, unhide HBf⟩
end Go.Proofs.Ytiockogogfoojaa
