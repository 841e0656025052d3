/-
  The walk of the model's draw of the numbers of a leaf.
-/
import Derived.Test.YtiockogogfoojaaLawsB
namespace Go.Proofs.Ytiockogogfoojaa
open Go.RowKit

set_option maxHeartbeats 4000000 in
theorem c30 (zs : List Int) (ao : Option Addr) (n cap : Nat) (w : World) (hn : zs.length = n) (hc : n ≤ cap) (hm : cap ≤ maxLen) (hB : Bytes w ao zs) :
    Calls Try.prog 30 #[.slice ao n cap] w (Lots w 5) := by
  have HB := hide hB
  clear hB
  obtain ⟨i0, hi, hz0, hz1, hz2⟩ := info_parts Try.info3
  go_enter Try.func30, Try.ntmps30
  go_wp2_with fail
  refine (c59 zs ao n cap _ hn hc hm (unhide HB)).mono ?_
  rintro e w1 ⟨rfl, hr, hb, hl⟩
  have HR1 := hide hr
  have HBe := hide hb
  have HE := hide (own_empty w1 w1.heap.size (Nat.le_refl _))
  clear hr hb
  go_wp2_with fail
  refine (c63 _ 0 6 _ (by omega) ((unhide HR1).alloc _)).mono ?_
  rintro e w2 ⟨x, rfl, hx, hx2, hr, hg⟩
  have hx3 : x < 6 := hx2 (by omega)
  have HR2 := hide hr
  have HO2 := hide ((unhide HE).keptR hg hl)
  have HG2 := hide (grown_alloc_any hg)
  clear hr hg hx2 HE
  obtain ⟨xN, rfl⟩ := Int.eq_ofNat_of_zero_le hx
  go_wp2_with fail
  go_loopw [4, 5] (fun v j wr => ∃ (zs : List Int) (J kk : Nat), j = .int .i64 J ∧ zs.length + J ≤ 5 ∧ kk + 2 * J ≤ 12 ∧ Own wr w1.heap.size v zs ∧ Rd wr w.heap.size kk ∧ w1.grownBy wr (some w.heap.size)) (fun _ j _ => (intOf j).toNat)
  case atStart => exact ⟨[], xN, 1, rfl, by simp; omega, by omega, unhide HO2, unhide HR2, unhide HG2⟩
  case round =>
    obtain ⟨zs', J, kk, rfl, hJ, hkk, ho, hr, hg⟩ := hrel
    have hws : w1.heap.size ≤ wr.heap.size := hg.size
    have HO := hide ho
    have HR := hide hr
    have HG := hide hg
    clear ho hr hg HO2 HR2 HG2
    by_cases hlt : 0 < J
    · go_wp2_with fail
      refine (c63 _ kk 256 _ (by omega) (unhide HR)).mono ?_
      rintro e w3 ⟨q, rfl, hq, hq2, hr, hg⟩
      have hq3 : q < 256 := hq2 (by omega)
      have hws3 : w1.heap.size ≤ w3.heap.size := Nat.le_trans hws hg.size
      have HO3 := hide ((unhide HO).keptR hg hl)
      have HR3 := hide hr
      have HG3 := hide (grown_trans (unhide HG) hg)
      clear hr hg HO HR HG hq2
      go_wp2_with fail
      refine (pick_lit _ (kk + 1) 6 _ _ (by omega) (by omega) (unhide HR3)).mono ?_
      rintro e w4 ⟨z, rfl, hz, hz2', hr, hg, hll⟩
      have hws4 : w1.heap.size ≤ w4.heap.size := Nat.le_trans hws3 hg.size
      have HO4 := hide ((unhide HO3).keptR hg hl)
      have HR4 := hide hr
      have HG4 := hide (grown_trans (unhide HG3) hg)
      have hcell : ∃ y : Int, (-9223372036854775808 ≤ y ∧ y ≤ 9223372036854775807) ∧ w4.cell? ⟨w3.heap.size, z.toNat, none⟩ = some (.int .i64 y) := by
        obtain rfl | rfl | rfl | rfl | rfl | rfl : z = 0 ∨ z = 1 ∨ z = 2 ∨ z = 3 ∨ z = 4 ∨ z = 5 := by omega
        · exact ⟨_, by omega, hll 0 _ rfl⟩
        · exact ⟨_, by omega, hll 1 _ rfl⟩
        · exact ⟨_, by omega, hll 2 _ rfl⟩
        · exact ⟨_, by omega, hll 3 _ rfl⟩
        · exact ⟨_, by omega, hll 4 _ rfl⟩
        · exact ⟨_, by omega, hll 5 _ rfl⟩
      obtain ⟨y, hy, hcy⟩ := hcell
      clear hr hg hll HO3 HR3 HG3
      obtain ⟨zN, rfl⟩ := Int.eq_ofNat_of_zero_le hz
      simp only [Int.toNat_natCast] at hcy
      have HY := hide hy
      clear hy
      go_wp2_with (first | (at_builtin; refine wpList_append_own _ rfl _ _ 30 rfl w1.heap.size 3 i0 (.int .i64 0) 1 8 Try.underlying30 hi hz0 hz1 hz2 rfl (by decide) _ _ _ rfl ((unhide HO4).2.alloc _) ⟨w4.heap.size, 0, none⟩ 1 1 [.int .i64 y] rfl rfl (cell_one_new _ _ _) ?c2 ?c3 ?c4 ?c5 ?_) | fail)
      case c2 => intro u hu; simp at hu; subst hu; rfl
      case c3 => unfold maxLen; omega
      case c4 => omega
      case c5 => simp; omega
      intro v' w5 hown' hgrow _
      have HO5 := hide (own_snoc (unhide HO4).1 (unhide HY) hown')
      have HR5 := hide ((unhide HR4).own (unhide HO4) hl hgrow)
      have HG5 := hide (grown_own (unhide HO4) (unhide HG4) (Nat.le_refl _) hgrow)
      clear hown' hgrow HO4 HR4 HG4 hcy
      go_wp2_with fail
      go_roundw
      case rel => exact ⟨zs' ++ [y], J - 1, kk + 2, by go_num, by simp; omega, by omega, unhide HO5, unhide HR5, unhide HG5⟩
      case measure => simp [intOf]; omega
    · have hJ0 : J = 0 := by omega
      subst hJ0
      have HBf := hide (below_of_grown (unhide HBe) (unhide HG))
      go_wp2_with fail
      go_ret
      exact ⟨_, zs', rfl, (unhide HO).mono (Nat.le_of_lt hl), by omega, unhide HBf⟩
end Go.Proofs.Ytiockogogfoojaa
