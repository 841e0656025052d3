/-
  The walk of the law FnTreClash, given that of the program's clash.
-/
import Derived.Test.YtdbnimgbmjeplaaClasq
import Derived.Test.YtdbnimgbmjeplaaLawsF
namespace Go.Proofs.Ytdbnimgbmjeplaa
open Go.RowKit
set_option linter.unusedVariables false

set_option maxHeartbeats 4000000 in
theorem law3 (h75 : Goes75) (zs : List Int) (ao : Option Addr) (n cap : Nat) (w : World) (hn : zs.length = n) (hc : n ≤ cap) (hm : cap ≤ maxLen) (hB : Bytes w ao zs) :
    Calls Try.prog 3 #[.slice ao n cap] w (Holds w) := by
  have HM := hide hm
  unfold maxLen at hm
  have HB := hide hB
  have H75 := hide h75
  clear hB h75
  by_cases hbig : (1048576 : Int) < (n : Int)
  · go_enter Try.func3, Try.ntmps3
    go_wp2_with fail
    go_ret
    exact ⟨rfl, Below.refl _ _⟩
  go_enter Try.func3, Try.ntmps3
  go_wp2_with fail
  refine (c10 zs ao n cap _ hn hc (unhide HM) (unhide HB)).mono ?_
  rintro e w1 ⟨v, pv, ys, ps, i, x, rfl, ho, hp, hy, hpl, hi, hb⟩
  obtain ⟨ao1, cap1, rfl, hcap1, hr, -⟩ := ho.row
  obtain ⟨bo1, cap2, rfl, hcap2, hs, -⟩ := hp.row
  obtain ⟨i0, i41⟩ := hi
  have HR := hide hr
  have HS := hide hs
  have HBe := hide hb
  clear ho hp hr hs hb HB HM hbig hm hc hn
  go_wp2_with fail
  refine (c11 (unhide H75) ys ps _ _ _ _ _ _ _ _ _ rfl rfl hcap1 hcap2 (by omega) (by omega) (unhide HR) (unhide HS)).mono ?_
  rintro e w2 ⟨v2, rfl, ho2, hb2⟩
  obtain ⟨to, tcap, rfl, htcap, ht, -⟩ := ho2.row
  have HR2 := hide ((unhide HR).below hb2 (Nat.le_refl _))
  have HS2 := hide ((unhide HS).below hb2 (Nat.le_refl _))
  have HT2 := hide ht
  have HB2 := hide (below_then (unhide HBe) hb2)
  clear ho2 hb2 ht HR HS HBe H75
  go_wp2_with fail
  refine (c13 ys ps _ _ _ _ _ _ _ _ _ rfl rfl hcap1 hcap2 (by omega) (by omega) (unhide HR2) (unhide HS2)).mono ?_
  rintro e w3 ⟨v3, rfl, ho3, hb3⟩
  obtain ⟨to3, tcap3, rfl, htcap3, ht3, -⟩ := ho3.row
  have HR3 := hide ((unhide HR2).below hb3 (Nat.le_refl _))
  have HS3 := hide ((unhide HS2).below hb3 (Nat.le_refl _))
  have HT3 := hide ((unhide HT2).below hb3 (Nat.le_refl _))
  have HU3 := hide ht3
  have HB3 := hide (below_then (unhide HB2) hb3)
  clear ho3 hb3 ht3 HR2 HS2 HB2 HT2
  have hT4 : (Tm.treClash ys i x ps).length ≤ 4 := by
    by_cases hh : Tm.treOk ys = true ∧ Tm.treCheck (Tm.treRoot ys) ys.length i x ps = true ∧ x ≠ ys.getD i.toNat 0
    · rw [treClash_of hh]
      obtain ⟨a, b, c, d, he, -⟩ := Tm.clash_is ys.length ys i x ps (Nat.le_refl _) (Tm.inv_of hh.1 hh.2.1 hh.2.2)
      rw [he]; simp
    · rw [treClash_no hh]; simp
  go_wp2_with fail
  refine (c12 (Tm.treClash ys i x ps) (Tm.treClash ys i x ps) _ _ _ _ _ _ _ rfl rfl (by omega) (by omega) (unhide HT3) (unhide HU3)).mono ?_
  rintro e w4 ⟨rfl, q, rfl⟩
  rw [decide_self]
  have HR4 := hide ((unhide HR3).drewN q)
  have HS4 := hide ((unhide HS3).drewN q)
  have HT4 := hide ((unhide HT3).drewN q)
  have HB4 := hide (below_drewN (unhide HB3) q)
  clear HR3 HS3 HT3 HU3 HB3 hT4
  generalize w3.drewN q = w4 at *
  obtain ⟨iN, rfl⟩ := Int.eq_ofNat_of_zero_le i0
  rcases hok : Tm.treOk ys with _ | _
  · rw [treClash_no (by rw [hok]; simp)]
    go_wp2_with (first | (go_at_call 14; refine (c14 ys _ _ _ _ rfl (by omega) (unhide HR4)).mono ?_; rintro e w' ⟨rfl, rfl⟩) | (go_at_call 17; refine (c17 _).mono ?_; rintro e w' ⟨rfl, rfl⟩))
    go_ret
    exact ⟨rfl, unhide HB4⟩
  by_cases hge : (ys.length : Int) ≤ (iN : Int)
  · rw [treClash_no (by intro h; have := check_in h.2.1; omega)]
    go_wp2_with (first | (go_at_call 14; refine (c14 ys _ _ _ _ rfl (by omega) (unhide HR4)).mono ?_; rintro e w' ⟨rfl, rfl⟩) | (go_at_call 17; refine (c17 _).mono ?_; rintro e w' ⟨rfl, rfl⟩))
    go_ret
    exact ⟨rfl, unhide HB4⟩
  have dge : decide ((ys.length : Int) ≤ (iN : Int)) = false := by simpa using hge
  have j1 : (iN : Int) < (ys.length : Int) := by omega
  obtain ⟨b, off, rfl, hcs⟩ := (unhide HR4).2 (by intro e; subst e; simp at hge)
  have HC := hide (hcs iN (by omega))
  clear hcs
  rcases hch : Tm.treCheck (Tm.treRoot ys) ys.length (iN : Int) x ps with _ | _
  · rw [treClash_no (by rw [hch]; simp)]
    have HCH := hide hch
    clear hch
    go_wp2_with (go_at_call 14; refine (c14 ys _ _ _ _ rfl (by omega) (unhide HR4)).mono ?_; rintro e w' ⟨rfl, rfl⟩)
    refine (c16 ys _ _ _ _ rfl hcap1 (by omega) (unhide HR4)).mono ?_
    rintro e w5 ⟨rfl, hb5⟩
    have HS5 := hide ((unhide HS4).below hb5 (Nat.le_refl _))
    have HB5 := hide (below_then (unhide HB4) hb5)
    clear hb5
    go_wp2_with fail
    refine (c15 ps _ _ _ _ _ _ _ _ rfl hcap2 (by omega) (unhide HS5)).mono ?_
    rintro e w6 ⟨rfl, hb6⟩
    have HB6 := hide (below_then (unhide HB5) hb6)
    clear hb6
    rw [unhide HCH]
    go_wp2_with (go_at_call 17; refine (c17 _).mono ?_; rintro e w' ⟨rfl, rfl⟩)
    go_ret
    exact ⟨rfl, unhide HB6⟩
  by_cases hxe : x = ys.getD iN 0
  · rw [treClash_no (by rw [Int.toNat_natCast]; intro h; exact h.2.2 hxe)]
    have hbe : (x == ys.getD iN 0) = true := by rw [beq_iff_eq]; exact hxe
    have HCH := hide hch
    clear hch hxe
    generalize ys.getD iN 0 = y at *
    go_wp2_with (go_at_call 14; refine (c14 ys _ _ _ _ rfl (by omega) (unhide HR4)).mono ?_; rintro e w' ⟨rfl, rfl⟩)
    refine (c16 ys _ _ _ _ rfl hcap1 (by omega) (unhide HR4)).mono ?_
    rintro e w5 ⟨rfl, hb5⟩
    have HS5 := hide ((unhide HS4).below hb5 (Nat.le_refl _))
    have HB5 := hide hb5
    clear hb5
    go_wp2_with fail
    refine (c15 ps _ _ _ _ _ _ _ _ rfl hcap2 (by omega) (unhide HS5)).mono ?_
    rintro e w6 ⟨rfl, hb6⟩
    have hcell := cell_below (below_then (unhide HB5) hb6) (unhide HC)
    have HB6 := hide (below_then (unhide HB4) (below_then (unhide HB5) hb6))
    clear hb6
    rw [unhide HCH]
    go_wp2_with (go_at_call 17; refine (c17 _).mono ?_; rintro e w' ⟨rfl, rfl⟩)
    go_ret
    exact ⟨rfl, unhide HB6⟩
  have hne : x ≠ ys.getD (iN : Int).toNat 0 := by rw [Int.toNat_natCast]; exact hxe
  have hT := treClash_of ⟨hok, hch, hne⟩
  obtain ⟨a, b', c, d, he4, hdf, hpr, ha, hb', hc', hd⟩ := Tm.clash_is ys.length ys iN x ps (Nat.le_refl _) (Tm.inv_of hok hch hne)
  rw [he4] at hT
  rw [hT] at HT4 htcap
  rw [hT]
  clear hT he4 hne
  obtain ⟨g, go, rfl, hts⟩ := (unhide HT4).2 (by simp)
  have K0 := hide (hts 0 (by simp))
  have K1 := hide (hts 1 (by simp))
  have K2 := hide (hts 2 (by simp))
  have K3 := hide (hts 3 (by simp))
  have hbe : (x == ys.getD iN 0) = false := by rw [beq_eq_false_iff_ne]; exact hxe
  have HCH := hide hch
  clear hch hxe hts HT4
  generalize ys.getD iN 0 = y at *
  have hpe : (Tm.pair a b' == Tm.pair c d) = true := by rw [beq_iff_eq]; exact hpr
  have HO := hide (And.intro hpe (And.intro ha (And.intro hb' (And.intro hc' hd))))
  have HDF := hide hdf
  clear hpe ha hb' hc' hd hdf hpr
  go_wp2_with (go_at_call 14; refine (c14 ys _ _ _ _ rfl (by omega) (unhide HR4)).mono ?_; rintro e w' ⟨rfl, rfl⟩)
  refine (c16 ys _ _ _ _ rfl hcap1 (by omega) (unhide HR4)).mono ?_
  rintro e w5 ⟨rfl, hb5⟩
  have HS5 := hide ((unhide HS4).below hb5 (Nat.le_refl _))
  have HB5 := hide hb5
  clear hb5
  go_wp2_with fail
  refine (c15 ps _ _ _ _ _ _ _ _ rfl hcap2 (by omega) (unhide HS5)).mono ?_
  rintro e w6 ⟨rfl, hb6⟩
  have hbb := below_then (unhide HB5) hb6
  have hcell := cell_below hbb (unhide HC)
  have HB6 := hide (below_then (unhide HB4) hbb)
  have L0 := hide (cell_below hbb (unhide K0))
  have L1 := hide (cell_below hbb (unhide K1))
  have L2 := hide (cell_below hbb (unhide K2))
  have L3 := hide (cell_below hbb (unhide K3))
  clear hb6 hbb K0 K1 K2 K3 HC HB5 HS5 HS4 HR4 HB4
  rw [unhide HCH]
  clear HCH
  go_wp2_with fail
  have l0 := unhide L0
  have l1 := unhide L1
  have l2 := unhide L2
  have l3 := unhide L3
  simp only [Nat.add_zero] at l0
  simp at l0 l1 l2 l3
  obtain ⟨hpe, ha, hb', hc', hd⟩ := unhide HO
  clear L0 L1 L2 L3 HO hcell
  by_cases hac : a = c
  · have hbd : (b' != d) = true := by rw [bne_iff_ne]; exact fun h => unhide HDF ⟨hac, h⟩
    have hab : (a != c) = false := by rw [bne_eq_false_iff_eq]; exact hac
    clear hac HDF
    go_quiet ((first | (go_at_call 18; exact Calls.quiet_of_same (c18 _ _ _)) | (go_at_call 19; exact Calls.quiet_of_same (c19 _ _))))
    go_wp2_with fail
    go_ret
    exact ⟨rfl, below_drewN (unhide HB6) _⟩
  · have hab : (a != c) = true := by rw [bne_iff_ne]; exact hac
    clear hac HDF
    go_quiet ((first | (go_at_call 18; exact Calls.quiet_of_same (c18 _ _ _)) | (go_at_call 19; exact Calls.quiet_of_same (c19 _ _))))
    go_wp2_with fail
    go_ret
    exact ⟨rfl, below_drewN (unhide HB6) _⟩
end Go.Proofs.Ytdbnimgbmjeplaa
