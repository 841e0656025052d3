/-
  The walks of TreRoot of the program, and of the laws FnExactTreRoot and FnTreRoot.
-/
import Derived.Test.YtiockogogfoojaaTrees
namespace Go.Proofs.Ytiockogogfoojaa
open Go.RowKit
set_option linter.unusedVariables false

set_option maxHeartbeats 1000000 in
theorem c40 (zs : List Int) (ao : Option Addr) (n cap : Nat) (w : World) (hn : zs.length = n) (hcap : n ≤ cap) (hb : n ≤ 1048576) (hr : Row w ao zs) :
    Calls Try.prog 40 #[.slice ao n cap] w fun e w' => e = .returned (.int .i64 (Tm.treRoot zs)) ∧ Below w.heap.size w w' := by
  have HR := hide hr
  have HN := hide hn
  clear hr hn
  rcases ho : Tm.treOk zs with _ | _
  · have HU : Hid (Tm.treRoot zs = 0) := by unfold Hid Tm.treRoot; rw [ho]; rfl
    go_enter Try.func40, Try.ntmps40
    go_wp2_with (go_at_call 34; refine (c34 zs _ _ _ _ (unhide HN) (by omega) (unhide HR)).mono ?_; rintro e w' ⟨rfl, rfl⟩)
    go_ret
    exact ⟨ret_int (unhide HU).symm, Below.refl _ _⟩
  · have HU : Hid (Tm.treRoot zs = Tm.root zs) := by unfold Hid Tm.treRoot; rw [ho]; rfl
    have hl := (treOk_len ho).1
    have HA := hide (treOk_len ho).2
    rw [unhide HN] at hl
    go_enter Try.func40, Try.ntmps40
    go_wp2_with (go_at_call 34; refine (c34 zs _ _ _ _ (unhide HN) (by omega) (unhide HR)).mono ?_; rintro e w' ⟨rfl, rfl⟩)
    refine (c67 n zs _ _ _ _ (by rw [unhide HN]; exact Nat.le_refl _) (unhide HN) hl hcap (unhide HA) (unhide HR)).mono ?_
    rintro e w1 ⟨p, rfl, ht, hb1⟩
    have hc := ht.root
    have HB := hide hb1
    clear ht hb1
    go_wp2_with fail
    go_ret
    exact ⟨ret_int (unhide HU).symm, unhide HB⟩

set_option maxHeartbeats 1000000 in
theorem law18 (zs : List Int) (ao : Option Addr) (n cap : Nat) (w : World) (hn : zs.length = n) (hm : n ≤ maxLen) (hr : Row w ao zs) :
    Calls Try.prog 18 #[.slice ao n cap] w (Holds w) := by
  unfold maxLen at hm
  by_cases hbig : (1048576 : Int) < (n : Int)
  · go_enter Try.func18, Try.ntmps18
    go_wp2_with fail
    go_ret
    exact ⟨rfl, Below.refl _ _⟩
  · have HR := hide hr
    have HN := hide hn
    clear hr hn
    go_enter Try.func18, Try.ntmps18
    go_wp2_with fail
    refine (copy_any zs ao n cap _ HN.out (by omega) (unhide HR)).mono ?_
    rintro e w1 ⟨rfl, hr1, hb1⟩
    have HR1 := hide hr1
    clear hr1
    go_wp2_with fail
    refine (c41 zs _ n n _ HN.out (Nat.le_refl _) (by omega) (unhide HR1)).mono ?_
    rintro e w1' ⟨rfl, q, rfl⟩
    have hb1' := below_drewN hb1 q
    have HRa := hide ((unhide HR).below hb1' (Nat.le_refl _))
    go_wp2_with fail
    refine (copy_any zs ao n cap _ HN.out (by omega) (unhide HRa)).mono ?_
    rintro e w2 ⟨rfl, hr2, hb2⟩
    have HR2 := hide hr2
    have HRb := hide ((unhide HRa).below hb2 (Nat.le_refl _))
    have HB2 := hide (below_then hb1' hb2)
    clear hr2 hb2 hb1 hb1'
    go_wp2_with fail
    refine (c40 zs _ n n _ HN.out (Nat.le_refl _) (by omega) (unhide HR2)).mono ?_
    rintro e w3 ⟨rfl, hb3⟩
    have HRc := hide ((unhide HRb).below hb3 (Nat.le_refl _))
    have HR3 := hide ((unhide HR2).below hb3 (Nat.le_refl _))
    have HB3 := hide (below_then (unhide HB2) hb3)
    clear hb3
    generalize Tm.treRoot zs = x
    go_wp2_with fail
    refine (copy_any zs ao n cap _ HN.out (by omega) (unhide HRc)).mono ?_
    rintro e w4 ⟨rfl, hr4, hb4⟩
    have HR4 := hide hr4
    have HR5 := hide ((unhide HR3).below hb4 (Nat.le_refl _))
    have HB4 := hide (below_then (unhide HB3) hb4)
    clear hr4 hb4
    go_wp2_with fail
    refine (c56 zs zs _ _ n n n n _ HN.out HN.out (by omega) (by omega) (unhide HR5) (unhide HR4)).mono ?_
    rintro e w5 ⟨rfl, q2, rfl⟩
    rw [decide_self]
    have HB5 := hide (below_drewN (unhide HB4) q2)
    go_wp2_with fail
    go_ret
    exact ⟨rfl, unhide HB5⟩

theorem treRoot_of {l : List Int} (h1 : l.length ≤ 40) (h2 : Tm.okAll l = true) : Tm.treRoot l = Tm.root l := by
  unfold Tm.treRoot Tm.treOk; rw [h2, decide_eq_true h1]; rfl

set_option maxHeartbeats 2000000 in
theorem law7 (zs : List Int) (ao : Option Addr) (n cap : Nat) (w : World) (hn : zs.length = n) (hc : n ≤ cap) (hm : cap ≤ maxLen) (hB : Bytes w ao zs) :
    Calls Try.prog 7 #[.slice ao n cap] w (Holds w) := by
  have HM := hide hm
  unfold maxLen at hm
  have HB := hide hB
  clear hB
  by_cases hbig : (1048576 : Int) < (n : Int)
  · go_enter Try.func7, Try.ntmps7
    go_wp2_with fail
    go_ret
    exact ⟨rfl, Below.refl _ _⟩
  go_enter Try.func7, Try.ntmps7
  go_wp2_with fail
  refine (c39 zs ao n cap _ hn hc (unhide HM) (unhide HB)).mono ?_
  rintro e w1 ⟨v, ys, rfl, ho, hy, hb⟩
  obtain ⟨ao1, cap1, rfl, hcap1, hr, -⟩ := ho.row
  have HR := hide hr
  have HBe := hide hb
  clear ho hr hb HB HM hbig hm hc hn
  go_wp2_with fail
  refine (c40 ys _ _ _ _ rfl hcap1 (by omega) (unhide HR)).mono ?_
  rintro e w2 ⟨rfl, hb2⟩
  have HR2 := hide ((unhide HR).below hb2 (Nat.le_refl _))
  have HB2 := hide (below_then (unhide HBe) hb2)
  clear hb2
  go_wp2_with fail
  refine (c41 ys _ _ _ _ rfl hcap1 (by omega) (unhide HR2)).mono ?_
  rintro e w3 ⟨rfl, q, rfl⟩
  have HR3 := hide ((unhide HR2).drewN q)
  have HB3 := hide (below_drewN (unhide HB2) q)
  clear HR HBe HR2 HB2
  generalize w2.drewN q = w3 at *
  rcases hok : Tm.treOk ys with _ | _
  · have hz : Tm.treRoot ys = 0 := by unfold Tm.treRoot; rw [hok]; rfl
    rw [hz]
    clear hz
    go_wp2_with (first | (go_at_call 35; refine (c35 ys _ _ _ _ rfl (by omega) (unhide HR3)).mono ?_; rintro e w' ⟨rfl, rfl⟩) | (go_at_call 29; refine (c29 _).mono ?_; rintro e w' ⟨rfl, rfl⟩))
    go_ret
    exact ⟨rfl, unhide HB3⟩
  · obtain ⟨t1, t2⟩ := treOk_len hok
    rw [treRoot_of t1 t2]
    by_cases h0 : ys.length = 0
    · have hn0 : ys = [] := List.eq_nil_of_length_eq_zero h0
      subst hn0
      have h5 : (Tm.root [] == 5) = true := by decide
      clear h0 t1 t2
      go_wp2_with (first | (go_at_call 35; refine (c35 [] _ _ _ _ rfl (by omega) (unhide HR3)).mono ?_; rintro e w' ⟨rfl, rfl⟩) | (go_at_call 29; refine (c29 _).mono ?_; rintro e w' ⟨rfl, rfl⟩))
      go_ret
      exact ⟨rfl, unhide HB3⟩
    · obtain ⟨b, off, rfl, hcs⟩ := (unhide HR3).2 (by intro e; subst e; simp at h0)
      by_cases h1 : ys.length = 1
      · have hr1 := Tm.root_one h1
        rw [hr1]
        have hcell := hcs 0 (by omega)
        simp only [Nat.add_zero] at hcell
        clear hr1 hcs h0 t1 t2
        generalize ys.getD 0 0 = x at *
        go_wp2_with (first | (go_at_call 35; refine (c35 ys _ _ _ _ h1 (by omega) (unhide HR3)).mono ?_; rintro e w' ⟨rfl, rfl⟩) | (go_at_call 29; refine (c29 _).mono ?_; rintro e w' ⟨rfl, rfl⟩))
        go_ret
        exact ⟨rfl, unhide HB3⟩
      · have hs := Tm.sp_bd (l := ys) (by omega) (by omega)
        have hsi := Tm.sp_int (l := ys) (by omega) (by omega)
        have hts := Tm.treSplit_of (n := (ys.length : Int)) (by omega) (by omega)
        rw [hsi] at hts
        have hrm := Tm.root_more (l := ys) (by omega) (by omega)
        have hrb : (Tm.root ys == Tm.pair (Tm.root (ys.take (Tm.sp ys))) (Tm.root (ys.drop (Tm.sp ys)))) = true := by rw [beq_iff_eq]; exact hrm
        have hro := Tm.root_ok _ ys (Nat.le_refl _) t1 t2
        have HTS := hide hts
        obtain ⟨s1, s2, s3⟩ := hs
        have HRT := hide ((unhide HR3).take (Tm.sp ys))
        have HRD := hide ((unhide HR3).drop (Tm.sp ys))
        have HLT := hide (show (ys.take (Tm.sp ys)).length = Tm.sp ys by rw [List.length_take]; omega)
        have HLD := hide (show (ys.drop (Tm.sp ys)).length = ys.length - Tm.sp ys by rw [List.length_drop])
        have HQT := hide (treRoot_of (l := ys.take (Tm.sp ys)) (by rw [List.length_take]; omega) (Tm.okAll_take t2 _))
        have HQD := hide (treRoot_of (l := ys.drop (Tm.sp ys)) (by rw [List.length_drop]; omega) (Tm.okAll_drop t2 _))
        generalize ys.take (Tm.sp ys) = lt at *
        generalize ys.drop (Tm.sp ys) = rt at *
        generalize Tm.sp ys = s at *
        have k0 : (0 : Int) ≤ (s : Int) := by omega
        have k1 : (s : Int) ≤ (cap1 : Int) := by omega
        have k2 : (s : Int) ≤ (ys.length : Int) := by omega
        have k3 : (ys.length : Int) ≤ (cap1 : Int) := by omega
        clear hcs hsi hts hrm h0
        go_wp2_with (go_at_call 35; refine (c35 ys _ _ _ _ rfl (by omega) (unhide HR3)).mono ?_; rintro e w' ⟨rfl, rfl⟩)
        refine (c37 _ _).mono ?_
        rintro e w' ⟨rfl, rfl⟩
        rw [unhide HTS]
        go_wp2_with fail
        have hW0 := below_drew w'
        go_region_held3 (fun w'' => Below w'.heap.size w' w'') (assumption) (first | (go_at_call_of 40 (Value.slice (some ⟨b, off, none⟩) s cap1); refine (c40 lt _ _ _ _ (unhide HLT) (by omega) (by omega) (by exact (unhide HRT).drew)).mono ?_; rintro e w4 ⟨rfl, hb4⟩; rw [unhide HQT]; have hb5 := below_undrew hb4) | (go_at_call 40; refine (c40 rt _ _ _ _ (unhide HLD) (by omega) (by omega) (by exact (unhide HRD).below hb5 (Nat.le_refl _))).mono ?_; rintro e w5 ⟨rfl, hb6⟩; rw [unhide HQD]; have hb7 := below_then hb5 hb6) | (go_at_call 25; refine (c25 _ _ _).mono ?_; rintro e w6 ⟨rfl, rfl⟩) | (go_at_call 27; refine (c27 _ _).mono ?_; rintro e w7 ⟨rfl, rfl⟩))
        have HBg := hide (below_then (unhide HB3) hb7)
        clear hb4 hb5 hb6 hb7 hW0
        go_wp2_with fail
        go_ret
        exact ⟨rfl, unhide HBg⟩
end Go.Proofs.Ytiockogogfoojaa
