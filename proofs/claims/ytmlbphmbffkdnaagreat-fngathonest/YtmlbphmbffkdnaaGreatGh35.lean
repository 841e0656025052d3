/-
  Texts of the proof, what it needs of them: Gatk.
-/
import Derived.Test.YtmlbphmbffkdnaaGreatGh29
namespace Go.Proofs.YtmlbphmbffkdnaaGreat
open Go.RowKit
set_option linter.unusedVariables false
set_option maxRecDepth 100000

/-- the ticket ahead of the k-th -/
def gatLast (zs : List Int) : Nat → Int
  | 0 => -1
  | k + 1 => zs.getD k 0
theorem gatOk_no {s l o : Int} {zs : List Int} (h : hedOk s l o = false) : gatOk s l o zs = false := by unfold gatOk; rw [h]; rfl
theorem gatOk_yes {s l o : Int} {zs : List Int} (h : hedOk s l o = true) : gatOk s l o zs = gatFrom (-1) zs := by unfold gatOk; rw [h]; rfl
theorem gatOk_bad {s l o : Int} {zs : List Int} (h : gatFrom (-1) zs = false) : gatOk s l o zs = false := by unfold gatOk; rw [h]; cases hedOk s l o <;> rfl
theorem gatOk_all {s l o : Int} {zs : List Int} (h : gatFrom (-1) zs = true) : gatOk s l o zs = hedOk s l o := by unfold gatOk; rw [h]; cases hedOk s l o <;> rfl

set_option maxHeartbeats 8000000 in
theorem c13 (s l o : Int) (zs : List Int) (ao : Option Addr) (n cap : Nat) (w : World) (hn : zs.length = n) (hm : n ≤ 1048576) (hr : Row w ao zs) :
    Calls Tryz.prog 13 #[gatV s l o (.slice ao n cap)] w fun e w' => e = .returned (.bool (gatOk s l o zs)) ∧ Below w.heap.size w w' := by
  subst hn
  have HA := hide hr
  clear hr
  have HB := hide (Below.refl w.heap.size w)
  replace HB := hide (below_al (o := .cells #[.int .i64 s, .int .i64 l, .int .i64 o, .slice ao zs.length cap] 27) (unhide HB))
  have HX := hide (box_new w [.int .i64 s, .int .i64 l, .int .i64 o, .slice ao zs.length cap] 27 (by simp [Value.oneCell']))
  (try simp only [World.size_alloc] at HX)
  have x0 := (unhide HX).cell 0 rfl
  have x1 := (unhide HX).cell 1 rfl
  have x2 := (unhide HX).cell 2 rfl
  have x3 := (unhide HX).cell 3 rfl
  go_enter Tryz.func13, Tryz.ntmps13
  go_wp2_with fail
  (try clear x0 x1 x2 x3)
  go_loopw [3, 9] (fun la i wr => ∃ (k : Nat) (lv : Int), k ≤ zs.length ∧ i = .int .i64 k ∧ la = .int .i64 lv ∧ gatFrom (-1) zs = gatFrom lv (zs.drop k) ∧ Box wr w.heap.size [.int .i64 s, .int .i64 l, .int .i64 o, .slice ao zs.length cap] ∧ Below w.heap.size w wr) (fun _ i _ => zs.length - (intOf i).toNat)
  case atStart => exact ⟨0, -1, Nat.zero_le _, rfl, rfl, rfl, unhide HX, unhide HB⟩
  case round =>
    obtain ⟨k, lv, hk, rfl, rfl, hw, hbx, hbel⟩ := hrel
    obtain ⟨WA, hWA⟩ : ∃ x, x = wr := ⟨_, rfl⟩
    subst hWA
    clear HX HB
    have HX := hide hbx
    have HB := hide hbel
    clear hbx
    by_cases hlt : k < zs.length
    case neg =>
      obtain rfl : k = zs.length := by omega
      rw [List.drop_length] at hw
      have HU := hide (gatOk_all (s := s) (l := l) (o := o) hw)
      clear hw hbel
      have x0 := (unhide HX).cell 0 rfl
      have x1 := (unhide HX).cell 1 rfl
      have x2 := (unhide HX).cell 2 rfl
      have x3 := (unhide HX).cell 3 rfl
      go_wp2_with fail
      refine (c49 s l o _).mono ?_
      rintro e w1 ⟨rfl, hb⟩
      (try clear x0 x1 x2 x3)
      replace HB := hide (below_tr (unhide HB) hb)
      replace HX := hide ((unhide HX).bel hb)
      clear hb
      have x0 := (unhide HX).cell 0 rfl
      have x1 := (unhide HX).cell 1 rfl
      have x2 := (unhide HX).cell 2 rfl
      have x3 := (unhide HX).cell 3 rfl
      go_wp2_with fail
      go_ret
      exact ⟨ret_bool (unhide HU).symm, unhide HB⟩
    have e0 : (0 : Int) ≤ (k : Int) := by omega
    have e1 : (k : Int) < (zs.length : Int) := by omega
    obtain ⟨x, hx⟩ := i_at hlt
    obtain ⟨b, off, rfl, hc, hx1, hx2⟩ := ((unhide HA).bel hbel).get hx
    rw [i_drop hx] at hw
    rcases hq : decide (0 ≤ x ∧ x ≤ 7) with _ | _
    case false =>
      have HU := hide (gatOk_bad (s := s) (l := l) (o := o) (hw.trans (gat_bad hq)))
      clear hw hbel
      have x0 := (unhide HX).cell 0 rfl
      have x1 := (unhide HX).cell 1 rfl
      have x2 := (unhide HX).cell 2 rfl
      have x3 := (unhide HX).cell 3 rfl
      go_wp2_with fail
      refine (c47 x _).mono ?_
      rintro e w1 ⟨rfl, hww⟩
      have hww := hww.symm
      subst hww
      rw [hq]
      go_wp2_with fail
      go_ret
      exact ⟨ret_bool (unhide HU).symm, unhide HB⟩
    by_cases hl : x ≤ lv
    case pos =>
      have HU := hide (gatOk_bad (s := s) (l := l) (o := o) (hw.trans (gat_low hl)))
      clear hw hbel
      have x0 := (unhide HX).cell 0 rfl
      have x1 := (unhide HX).cell 1 rfl
      have x2 := (unhide HX).cell 2 rfl
      have x3 := (unhide HX).cell 3 rfl
      go_wp2_with fail
      refine (c47 x _).mono ?_
      rintro e w1 ⟨rfl, hww⟩
      have hww := hww.symm
      subst hww
      rw [hq]
      go_wp2_with fail
      go_ret
      exact ⟨ret_bool (unhide HU).symm, unhide HB⟩
    have HW := hide (hw.trans (gat_on hq hl))
    clear hw hbel
    have x0 := (unhide HX).cell 0 rfl
    have x1 := (unhide HX).cell 1 rfl
    have x2 := (unhide HX).cell 2 rfl
    have x3 := (unhide HX).cell 3 rfl
    go_wp2_with fail
    refine (c47 x _).mono ?_
    rintro e w1 ⟨rfl, hww⟩
    have hww := hww.symm
    subst hww
    rw [hq]
    go_wp2_with fail
    (try clear x0 x1 x2 x3)
    go_roundw
    case rel => exact ⟨k + 1, x, by omega, by go_num, rfl, unhide HW, unhide HX, unhide HB⟩
    case measure => simp [intOf]; omega

set_option maxHeartbeats 8000000 in
theorem c9 (s l o : Int) (zs : List Int) (ao : Option Addr) (n cap : Nat) (w : World) (hn : zs.length = n) (hm : n ≤ 1048576) (hr : Row w ao zs) :
    Calls Tryz.prog 9 #[gatV s l o (.slice ao n cap)] w fun e w' => e = .returned (.bool (gatOk s l o zs)) ∧ Below w.heap.size w w' := by
  subst hn
  have HA := hide hr
  clear hr
  have HB := hide (Below.refl w.heap.size w)
  replace HB := hide (below_al (o := .cells #[.int .i64 s, .int .i64 l, .int .i64 o, .slice ao zs.length cap] 27) (unhide HB))
  have HX := hide (box_new w [.int .i64 s, .int .i64 l, .int .i64 o, .slice ao zs.length cap] 27 (by simp [Value.oneCell']))
  (try simp only [World.size_alloc] at HX)
  rcases hh : hedOk s l o with _ | _
  case false =>
    have HU := hide (gatOk_no (zs := zs) hh)
    have x0 := (unhide HX).cell 0 rfl
    have x1 := (unhide HX).cell 1 rfl
    have x2 := (unhide HX).cell 2 rfl
    have x3 := (unhide HX).cell 3 rfl
    go_enter Tryz.func9, Tryz.ntmps9
    go_wp2_with fail
    refine (c45 s l o _).mono ?_
    rintro e w1 ⟨rfl, hb⟩
    rw [hh]
    (try clear x0 x1 x2 x3)
    replace HB := hide (below_tr (unhide HB) hb)
    replace HX := hide ((unhide HX).bel hb)
    clear hb
    have x0 := (unhide HX).cell 0 rfl
    have x1 := (unhide HX).cell 1 rfl
    have x2 := (unhide HX).cell 2 rfl
    have x3 := (unhide HX).cell 3 rfl
    go_wp2_with fail
    go_ret
    exact ⟨ret_bool (unhide HU).symm, unhide HB⟩
  have HS := hide (gatOk_yes (zs := zs) hh)
  by_cases h8 : (8 : Int) < (zs.length : Int)
  case pos =>
    have HU := hide ((unhide HS).trans (gat_long h8))
    have x0 := (unhide HX).cell 0 rfl
    have x1 := (unhide HX).cell 1 rfl
    have x2 := (unhide HX).cell 2 rfl
    have x3 := (unhide HX).cell 3 rfl
    go_enter Tryz.func9, Tryz.ntmps9
    go_wp2_with fail
    refine (c45 s l o _).mono ?_
    rintro e w1 ⟨rfl, hb⟩
    rw [hh]
    (try clear x0 x1 x2 x3)
    replace HB := hide (below_tr (unhide HB) hb)
    replace HX := hide ((unhide HX).bel hb)
    clear hb
    have x0 := (unhide HX).cell 0 rfl
    have x1 := (unhide HX).cell 1 rfl
    have x2 := (unhide HX).cell 2 rfl
    have x3 := (unhide HX).cell 3 rfl
    go_wp2_with fail
    go_ret
    exact ⟨ret_bool (unhide HU).symm, unhide HB⟩
  have x0 := (unhide HX).cell 0 rfl
  have x1 := (unhide HX).cell 1 rfl
  have x2 := (unhide HX).cell 2 rfl
  have x3 := (unhide HX).cell 3 rfl
  go_enter Tryz.func9, Tryz.ntmps9
  go_wp2_with fail
  refine (c45 s l o _).mono ?_
  rintro e w1 ⟨rfl, hb⟩
  rw [hh]
  (try clear x0 x1 x2 x3)
  replace HB := hide (below_tr (unhide HB) hb)
  replace HX := hide ((unhide HX).bel hb)
  clear hb
  have x0 := (unhide HX).cell 0 rfl
  have x1 := (unhide HX).cell 1 rfl
  have x2 := (unhide HX).cell 2 rfl
  have x3 := (unhide HX).cell 3 rfl
  go_wp2_with fail
  (try clear x0 x1 x2 x3)
  go_loopw [3] (fun i wr => ∃ k : Nat, k ≤ zs.length ∧ i = .int .i64 k ∧ gatFrom (-1) zs = gatFrom (gatLast zs k) (zs.drop k) ∧ Box wr w.heap.size [.int .i64 s, .int .i64 l, .int .i64 o, .slice ao zs.length cap] ∧ Below w.heap.size w wr) (fun i _ => zs.length - (intOf i).toNat)
  case atStart => exact ⟨0, Nat.zero_le _, rfl, rfl, unhide HX, unhide HB⟩
  case round =>
    obtain ⟨k, hk, rfl, hw, hbx, hbel⟩ := hrel
    obtain ⟨WA, hWA⟩ : ∃ x, x = wr := ⟨_, rfl⟩
    subst hWA
    clear HX HB
    have HX := hide hbx
    have HB := hide hbel
    clear hbx
    by_cases hlt : k < zs.length
    case neg =>
      obtain rfl : k = zs.length := by omega
      rw [List.drop_length] at hw
      have HU : Hid (gatOk s l o zs = true) := (unhide HS).trans hw
      clear hw hbel
      have x0 := (unhide HX).cell 0 rfl
      have x1 := (unhide HX).cell 1 rfl
      have x2 := (unhide HX).cell 2 rfl
      have x3 := (unhide HX).cell 3 rfl
      go_wp2_with fail
      go_ret
      exact ⟨ret_bool (unhide HU).symm, unhide HB⟩
    have e0 : (0 : Int) ≤ (k : Int) := by omega
    have e1 : (k : Int) < (zs.length : Int) := by omega
    obtain ⟨x, hx⟩ := i_at hlt
    obtain ⟨b, off, rfl, hc, hx1, hx2⟩ := ((unhide HA).bel hbel).get hx
    rw [i_drop hx] at hw
    have HC := hide hc
    clear hc
    rcases hq : decide (0 ≤ x ∧ x ≤ 7) with _ | _
    case false =>
      have HU : Hid (gatOk s l o zs = false) := (unhide HS).trans (hw.trans (gat_bad hq))
      clear hw hbel
      have x0 := (unhide HX).cell 0 rfl
      have x1 := (unhide HX).cell 1 rfl
      have x2 := (unhide HX).cell 2 rfl
      have x3 := (unhide HX).cell 3 rfl
      go_wp2_with fail
      (try clear x0 x1 x2 x3)
      (try clear x0 x1 x2 x3)
      refine wp_region_held_drew (S := fun w' => Below WA.heap.size WA w') (by kernel_rfl) (below_drew WA) (fun hHeld => ?_)
      refine tk 0 (some 21) (v := ?_) ?_ ?_
      rotate_left
      · intro w hSw
        have hT := (unhide HX).below hSw; have x0 := hT.cell 0 rfl; have x1 := hT.cell 1 rfl; have x2 := hT.cell 2 rfl; have x3 := hT.cell 3 rfl; clear hT; have hc := cell_bl hSw (unhide HC)
        first | (go_simp; done) | (go_simp; with_reducible rfl) | with_reducible rfl | rfl
      try simp only [Act.put, List.setIfInBounds_toArray, List.set_cons_zero, List.set_cons_succ]
      refine tk 1 (some 22) (v := ?_) ?_ ?_
      rotate_left
      · intro w hSw
        have hT := (unhide HX).below hSw; have x0 := hT.cell 0 rfl; have x1 := hT.cell 1 rfl; have x2 := hT.cell 2 rfl; have x3 := hT.cell 3 rfl; clear hT; have hc := cell_bl hSw (unhide HC)
        first | (go_simp; done) | (go_simp; with_reducible rfl) | with_reducible rfl | rfl
      try simp only [Act.put, List.setIfInBounds_toArray, List.set_cons_zero, List.set_cons_succ]
      refine tk 2 (some 23) (v := ?_) ?_ ?_
      rotate_left
      · intro w hSw
        first | (go_simp; done) | (go_simp; with_reducible rfl) | with_reducible rfl | rfl
      try simp only [Act.put, List.setIfInBounds_toArray, List.set_cons_zero, List.set_cons_succ]
      refine tk 3 (some 24) (v := ?_) ?_ ?_
      rotate_left
      · intro w hSw
        have hT := (unhide HX).below hSw; have x0 := hT.cell 0 rfl; have x1 := hT.cell 1 rfl; have x2 := hT.cell 2 rfl; have x3 := hT.cell 3 rfl; clear hT; have hc := cell_bl hSw (unhide HC)
        first | (go_simp; done) | (go_simp; with_reducible rfl) | with_reducible rfl | rfl
      try simp only [Act.put, List.setIfInBounds_toArray, List.set_cons_zero, List.set_cons_succ]
      refine tk 4 (some 25) (v := ?_) ?_ ?_
      rotate_left
      · intro w hSw
        have hT := (unhide HX).below hSw; have x0 := hT.cell 0 rfl; have x1 := hT.cell 1 rfl; have x2 := hT.cell 2 rfl; have x3 := hT.cell 3 rfl; clear hT; have hc := cell_bl hSw (unhide HC)
        first | (go_simp; done) | (go_simp; with_reducible rfl) | with_reducible rfl | rfl
      try simp only [Act.put, List.setIfInBounds_toArray, List.set_cons_zero, List.set_cons_succ]
      have HD := below_drew WA
      generalize WA.drew = V0 at *
      refine wpAnyH_ready (rs := [5]) (by kernel_rfl) (by simp) ?_
      refine AllReadyH.cons (o := { dst := some 26, op := _, type := _, pos := _, after := _, guard := _ }) rfl (fun K hK => ?_) AllReadyH.nil
      go_simp
      go_at_call 40
      refine (c40 x 0 7 _).mono ?_
      rintro e V1 ⟨rfl, hww⟩
      have hww := hww.symm
      subst hww
      rw [hq]
      try go_wp2_with fail
      refine hK.out _ _ HD (fun hHeld => ?_)
      clear hK K hHeld
      try simp only [Act.put, List.setIfInBounds_toArray, List.set_cons_zero, List.set_cons_succ]
      refine tk 6 (some 27) (v := ?_) ?_ ?_
      rotate_left
      · intro w hSw
        first | (go_simp; done) | (go_simp; with_reducible rfl) | with_reducible rfl | rfl
      try simp only [Act.put, List.setIfInBounds_toArray, List.set_cons_zero, List.set_cons_succ]
      refine tk 7 (some 28) (v := ?_) ?_ ?_
      rotate_left
      · intro w hSw
        first | (go_simp; done) | (go_simp; with_reducible rfl) | with_reducible rfl | rfl
      try simp only [Act.put, List.setIfInBounds_toArray, List.set_cons_zero, List.set_cons_succ]
      refine sk 8 (some 29) ?_
      try simp only [Act.put, List.setIfInBounds_toArray, List.set_cons_zero, List.set_cons_succ]
      refine sk 9 (some 30) ?_
      try simp only [Act.put, List.setIfInBounds_toArray, List.set_cons_zero, List.set_cons_succ]
      refine sk 10 (some 31) ?_
      try simp only [Act.put, List.setIfInBounds_toArray, List.set_cons_zero, List.set_cons_succ]
      refine sk 11 (some 32) ?_
      try simp only [Act.put, List.setIfInBounds_toArray, List.set_cons_zero, List.set_cons_succ]
      refine sk 12 (some 33) ?_
      try simp only [Act.put, List.setIfInBounds_toArray, List.set_cons_zero, List.set_cons_succ]
      refine sk 13 (some 34) ?_
      try simp only [Act.put, List.setIfInBounds_toArray, List.set_cons_zero, List.set_cons_succ]
      refine sk 14 (some 35) ?_
      try simp only [Act.put, List.setIfInBounds_toArray, List.set_cons_zero, List.set_cons_succ]
      refine sk 15 (some 36) ?_
      try simp only [Act.put, List.setIfInBounds_toArray, List.set_cons_zero, List.set_cons_succ]
      refine sk 16 (some 37) ?_
      try simp only [Act.put, List.setIfInBounds_toArray, List.set_cons_zero, List.set_cons_succ]
      refine sk 17 (some 38) ?_
      try simp only [Act.put, List.setIfInBounds_toArray, List.set_cons_zero, List.set_cons_succ]
      refine sk 18 (some 39) ?_
      try simp only [Act.put, List.setIfInBounds_toArray, List.set_cons_zero, List.set_cons_succ]
      refine sk 19 (some 40) ?_
      try simp only [Act.put, List.setIfInBounds_toArray, List.set_cons_zero, List.set_cons_succ]
      refine sk 20 (some 41) ?_
      try simp only [Act.put, List.setIfInBounds_toArray, List.set_cons_zero, List.set_cons_succ]
      refine sk 21 (some 42) ?_
      try simp only [Act.put, List.setIfInBounds_toArray, List.set_cons_zero, List.set_cons_succ]
      refine sk 22 (some 43) ?_
      try simp only [Act.put, List.setIfInBounds_toArray, List.set_cons_zero, List.set_cons_succ]
      refine sk 23 (some 44) ?_
      try simp only [Act.put, List.setIfInBounds_toArray, List.set_cons_zero, List.set_cons_succ]
      refine tk 24 (some 45) (v := ?_) ?_ ?_
      rotate_left
      · intro w hSw
        first | (go_simp; done) | (go_simp; with_reducible rfl) | with_reducible rfl | rfl
      try simp only [Act.put, List.setIfInBounds_toArray, List.set_cons_zero, List.set_cons_succ]
      refine wpAnyH_done (by kernel_rfl) ?_ _
      replace HB := hide (below_tr (unhide HB) HD)
      replace HX := hide ((unhide HX).bel HD)
      clear HD 
      have x0 := (unhide HX).cell 0 rfl
      have x1 := (unhide HX).cell 1 rfl
      have x2 := (unhide HX).cell 2 rfl
      have x3 := (unhide HX).cell 3 rfl
      go_wp2_with fail
      go_ret
      exact ⟨ret_bool (unhide HU).symm, unhide HB⟩
    have HN : Hid (gatLast zs (k + 1) = x) := by show zs.getD k 0 = x; rw [List.getD_eq_getElem?_getD, hx]; rfl
    rcases Nat.eq_zero_or_pos k with hk0 | hk0
    case inl =>
      subst hk0
      simp only [Nat.add_zero] at HC
      have HW := hide (hw.trans (gat_on hq (by simp only [decide_eq_true_eq] at hq; simp only [gatLast]; omega)))
      clear hw hbel
      have x0 := (unhide HX).cell 0 rfl
      have x1 := (unhide HX).cell 1 rfl
      have x2 := (unhide HX).cell 2 rfl
      have x3 := (unhide HX).cell 3 rfl
      go_wp2_with fail
      (try clear x0 x1 x2 x3)
      (try clear x0 x1 x2 x3)
      refine wp_region_held_drew (S := fun w' => Below WA.heap.size WA w') (by kernel_rfl) (below_drew WA) (fun hHeld => ?_)
      refine tk 0 (some 21) (v := ?_) ?_ ?_
      rotate_left
      · intro w hSw
        have hT := (unhide HX).below hSw; have x0 := hT.cell 0 rfl; have x1 := hT.cell 1 rfl; have x2 := hT.cell 2 rfl; have x3 := hT.cell 3 rfl; clear hT; have hc := cell_bl hSw (unhide HC)
        first | (go_simp; done) | (go_simp; with_reducible rfl) | with_reducible rfl | rfl
      try simp only [Act.put, List.setIfInBounds_toArray, List.set_cons_zero, List.set_cons_succ]
      refine tk 1 (some 22) (v := ?_) ?_ ?_
      rotate_left
      · intro w hSw
        have hT := (unhide HX).below hSw; have x0 := hT.cell 0 rfl; have x1 := hT.cell 1 rfl; have x2 := hT.cell 2 rfl; have x3 := hT.cell 3 rfl; clear hT; have hc := cell_bl hSw (unhide HC)
        first | (go_simp; done) | (go_simp; with_reducible rfl) | with_reducible rfl | rfl
      try simp only [Act.put, List.setIfInBounds_toArray, List.set_cons_zero, List.set_cons_succ]
      refine tk 2 (some 23) (v := ?_) ?_ ?_
      rotate_left
      · intro w hSw
        first | (go_simp; done) | (go_simp; with_reducible rfl) | with_reducible rfl | rfl
      try simp only [Act.put, List.setIfInBounds_toArray, List.set_cons_zero, List.set_cons_succ]
      refine tk 3 (some 24) (v := ?_) ?_ ?_
      rotate_left
      · intro w hSw
        have hT := (unhide HX).below hSw; have x0 := hT.cell 0 rfl; have x1 := hT.cell 1 rfl; have x2 := hT.cell 2 rfl; have x3 := hT.cell 3 rfl; clear hT; have hc := cell_bl hSw (unhide HC)
        first | (go_simp; done) | (go_simp; with_reducible rfl) | with_reducible rfl | rfl
      try simp only [Act.put, List.setIfInBounds_toArray, List.set_cons_zero, List.set_cons_succ]
      refine tk 4 (some 25) (v := ?_) ?_ ?_
      rotate_left
      · intro w hSw
        have hT := (unhide HX).below hSw; have x0 := hT.cell 0 rfl; have x1 := hT.cell 1 rfl; have x2 := hT.cell 2 rfl; have x3 := hT.cell 3 rfl; clear hT; have hc := cell_bl hSw (unhide HC)
        first | (go_simp; done) | (go_simp; with_reducible rfl) | with_reducible rfl | rfl
      try simp only [Act.put, List.setIfInBounds_toArray, List.set_cons_zero, List.set_cons_succ]
      have HD := below_drew WA
      generalize WA.drew = V0 at *
      refine wpAnyH_ready (rs := [5]) (by kernel_rfl) (by simp) ?_
      refine AllReadyH.cons (o := { dst := some 26, op := _, type := _, pos := _, after := _, guard := _ }) rfl (fun K hK => ?_) AllReadyH.nil
      go_simp
      go_at_call 40
      refine (c40 x 0 7 _).mono ?_
      rintro e V1 ⟨rfl, hww⟩
      have hww := hww.symm
      subst hww
      rw [hq]
      try go_wp2_with fail
      refine hK.out _ _ HD (fun hHeld => ?_)
      clear hK K hHeld
      try simp only [Act.put, List.setIfInBounds_toArray, List.set_cons_zero, List.set_cons_succ]
      refine tk 6 (some 27) (v := ?_) ?_ ?_
      rotate_left
      · intro w hSw
        first | (go_simp; done) | (go_simp; with_reducible rfl) | with_reducible rfl | rfl
      try simp only [Act.put, List.setIfInBounds_toArray, List.set_cons_zero, List.set_cons_succ]
      refine tk 7 (some 28) (v := ?_) ?_ ?_
      rotate_left
      · intro w hSw
        first | (go_simp; done) | (go_simp; with_reducible rfl) | with_reducible rfl | rfl
      try simp only [Act.put, List.setIfInBounds_toArray, List.set_cons_zero, List.set_cons_succ]
      refine tk 8 (some 29) (v := ?_) ?_ ?_
      rotate_left
      · intro w hSw
        first | (go_simp; done) | (go_simp; with_reducible rfl) | with_reducible rfl | rfl
      try simp only [Act.put, List.setIfInBounds_toArray, List.set_cons_zero, List.set_cons_succ]
      refine tk 9 (some 30) (v := ?_) ?_ ?_
      rotate_left
      · intro w hSw
        first | (go_simp; done) | (go_simp; with_reducible rfl) | with_reducible rfl | rfl
      try simp only [Act.put, List.setIfInBounds_toArray, List.set_cons_zero, List.set_cons_succ]
      refine tk 10 (some 31) (v := ?_) ?_ ?_
      rotate_left
      · intro w hSw
        first | (go_simp; done) | (go_simp; with_reducible rfl) | with_reducible rfl | rfl
      try simp only [Act.put, List.setIfInBounds_toArray, List.set_cons_zero, List.set_cons_succ]
      refine sk 11 (some 32) ?_
      try simp only [Act.put, List.setIfInBounds_toArray, List.set_cons_zero, List.set_cons_succ]
      refine sk 12 (some 33) ?_
      try simp only [Act.put, List.setIfInBounds_toArray, List.set_cons_zero, List.set_cons_succ]
      refine sk 13 (some 34) ?_
      try simp only [Act.put, List.setIfInBounds_toArray, List.set_cons_zero, List.set_cons_succ]
      refine sk 14 (some 35) ?_
      try simp only [Act.put, List.setIfInBounds_toArray, List.set_cons_zero, List.set_cons_succ]
      refine sk 15 (some 36) ?_
      try simp only [Act.put, List.setIfInBounds_toArray, List.set_cons_zero, List.set_cons_succ]
      refine sk 16 (some 37) ?_
      try simp only [Act.put, List.setIfInBounds_toArray, List.set_cons_zero, List.set_cons_succ]
      refine sk 17 (some 38) ?_
      try simp only [Act.put, List.setIfInBounds_toArray, List.set_cons_zero, List.set_cons_succ]
      refine sk 18 (some 39) ?_
      try simp only [Act.put, List.setIfInBounds_toArray, List.set_cons_zero, List.set_cons_succ]
      refine sk 19 (some 40) ?_
      try simp only [Act.put, List.setIfInBounds_toArray, List.set_cons_zero, List.set_cons_succ]
      refine sk 20 (some 41) ?_
      try simp only [Act.put, List.setIfInBounds_toArray, List.set_cons_zero, List.set_cons_succ]
      refine sk 21 (some 42) ?_
      try simp only [Act.put, List.setIfInBounds_toArray, List.set_cons_zero, List.set_cons_succ]
      refine sk 22 (some 43) ?_
      try simp only [Act.put, List.setIfInBounds_toArray, List.set_cons_zero, List.set_cons_succ]
      refine tk 23 (some 44) (v := ?_) ?_ ?_
      rotate_left
      · intro w hSw
        first | (go_simp; done) | (go_simp; with_reducible rfl) | with_reducible rfl | rfl
      try simp only [Act.put, List.setIfInBounds_toArray, List.set_cons_zero, List.set_cons_succ]
      refine tk 24 (some 45) (v := ?_) ?_ ?_
      rotate_left
      · intro w hSw
        first | (go_simp; done) | (go_simp; with_reducible rfl) | with_reducible rfl | rfl
      try simp only [Act.put, List.setIfInBounds_toArray, List.set_cons_zero, List.set_cons_succ]
      refine wpAnyH_done (by kernel_rfl) ?_ _
      replace HB := hide (below_tr (unhide HB) HD)
      replace HX := hide ((unhide HX).bel HD)
      clear HD 
      have x0 := (unhide HX).cell 0 rfl
      have x1 := (unhide HX).cell 1 rfl
      have x2 := (unhide HX).cell 2 rfl
      have x3 := (unhide HX).cell 3 rfl
      go_wp2_with fail
      (try clear x0 x1 x2 x3)
      go_roundw
      case rel => exact ⟨0 + 1, by omega, by go_num, by rw [unhide HN]; exact unhide HW, unhide HX, unhide HB⟩
      case measure => simp [intOf]; omega
    obtain ⟨m, hm1⟩ : ∃ m, k = m + 1 := ⟨k - 1, by omega⟩
    obtain ⟨y, hy⟩ := i_at (show m < zs.length by omega)
    obtain ⟨b', off', he, hp, -, -⟩ := ((unhide HA).bel hbel).get hy
    cases he
    have HP := hide hp
    clear hp
    have hlast : gatLast zs k = y := by rw [hm1]; show zs.getD m 0 = y; rw [List.getD_eq_getElem?_getD, hy]; rfl
    rw [hlast] at hw
    clear hlast hy
    have e2 : (k : Int) - 1 = (m : Int) := by omega
    have e3 : IntKind.i64.wrap (m : Int) = (m : Int) := wrap_sub (by omega) (by omega)
    have e4 : (0 : Int) ≤ (m : Int) := by omega
    have e5 : (m : Int) < (zs.length : Int) := by omega
    have e6 : (0 : Int) < (k : Int) := by omega
    clear hm1
    by_cases hl : x ≤ y
    case pos =>
      have HU : Hid (gatOk s l o zs = false) := (unhide HS).trans (hw.trans (gat_low hl))
      clear hw hbel
      have x0 := (unhide HX).cell 0 rfl
      have x1 := (unhide HX).cell 1 rfl
      have x2 := (unhide HX).cell 2 rfl
      have x3 := (unhide HX).cell 3 rfl
      go_wp2_with fail
      (try clear x0 x1 x2 x3)
      (try clear x0 x1 x2 x3)
      refine wp_region_held_drew (S := fun w' => Below WA.heap.size WA w') (by kernel_rfl) (below_drew WA) (fun hHeld => ?_)
      refine tk 0 (some 21) (v := ?_) ?_ ?_
      rotate_left
      · intro w hSw
        have hT := (unhide HX).below hSw; have x0 := hT.cell 0 rfl; have x1 := hT.cell 1 rfl; have x2 := hT.cell 2 rfl; have x3 := hT.cell 3 rfl; clear hT; have hc := cell_bl hSw (unhide HC); have hp := cell_bl hSw (unhide HP)
        first | (go_simp; done) | (go_simp; with_reducible rfl) | with_reducible rfl | rfl
      try simp only [Act.put, List.setIfInBounds_toArray, List.set_cons_zero, List.set_cons_succ]
      refine tk 1 (some 22) (v := ?_) ?_ ?_
      rotate_left
      · intro w hSw
        have hT := (unhide HX).below hSw; have x0 := hT.cell 0 rfl; have x1 := hT.cell 1 rfl; have x2 := hT.cell 2 rfl; have x3 := hT.cell 3 rfl; clear hT; have hc := cell_bl hSw (unhide HC); have hp := cell_bl hSw (unhide HP)
        first | (go_simp; done) | (go_simp; with_reducible rfl) | with_reducible rfl | rfl
      try simp only [Act.put, List.setIfInBounds_toArray, List.set_cons_zero, List.set_cons_succ]
      refine tk 2 (some 23) (v := ?_) ?_ ?_
      rotate_left
      · intro w hSw
        first | (go_simp; done) | (go_simp; with_reducible rfl) | with_reducible rfl | rfl
      try simp only [Act.put, List.setIfInBounds_toArray, List.set_cons_zero, List.set_cons_succ]
      refine tk 3 (some 24) (v := ?_) ?_ ?_
      rotate_left
      · intro w hSw
        have hT := (unhide HX).below hSw; have x0 := hT.cell 0 rfl; have x1 := hT.cell 1 rfl; have x2 := hT.cell 2 rfl; have x3 := hT.cell 3 rfl; clear hT; have hc := cell_bl hSw (unhide HC); have hp := cell_bl hSw (unhide HP)
        first | (go_simp; done) | (go_simp; with_reducible rfl) | with_reducible rfl | rfl
      try simp only [Act.put, List.setIfInBounds_toArray, List.set_cons_zero, List.set_cons_succ]
      refine tk 4 (some 25) (v := ?_) ?_ ?_
      rotate_left
      · intro w hSw
        have hT := (unhide HX).below hSw; have x0 := hT.cell 0 rfl; have x1 := hT.cell 1 rfl; have x2 := hT.cell 2 rfl; have x3 := hT.cell 3 rfl; clear hT; have hc := cell_bl hSw (unhide HC); have hp := cell_bl hSw (unhide HP)
        first | (go_simp; done) | (go_simp; with_reducible rfl) | with_reducible rfl | rfl
      try simp only [Act.put, List.setIfInBounds_toArray, List.set_cons_zero, List.set_cons_succ]
      have HD := below_drew WA
      generalize WA.drew = V0 at *
      refine wpAnyH_ready (rs := [5]) (by kernel_rfl) (by simp) ?_
      refine AllReadyH.cons (o := { dst := some 26, op := _, type := _, pos := _, after := _, guard := _ }) rfl (fun K hK => ?_) AllReadyH.nil
      go_simp
      go_at_call 40
      refine (c40 x 0 7 _).mono ?_
      rintro e V1 ⟨rfl, hww⟩
      have hww := hww.symm
      subst hww
      rw [hq]
      try go_wp2_with fail
      refine hK.out _ _ HD (fun hHeld => ?_)
      clear hK K hHeld
      try simp only [Act.put, List.setIfInBounds_toArray, List.set_cons_zero, List.set_cons_succ]
      refine tk 6 (some 27) (v := ?_) ?_ ?_
      rotate_left
      · intro w hSw
        first | (go_simp; done) | (go_simp; with_reducible rfl) | with_reducible rfl | rfl
      try simp only [Act.put, List.setIfInBounds_toArray, List.set_cons_zero, List.set_cons_succ]
      refine tk 7 (some 28) (v := ?_) ?_ ?_
      rotate_left
      · intro w hSw
        first | (go_simp; done) | (go_simp; with_reducible rfl) | with_reducible rfl | rfl
      try simp only [Act.put, List.setIfInBounds_toArray, List.set_cons_zero, List.set_cons_succ]
      refine tk 8 (some 29) (v := ?_) ?_ ?_
      rotate_left
      · intro w hSw
        first | (go_simp; done) | (go_simp; with_reducible rfl) | with_reducible rfl | rfl
      try simp only [Act.put, List.setIfInBounds_toArray, List.set_cons_zero, List.set_cons_succ]
      refine tk 9 (some 30) (v := ?_) ?_ ?_
      rotate_left
      · intro w hSw
        first | (go_simp; done) | (go_simp; with_reducible rfl) | with_reducible rfl | rfl
      try simp only [Act.put, List.setIfInBounds_toArray, List.set_cons_zero, List.set_cons_succ]
      refine tk 10 (some 31) (v := ?_) ?_ ?_
      rotate_left
      · intro w hSw
        first | (go_simp; done) | (go_simp; with_reducible rfl) | with_reducible rfl | rfl
      try simp only [Act.put, List.setIfInBounds_toArray, List.set_cons_zero, List.set_cons_succ]
      refine tk 11 (some 32) (v := ?_) ?_ ?_
      rotate_left
      · intro w hSw
        have hT := (unhide HX).below hSw; have x0 := hT.cell 0 rfl; have x1 := hT.cell 1 rfl; have x2 := hT.cell 2 rfl; have x3 := hT.cell 3 rfl; clear hT; have hc := cell_bl hSw (unhide HC); have hp := cell_bl hSw (unhide HP)
        first | (go_simp; done) | (go_simp; with_reducible rfl) | with_reducible rfl | rfl
      try simp only [Act.put, List.setIfInBounds_toArray, List.set_cons_zero, List.set_cons_succ]
      refine tk 12 (some 33) (v := ?_) ?_ ?_
      rotate_left
      · intro w hSw
        have hT := (unhide HX).below hSw; have x0 := hT.cell 0 rfl; have x1 := hT.cell 1 rfl; have x2 := hT.cell 2 rfl; have x3 := hT.cell 3 rfl; clear hT; have hc := cell_bl hSw (unhide HC); have hp := cell_bl hSw (unhide HP)
        first | (go_simp; done) | (go_simp; with_reducible rfl) | with_reducible rfl | rfl
      try simp only [Act.put, List.setIfInBounds_toArray, List.set_cons_zero, List.set_cons_succ]
      refine tk 13 (some 34) (v := ?_) ?_ ?_
      rotate_left
      · intro w hSw
        first | (go_simp; done) | (go_simp; with_reducible rfl) | with_reducible rfl | rfl
      try simp only [Act.put, List.setIfInBounds_toArray, List.set_cons_zero, List.set_cons_succ]
      refine tk 14 (some 35) (v := ?_) ?_ ?_
      rotate_left
      · intro w hSw
        first | (go_simp; done) | (go_simp; with_reducible rfl) | with_reducible rfl | rfl
      try simp only [Act.put, List.setIfInBounds_toArray, List.set_cons_zero, List.set_cons_succ]
      refine tk 15 (some 36) (v := ?_) ?_ ?_
      rotate_left
      · intro w hSw
        have hT := (unhide HX).below hSw; have x0 := hT.cell 0 rfl; have x1 := hT.cell 1 rfl; have x2 := hT.cell 2 rfl; have x3 := hT.cell 3 rfl; clear hT; have hc := cell_bl hSw (unhide HC); have hp := cell_bl hSw (unhide HP)
        first | (go_simp; done) | (go_simp; with_reducible rfl) | with_reducible rfl | rfl
      try simp only [Act.put, List.setIfInBounds_toArray, List.set_cons_zero, List.set_cons_succ]
      refine tk 16 (some 37) (v := ?_) ?_ ?_
      rotate_left
      · intro w hSw
        have hT := (unhide HX).below hSw; have x0 := hT.cell 0 rfl; have x1 := hT.cell 1 rfl; have x2 := hT.cell 2 rfl; have x3 := hT.cell 3 rfl; clear hT; have hc := cell_bl hSw (unhide HC); have hp := cell_bl hSw (unhide HP)
        first | (go_simp; done) | (go_simp; with_reducible rfl) | with_reducible rfl | rfl
      try simp only [Act.put, List.setIfInBounds_toArray, List.set_cons_zero, List.set_cons_succ]
      refine tk 17 (some 38) (v := ?_) ?_ ?_
      rotate_left
      · intro w hSw
        have hT := (unhide HX).below hSw; have x0 := hT.cell 0 rfl; have x1 := hT.cell 1 rfl; have x2 := hT.cell 2 rfl; have x3 := hT.cell 3 rfl; clear hT; have hc := cell_bl hSw (unhide HC); have hp := cell_bl hSw (unhide HP)
        first | (go_simp; done) | (go_simp; with_reducible rfl) | with_reducible rfl | rfl
      try simp only [Act.put, List.setIfInBounds_toArray, List.set_cons_zero, List.set_cons_succ]
      refine tk 18 (some 39) (v := ?_) ?_ ?_
      rotate_left
      · intro w hSw
        have hT := (unhide HX).below hSw; have x0 := hT.cell 0 rfl; have x1 := hT.cell 1 rfl; have x2 := hT.cell 2 rfl; have x3 := hT.cell 3 rfl; clear hT; have hc := cell_bl hSw (unhide HC); have hp := cell_bl hSw (unhide HP)
        first | (go_simp; done) | (go_simp; with_reducible rfl) | with_reducible rfl | rfl
      try simp only [Act.put, List.setIfInBounds_toArray, List.set_cons_zero, List.set_cons_succ]
      refine tk 19 (some 40) (v := ?_) ?_ ?_
      rotate_left
      · intro w hSw
        first | (go_simp; done) | (go_simp; with_reducible rfl) | with_reducible rfl | rfl
      try simp only [Act.put, List.setIfInBounds_toArray, List.set_cons_zero, List.set_cons_succ]
      refine tk 20 (some 41) (v := ?_) ?_ ?_
      rotate_left
      · intro w hSw
        have hT := (unhide HX).below hSw; have x0 := hT.cell 0 rfl; have x1 := hT.cell 1 rfl; have x2 := hT.cell 2 rfl; have x3 := hT.cell 3 rfl; clear hT; have hc := cell_bl hSw (unhide HC); have hp := cell_bl hSw (unhide HP)
        first | (go_simp; done) | (go_simp; with_reducible rfl) | with_reducible rfl | rfl
      try simp only [Act.put, List.setIfInBounds_toArray, List.set_cons_zero, List.set_cons_succ]
      refine tk 21 (some 42) (v := ?_) ?_ ?_
      rotate_left
      · intro w hSw
        have hT := (unhide HX).below hSw; have x0 := hT.cell 0 rfl; have x1 := hT.cell 1 rfl; have x2 := hT.cell 2 rfl; have x3 := hT.cell 3 rfl; clear hT; have hc := cell_bl hSw (unhide HC); have hp := cell_bl hSw (unhide HP)
        first | (go_simp; done) | (go_simp; with_reducible rfl) | with_reducible rfl | rfl
      try simp only [Act.put, List.setIfInBounds_toArray, List.set_cons_zero, List.set_cons_succ]
      refine tk 22 (some 43) (v := ?_) ?_ ?_
      rotate_left
      · intro w hSw
        first | (go_simp; done) | (go_simp; with_reducible rfl) | with_reducible rfl | rfl
      try simp only [Act.put, List.setIfInBounds_toArray, List.set_cons_zero, List.set_cons_succ]
      refine tk 23 (some 44) (v := ?_) ?_ ?_
      rotate_left
      · intro w hSw
        first | (go_simp; done) | (go_simp; with_reducible rfl) | with_reducible rfl | rfl
      try simp only [Act.put, List.setIfInBounds_toArray, List.set_cons_zero, List.set_cons_succ]
      refine tk 24 (some 45) (v := ?_) ?_ ?_
      rotate_left
      · intro w hSw
        first | (go_simp; done) | (go_simp; with_reducible rfl) | with_reducible rfl | rfl
      try simp only [Act.put, List.setIfInBounds_toArray, List.set_cons_zero, List.set_cons_succ]
      refine wpAnyH_done (by kernel_rfl) ?_ _
      replace HB := hide (below_tr (unhide HB) HD)
      replace HX := hide ((unhide HX).bel HD)
      clear HD 
      have x0 := (unhide HX).cell 0 rfl
      have x1 := (unhide HX).cell 1 rfl
      have x2 := (unhide HX).cell 2 rfl
      have x3 := (unhide HX).cell 3 rfl
      go_wp2_with fail
      go_ret
      exact ⟨ret_bool (unhide HU).symm, unhide HB⟩
    have HW := hide (hw.trans (gat_on hq hl))
    clear hw hbel
    have x0 := (unhide HX).cell 0 rfl
    have x1 := (unhide HX).cell 1 rfl
    have x2 := (unhide HX).cell 2 rfl
    have x3 := (unhide HX).cell 3 rfl
    go_wp2_with fail
    (try clear x0 x1 x2 x3)
    (try clear x0 x1 x2 x3)
    refine wp_region_held_drew (S := fun w' => Below WA.heap.size WA w') (by kernel_rfl) (below_drew WA) (fun hHeld => ?_)
    refine tk 0 (some 21) (v := ?_) ?_ ?_
    rotate_left
    · intro w hSw
      have hT := (unhide HX).below hSw; have x0 := hT.cell 0 rfl; have x1 := hT.cell 1 rfl; have x2 := hT.cell 2 rfl; have x3 := hT.cell 3 rfl; clear hT; have hc := cell_bl hSw (unhide HC); have hp := cell_bl hSw (unhide HP)
      first | (go_simp; done) | (go_simp; with_reducible rfl) | with_reducible rfl | rfl
    try simp only [Act.put, List.setIfInBounds_toArray, List.set_cons_zero, List.set_cons_succ]
    refine tk 1 (some 22) (v := ?_) ?_ ?_
    rotate_left
    · intro w hSw
      have hT := (unhide HX).below hSw; have x0 := hT.cell 0 rfl; have x1 := hT.cell 1 rfl; have x2 := hT.cell 2 rfl; have x3 := hT.cell 3 rfl; clear hT; have hc := cell_bl hSw (unhide HC); have hp := cell_bl hSw (unhide HP)
      first | (go_simp; done) | (go_simp; with_reducible rfl) | with_reducible rfl | rfl
    try simp only [Act.put, List.setIfInBounds_toArray, List.set_cons_zero, List.set_cons_succ]
    refine tk 2 (some 23) (v := ?_) ?_ ?_
    rotate_left
    · intro w hSw
      first | (go_simp; done) | (go_simp; with_reducible rfl) | with_reducible rfl | rfl
    try simp only [Act.put, List.setIfInBounds_toArray, List.set_cons_zero, List.set_cons_succ]
    refine tk 3 (some 24) (v := ?_) ?_ ?_
    rotate_left
    · intro w hSw
      have hT := (unhide HX).below hSw; have x0 := hT.cell 0 rfl; have x1 := hT.cell 1 rfl; have x2 := hT.cell 2 rfl; have x3 := hT.cell 3 rfl; clear hT; have hc := cell_bl hSw (unhide HC); have hp := cell_bl hSw (unhide HP)
      first | (go_simp; done) | (go_simp; with_reducible rfl) | with_reducible rfl | rfl
    try simp only [Act.put, List.setIfInBounds_toArray, List.set_cons_zero, List.set_cons_succ]
    refine tk 4 (some 25) (v := ?_) ?_ ?_
    rotate_left
    · intro w hSw
      have hT := (unhide HX).below hSw; have x0 := hT.cell 0 rfl; have x1 := hT.cell 1 rfl; have x2 := hT.cell 2 rfl; have x3 := hT.cell 3 rfl; clear hT; have hc := cell_bl hSw (unhide HC); have hp := cell_bl hSw (unhide HP)
      first | (go_simp; done) | (go_simp; with_reducible rfl) | with_reducible rfl | rfl
    try simp only [Act.put, List.setIfInBounds_toArray, List.set_cons_zero, List.set_cons_succ]
    have HD := below_drew WA
    generalize WA.drew = V0 at *
    refine wpAnyH_ready (rs := [5]) (by kernel_rfl) (by simp) ?_
    refine AllReadyH.cons (o := { dst := some 26, op := _, type := _, pos := _, after := _, guard := _ }) rfl (fun K hK => ?_) AllReadyH.nil
    go_simp
    go_at_call 40
    refine (c40 x 0 7 _).mono ?_
    rintro e V1 ⟨rfl, hww⟩
    have hww := hww.symm
    subst hww
    rw [hq]
    try go_wp2_with fail
    refine hK.out _ _ HD (fun hHeld => ?_)
    clear hK K hHeld
    try simp only [Act.put, List.setIfInBounds_toArray, List.set_cons_zero, List.set_cons_succ]
    refine tk 6 (some 27) (v := ?_) ?_ ?_
    rotate_left
    · intro w hSw
      first | (go_simp; done) | (go_simp; with_reducible rfl) | with_reducible rfl | rfl
    try simp only [Act.put, List.setIfInBounds_toArray, List.set_cons_zero, List.set_cons_succ]
    refine tk 7 (some 28) (v := ?_) ?_ ?_
    rotate_left
    · intro w hSw
      first | (go_simp; done) | (go_simp; with_reducible rfl) | with_reducible rfl | rfl
    try simp only [Act.put, List.setIfInBounds_toArray, List.set_cons_zero, List.set_cons_succ]
    refine tk 8 (some 29) (v := ?_) ?_ ?_
    rotate_left
    · intro w hSw
      first | (go_simp; done) | (go_simp; with_reducible rfl) | with_reducible rfl | rfl
    try simp only [Act.put, List.setIfInBounds_toArray, List.set_cons_zero, List.set_cons_succ]
    refine tk 9 (some 30) (v := ?_) ?_ ?_
    rotate_left
    · intro w hSw
      first | (go_simp; done) | (go_simp; with_reducible rfl) | with_reducible rfl | rfl
    try simp only [Act.put, List.setIfInBounds_toArray, List.set_cons_zero, List.set_cons_succ]
    refine tk 10 (some 31) (v := ?_) ?_ ?_
    rotate_left
    · intro w hSw
      first | (go_simp; done) | (go_simp; with_reducible rfl) | with_reducible rfl | rfl
    try simp only [Act.put, List.setIfInBounds_toArray, List.set_cons_zero, List.set_cons_succ]
    refine tk 11 (some 32) (v := ?_) ?_ ?_
    rotate_left
    · intro w hSw
      have hT := (unhide HX).below hSw; have x0 := hT.cell 0 rfl; have x1 := hT.cell 1 rfl; have x2 := hT.cell 2 rfl; have x3 := hT.cell 3 rfl; clear hT; have hc := cell_bl hSw (unhide HC); have hp := cell_bl hSw (unhide HP)
      first | (go_simp; done) | (go_simp; with_reducible rfl) | with_reducible rfl | rfl
    try simp only [Act.put, List.setIfInBounds_toArray, List.set_cons_zero, List.set_cons_succ]
    refine tk 12 (some 33) (v := ?_) ?_ ?_
    rotate_left
    · intro w hSw
      have hT := (unhide HX).below hSw; have x0 := hT.cell 0 rfl; have x1 := hT.cell 1 rfl; have x2 := hT.cell 2 rfl; have x3 := hT.cell 3 rfl; clear hT; have hc := cell_bl hSw (unhide HC); have hp := cell_bl hSw (unhide HP)
      first | (go_simp; done) | (go_simp; with_reducible rfl) | with_reducible rfl | rfl
    try simp only [Act.put, List.setIfInBounds_toArray, List.set_cons_zero, List.set_cons_succ]
    refine tk 13 (some 34) (v := ?_) ?_ ?_
    rotate_left
    · intro w hSw
      first | (go_simp; done) | (go_simp; with_reducible rfl) | with_reducible rfl | rfl
    try simp only [Act.put, List.setIfInBounds_toArray, List.set_cons_zero, List.set_cons_succ]
    refine tk 14 (some 35) (v := ?_) ?_ ?_
    rotate_left
    · intro w hSw
      first | (go_simp; done) | (go_simp; with_reducible rfl) | with_reducible rfl | rfl
    try simp only [Act.put, List.setIfInBounds_toArray, List.set_cons_zero, List.set_cons_succ]
    refine tk 15 (some 36) (v := ?_) ?_ ?_
    rotate_left
    · intro w hSw
      have hT := (unhide HX).below hSw; have x0 := hT.cell 0 rfl; have x1 := hT.cell 1 rfl; have x2 := hT.cell 2 rfl; have x3 := hT.cell 3 rfl; clear hT; have hc := cell_bl hSw (unhide HC); have hp := cell_bl hSw (unhide HP)
      first | (go_simp; done) | (go_simp; with_reducible rfl) | with_reducible rfl | rfl
    try simp only [Act.put, List.setIfInBounds_toArray, List.set_cons_zero, List.set_cons_succ]
    refine tk 16 (some 37) (v := ?_) ?_ ?_
    rotate_left
    · intro w hSw
      have hT := (unhide HX).below hSw; have x0 := hT.cell 0 rfl; have x1 := hT.cell 1 rfl; have x2 := hT.cell 2 rfl; have x3 := hT.cell 3 rfl; clear hT; have hc := cell_bl hSw (unhide HC); have hp := cell_bl hSw (unhide HP)
      first | (go_simp; done) | (go_simp; with_reducible rfl) | with_reducible rfl | rfl
    try simp only [Act.put, List.setIfInBounds_toArray, List.set_cons_zero, List.set_cons_succ]
    refine tk 17 (some 38) (v := ?_) ?_ ?_
    rotate_left
    · intro w hSw
      have hT := (unhide HX).below hSw; have x0 := hT.cell 0 rfl; have x1 := hT.cell 1 rfl; have x2 := hT.cell 2 rfl; have x3 := hT.cell 3 rfl; clear hT; have hc := cell_bl hSw (unhide HC); have hp := cell_bl hSw (unhide HP)
      first | (go_simp; done) | (go_simp; with_reducible rfl) | with_reducible rfl | rfl
    try simp only [Act.put, List.setIfInBounds_toArray, List.set_cons_zero, List.set_cons_succ]
    refine tk 18 (some 39) (v := ?_) ?_ ?_
    rotate_left
    · intro w hSw
      have hT := (unhide HX).below hSw; have x0 := hT.cell 0 rfl; have x1 := hT.cell 1 rfl; have x2 := hT.cell 2 rfl; have x3 := hT.cell 3 rfl; clear hT; have hc := cell_bl hSw (unhide HC); have hp := cell_bl hSw (unhide HP)
      first | (go_simp; done) | (go_simp; with_reducible rfl) | with_reducible rfl | rfl
    try simp only [Act.put, List.setIfInBounds_toArray, List.set_cons_zero, List.set_cons_succ]
    refine tk 19 (some 40) (v := ?_) ?_ ?_
    rotate_left
    · intro w hSw
      first | (go_simp; done) | (go_simp; with_reducible rfl) | with_reducible rfl | rfl
    try simp only [Act.put, List.setIfInBounds_toArray, List.set_cons_zero, List.set_cons_succ]
    refine tk 20 (some 41) (v := ?_) ?_ ?_
    rotate_left
    · intro w hSw
      have hT := (unhide HX).below hSw; have x0 := hT.cell 0 rfl; have x1 := hT.cell 1 rfl; have x2 := hT.cell 2 rfl; have x3 := hT.cell 3 rfl; clear hT; have hc := cell_bl hSw (unhide HC); have hp := cell_bl hSw (unhide HP)
      first | (go_simp; done) | (go_simp; with_reducible rfl) | with_reducible rfl | rfl
    try simp only [Act.put, List.setIfInBounds_toArray, List.set_cons_zero, List.set_cons_succ]
    refine tk 21 (some 42) (v := ?_) ?_ ?_
    rotate_left
    · intro w hSw
      have hT := (unhide HX).below hSw; have x0 := hT.cell 0 rfl; have x1 := hT.cell 1 rfl; have x2 := hT.cell 2 rfl; have x3 := hT.cell 3 rfl; clear hT; have hc := cell_bl hSw (unhide HC); have hp := cell_bl hSw (unhide HP)
      first | (go_simp; done) | (go_simp; with_reducible rfl) | with_reducible rfl | rfl
    try simp only [Act.put, List.setIfInBounds_toArray, List.set_cons_zero, List.set_cons_succ]
    refine tk 22 (some 43) (v := ?_) ?_ ?_
    rotate_left
    · intro w hSw
      first | (go_simp; done) | (go_simp; with_reducible rfl) | with_reducible rfl | rfl
    try simp only [Act.put, List.setIfInBounds_toArray, List.set_cons_zero, List.set_cons_succ]
    refine tk 23 (some 44) (v := ?_) ?_ ?_
    rotate_left
    · intro w hSw
      first | (go_simp; done) | (go_simp; with_reducible rfl) | with_reducible rfl | rfl
    try simp only [Act.put, List.setIfInBounds_toArray, List.set_cons_zero, List.set_cons_succ]
    refine tk 24 (some 45) (v := ?_) ?_ ?_
    rotate_left
    · intro w hSw
      first | (go_simp; done) | (go_simp; with_reducible rfl) | with_reducible rfl | rfl
    try simp only [Act.put, List.setIfInBounds_toArray, List.set_cons_zero, List.set_cons_succ]
    refine wpAnyH_done (by kernel_rfl) ?_ _
    replace HB := hide (below_tr (unhide HB) HD)
    replace HX := hide ((unhide HX).bel HD)
    clear HD 
    have x0 := (unhide HX).cell 0 rfl
    have x1 := (unhide HX).cell 1 rfl
    have x2 := (unhide HX).cell 2 rfl
    have x3 := (unhide HX).cell 3 rfl
    go_wp2_with fail
    (try clear x0 x1 x2 x3)
    go_roundw
    case rel => exact ⟨k + 1, by omega, by go_num, by rw [unhide HN]; exact unhide HW, unhide HX, unhide HB⟩
    case measure => simp [intOf]; omega

end Go.Proofs.YtmlbphmbffkdnaaGreat
