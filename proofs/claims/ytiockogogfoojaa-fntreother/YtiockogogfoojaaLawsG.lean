/-
  The walk of the law FnTreOther: at every code it answers true, and nothing that was there is written.
-/
import Derived.Test.YtiockogogfoojaaHelps
namespace Go.Proofs.Ytiockogogfoojaa
open Go.RowKit
set_option linter.unusedVariables false

theorem sp_set (l : List Int) (i : Nat) (v : Int) : Tm.sp (l.set i v) = Tm.sp l := by unfold Tm.sp; rw [List.length_set]
theorem prf_set : ∀ (f : Nat) (l : List Int) (i : Nat) (v : Int), l.length ≤ f → l.length ≤ 40 → Tm.prf (l.set i v) i = Tm.prf l i := by
  intro f
  induction f with
  | zero => intro l i v h1 h2; rw [Tm.prf_one (by rw [List.length_set]; omega), Tm.prf_one (by omega)]
  | succ f ih =>
    intro l i v h1 h2
    by_cases e0 : l.length < 2
    · rw [Tm.prf_one (by rw [List.length_set]; omega), Tm.prf_one e0]
    · have hs := Tm.sp_bd (l := l) (by omega) h2
      by_cases hi : i < Tm.sp l
      · rw [Tm.prf_left (l := l.set i v) (by rw [List.length_set]; omega) (by rw [List.length_set]; omega) (by rw [sp_set]; exact hi), sp_set, List.take_set, List.drop_set_of_lt hi, ih _ i v (by rw [List.length_take]; omega) (by rw [List.length_take]; omega), ← Tm.prf_left (by omega) h2 hi]
      · rw [Tm.prf_right (l := l.set i v) (by rw [List.length_set]; omega) (by rw [List.length_set]; omega) (by rw [sp_set]; exact hi), sp_set, List.drop_set, if_neg (by omega), List.take_set_of_le (by omega), ih _ (i - Tm.sp l) v (by rw [List.length_drop]; omega) (by rw [List.length_drop]; omega), ← Tm.prf_right (by omega) h2 hi]
theorem okAll_set {l : List Int} (h : Tm.okAll l = true) (i : Nat) {v : Int} (hv : Tm.okB v = true) : Tm.okAll (l.set i v) = true := by
  unfold Tm.okAll at *
  rw [List.all_eq_true] at *
  intro x hx
  rcases List.mem_or_eq_of_mem_set hx with h1 | h1
  · exact h x h1
  · subst h1; exact hv

set_option maxHeartbeats 3000000 in
theorem law12 (zs : List Int) (ao : Option Addr) (n cap : Nat) (w : World) (hn : zs.length = n) (hc : n ≤ cap) (hm : cap ≤ maxLen) (hB : Bytes w ao zs) :
    Calls Try.prog 12 #[.slice ao n cap] w (Holds w) := by
  have HM := hide hm
  unfold maxLen at hm
  have HB := hide hB
  clear hB
  obtain ⟨i0, hi0, hz0, hz1, hz2⟩ := info_parts Try.info3
  by_cases hbig : (1048576 : Int) < (n : Int)
  · go_enter Try.func12, Try.ntmps12
    go_wp2_with fail
    go_ret
    exact ⟨rfl, Below.refl _ _⟩
  go_enter Try.func12, Try.ntmps12
  go_wp2_with fail
  refine (c42 zs ao n cap _ hn hc (unhide HM) (unhide HB)).mono ?_
  rintro e w1 ⟨v, ys, i, rfl, ho, hy, hi, hb⟩
  obtain ⟨ao1, cap1, rfl, hcap1, hr, -⟩ := ho.row
  have HR := hide hr
  have HBe := hide hb
  obtain ⟨hi1, hi2⟩ := hi
  clear ho hr hb HB HM hbig hm hc hn
  go_wp2_with fail
  refine (c43 ys i _ _ _ _ rfl hcap1 (by omega) (unhide HR)).mono ?_
  rintro e w2 ⟨v2, rfl, ho2, hb2⟩
  obtain ⟨ao2, cap2, rfl, hcap2, hr2⟩ := Told.row ho2
  have HR1 := hide ((unhide HR).below hb2 (Nat.le_refl _))
  have HR2 := hide hr2
  have HB2 := hide (below_then (unhide HBe) hb2)
  clear ho2 hr2 hb2 HR HBe
  go_wp2_with fail
  refine (c45 ys i _ _ _ _ rfl hcap1 (by omega) (unhide HR1)).mono ?_
  rintro e w3 ⟨v3, rfl, ho3, hb3⟩
  obtain ⟨ao3, cap3, rfl, hcap3, hr3⟩ := Told.row ho3
  have HR1b := hide ((unhide HR1).below hb3 (Nat.le_refl _))
  have HR2b := hide ((unhide HR2).below hb3 (Nat.le_refl _))
  have HR3 := hide hr3
  have HB3 := hide (below_then (unhide HB2) hb3)
  have hl6 := treProof_len (zs := ys) (i := i)
  clear ho3 hr3 hb3 HR1 HR2 HB2
  go_wp2_with fail
  refine (c44 (Tm.treProof ys i) (Tm.treProof ys i) _ _ _ _ _ _ _ rfl rfl (by omega) (by omega) (unhide HR2b) (unhide HR3)).mono ?_
  rintro e w4 ⟨rfl, q, rfl⟩
  rw [decide_self]
  have HR1c := hide ((unhide HR1b).drewN q)
  have HR2c := hide ((unhide HR2b).drewN q)
  have HB4 := hide (below_drewN (unhide HB3) q)
  clear HR1b HR2b HR3 HB3
  generalize w3.drewN q = w4 at *
  rcases hok : Tm.treOk ys with _ | _
  · have hz := treProof_no (zs := ys) (i := i) (by rw [hok]; simp)
    rw [hz]
    clear hz
    go_wp2_with (first | (go_at_call 35; refine (c35 ys _ _ _ _ rfl (by omega) (unhide HR1c)).mono ?_; rintro e w' ⟨rfl, rfl⟩) | (go_at_call 29; refine (c29 _).mono ?_; rintro e w' ⟨rfl, rfl⟩))
    go_ret
    exact ⟨rfl, unhide HB4⟩
  by_cases hneg : i < 0
  · have hz := treProof_no (zs := ys) (i := i) (by omega)
    rw [hz]
    clear hz
    go_wp2_with (first | (go_at_call 35; refine (c35 ys _ _ _ _ rfl (by omega) (unhide HR1c)).mono ?_; rintro e w' ⟨rfl, rfl⟩) | (go_at_call 29; refine (c29 _).mono ?_; rintro e w' ⟨rfl, rfl⟩))
    go_ret
    exact ⟨rfl, unhide HB4⟩
  have dneg : decide (i < 0) = false := by simpa using hneg
  by_cases hge : (ys.length : Int) ≤ i
  · have hz := treProof_no (zs := ys) (i := i) (by omega)
    rw [hz]
    clear hz
    go_wp2_with (first | (go_at_call 35; refine (c35 ys _ _ _ _ rfl (by omega) (unhide HR1c)).mono ?_; rintro e w' ⟨rfl, rfl⟩) | (go_at_call 29; refine (c29 _).mono ?_; rintro e w' ⟨rfl, rfl⟩))
    go_ret
    exact ⟨rfl, unhide HB4⟩
  have dge : decide ((ys.length : Int) ≤ i) = false := by simpa using hge
  obtain ⟨iN, rfl⟩ := Int.eq_ofNat_of_zero_le (show 0 ≤ i by omega)
  have hpo := treProof_of (zs := ys) (i := iN) ⟨hok, by omega, by omega⟩
  rw [Int.toNat_natCast] at hpo
  rw [hpo] at HR2c hl6 hcap2
  rw [hpo]
  clear hpo
  obtain ⟨t1, t2⟩ := treOk_len hok
  obtain ⟨b, off, rfl, hcs⟩ := (unhide HR1c).2 (by intro e; subst e; simp at hge)
  have hx := (Tm.okB_iff _).1 (Tm.okAll_at t2 (k := iN) (by omega))
  obtain ⟨x1, x2⟩ := hx
  have hv : Tm.okB ((ys.getD iN 0 + 1) % 65521) = true := (Tm.okB_iff _).2 (by omega)
  have hsok : Tm.treOk (ys.set iN ((ys.getD iN 0 + 1) % 65521)) = true := by
    unfold Tm.treOk; rw [List.length_set, decide_eq_true t1, okAll_set t2 iN hv]; rfl
  have hch := check_prf hsok (i := iN) (by rw [List.length_set]; omega)
  rw [prf_set _ ys iN _ (Nat.le_refl _) t1, List.length_set] at hch
  have hgs : (ys.set iN ((ys.getD iN 0 + 1) % 65521)).getD iN 0 = (ys.getD iN 0 + 1) % 65521 := by
    rw [List.getD_eq_getElem?_getD, List.getElem?_set_self (by omega)]; rfl
  rw [hgs] at hch
  have hps : Tm.treProof (ys.set iN ((ys.getD iN 0 + 1) % 65521)) iN = Tm.prf ys iN := by
    rw [treProof_of ⟨hsok, by omega, by rw [List.length_set]; omega⟩, Int.toNat_natCast, prf_set _ ys iN _ (Nat.le_refl _) t1]
  have HCH := hide hch
  have HPS := hide hps
  have HC := hide hcs
  have HF := hide (unhide HR1c).1
  have HE := hide (own_empty w4 w4.heap.size (Nat.le_refl _))
  clear hcs hch hgs hps t2 hv hsok
  go_wp2_with (first | (go_at_call 35; refine (c35 ys _ _ _ _ rfl (by omega) (unhide HR1c)).mono ?_; rintro e w' ⟨rfl, rfl⟩) | (at_builtin; refine wpList_append_own _ rfl _ _ 30 rfl w'.heap.size 3 i0 (.int .i64 0) 1 8 Try.underlying30 hi0 hz0 hz1 hz2 rfl (by decide) _ _ _ rfl (unhide HE).2 ⟨b, off, none⟩ ys.length cap1 (ys.map (Value.int .i64)) rfl (by simp) ?c1 (ints_oneCell _ _) ?c3 ?c4 ?c5 ?_))
  case c1 =>
    intro j u hj
    rw [List.getElem?_map] at hj
    have hjl : j < ys.length := by
      rcases Nat.lt_or_ge j ys.length with h | h
      · exact h
      · rw [List.getElem?_eq_none h] at hj; cases hj
    have h1 := unhide HC j hjl
    rw [List.getElem?_eq_getElem hjl] at hj
    cases hj
    have e : (Addr.add ⟨b, off, none⟩ j) = ⟨b, off + j, none⟩ := by unfold Addr.add; split <;> simp_all
    rw [e, World.cell?_alloc_lt _ _ _ (World.block_lt_of_cell? w' _ h1), h1, Tm.getD_eq hjl]
  case c3 => simp [maxLen]; omega
  case c4 => simp; omega
  case c5 => simp
  intro v' w5 hown' hgrow _
  have ho5 : Own w5 w'.heap.size v' ys := ⟨unhide HF, by simpa using hown'⟩
  have hbX : Below w'.heap.size w' w5 := ((Below.refl _ _).alloc (Nat.le_refl _) _).grown hgrow (by simp) (fun q hq => by simp [Value.ownBlock] at hq; omega)
  obtain ⟨ao5, cap5, rfl, hcap5, hr5, hbl5⟩ := ho5.row
  obtain ⟨g, o5, rfl, hc5⟩ := hr5.2 (by intro e; subst e; simp at dge)
  have hg5 := (hbl5 _ rfl).1
  simp only at hg5
  have how := ho5.2
  have ho0 : o5 = 0 := by
    rcases how.2 with ⟨hv, _⟩ | ⟨g', cap', cur, hv, r⟩
    · cases hv
    · simp only [Value.slice.injEq, Option.some.injEq, Addr.mk.injEq] at hv
      exact hv.1.2.1
  subst ho0
  have hcell : w5.cell? ⟨g, iN, none⟩ = some (.int .i64 (ys.getD iN 0)) := by
    have := hc5 iN (by omega)
    rwa [Nat.zero_add] at this
  have hfr := how.frozenAt iN
  have hst := (how.stored iN (.int .i64 ((ys.getD iN 0 + 1) % 65521))).1
  have hr6 : Row (w5.setCell ⟨g, iN, none⟩ (.int .i64 ((ys.getD iN 0 + 1) % 65521))) (some ⟨g, 0, none⟩) (ys.set iN ((ys.getD iN 0 + 1) % 65521)) := by
    refine ⟨fun z hz => ?_, fun _ => ⟨g, 0, rfl, ?_⟩⟩
    · rcases List.mem_or_eq_of_mem_set hz with h | h
      · exact unhide HF z h
      · subst h; omega
    · have e : (ys.map (Value.int .i64)).set iN (.int .i64 ((ys.getD iN 0 + 1) % 65521)) = (ys.set iN ((ys.getD iN 0 + 1) % 65521)).map (Value.int .i64) := by rw [List.map_set]
      rw [e] at hst
      intro j hj
      exact cells_of_own hst (by simp) j (by simpa using hj)
  have hbY : Below w'.heap.size w' (w5.setCell ⟨g, iN, none⟩ (.int .i64 ((ys.getD iN 0 + 1) % 65521))) := hbX.setCell (p := ⟨g, iN, none⟩) hg5 _
  have HR6 := hide hr6
  have HP6 := hide ((unhide HR2c).below hbY (Nat.le_refl _))
  have HB6 := hide (below_then (unhide HB4) hbY)
  have hcx : (w5.setCell ⟨g, iN, none⟩ (.int .i64 ((ys.getD iN 0 + 1) % 65521))).cell? ⟨g, iN, none⟩ = some (.int .i64 ((ys.getD iN 0 + 1) % 65521)) := World.cell?_setCell_same _ _ _ hcell
  have HCX := hide hcx
  have HLen := hide (show (ys.set iN ((ys.getD iN 0 + 1) % 65521)).length = ys.length by simp)
  clear hown' hgrow ho5 hbX hr5 hbl5 hc5 how hst hr6 hbY HC HE HR1c HR2c HB4 HF hcx
  generalize ys.set iN ((ys.getD iN 0 + 1) % 65521) = ts at *
  generalize Tm.prf ys iN = ps at *
  generalize ys.getD iN 0 = x at *
  have j0 : (0 : Int) ≤ (iN : Int) := by omega
  have j1 : (iN : Int) < (ys.length : Int) := by omega
  go_wp2_with fail
  generalize w5.setCell ⟨g, iN, none⟩ (.int .i64 ((x + 1) % 65521)) = W at *
  have hcx := unhide HCX
  have hW0 := below_drew W
  go_region_held3 (fun w'' => w''.cell? ⟨g, iN, none⟩ = some (.int .i64 ((x + 1) % 65521)) ∧ Below W.heap.size W w'') (refine ⟨cell_below ?_ hcx, ?_⟩ <;> assumption) (first | (go_at_call 43; refine (c43 ts _ _ _ _ _ (unhide HLen) (by omega) (by omega) (by exact (unhide HR6).drew)).mono ?_; rintro e w6 ⟨v6, rfl, ho6, hb6⟩; rw [unhide HPS] at ho6; obtain ⟨ao6, cap6, rfl, hcap6, hr7⟩ := Told.row ho6; have hb7 := below_undrew hb6) | (go_at_call 44; refine (c44 ps ps _ _ _ _ _ _ _ rfl rfl (by omega) (by omega) hr7 (by exact (unhide HP6).below hb7 (Nat.le_refl _))).mono ?_; rintro e w7 ⟨rfl, q7, rfl⟩; rw [decide_self]; have hb8 := below_drewN hb7 q7) | (go_at_call 40; refine (c40 ts _ _ _ _ (unhide HLen) (by omega) (by omega) (by exact (unhide HR6).below hb8 (Nat.le_refl _))).mono ?_; rintro e w8 ⟨rfl, hb9⟩; have hb10 := below_then hb8 hb9) | (go_at_call 46; refine (c46 ps _ _ _ _ _ _ _ _ rfl hcap2 (by omega) (by exact (unhide HP6).below hb10 (Nat.le_refl _))).mono ?_; rintro e w9 ⟨rfl, hb11⟩; rw [unhide HCH]; have hb12 := below_then hb10 hb11))
  have HBg := hide (below_then (unhide HB6) hb12)
  clear hb6 hb7 hb8 hb9 hb10 hb11 hb12 hW0
  go_wp2_with fail
  go_ret
  exact ⟨rfl, unhide HBg⟩
end Go.Proofs.Ytiockogogfoojaa
