/-
  Texts of the proof, what it needs of them: Conm.
-/
import Derived.Test.YtmlbphmbffkdnaaGs08
namespace Go.Proofs.Ytmlbphmbffkdnaa
open Go.RowKit
set_option maxRecDepth 100000
set_option linter.unusedVariables false

theorem own_one (w : World) (base : Nat) (hb : base ≤ w.heap.size) {a : Int} (ha : Tm.okB a = true) :
    Own (w.alloc (.cells #[.int .i64 a] 3)) base (.slice (some ⟨w.heap.size, 0, none⟩) 1 1) [a] := by
  refine ⟨fun z hz => ?_, World.ownsRow_lit w #[.int .i64 a] 1 hb (by unfold maxLen; omega) rfl⟩
  simp at hz
  subst hz
  exact ok_fits ha
theorem told_one {w W : World} (hb : Below w.heap.size w W) {a : Int} (ha : Tm.okB a = true) :
    Told w [a] (.returned (.slice (some ⟨W.heap.size, 0, none⟩) 1 1)) (W.alloc (.cells #[.int .i64 a] 3)) :=
  ⟨_, rfl, own_one W w.heap.size hb.size ha, hb.alloc hb.size _⟩

set_option maxHeartbeats 1600000 in
theorem c225 (f : Nat) : ∀ (zs : List Int) (m : Nat) (al : Bool) (ao : Option Addr) (n cap : Nat) (w : World), zs.length ≤ f → zs.length = n → n ≤ 40 → n ≤ cap → 1 ≤ m → m ≤ n → Tm.okAll zs = true → Row w ao zs →
    Calls Try.prog 225 #[.slice ao n cap, .int .i64 m, .bool al] w (Told w (Tm.con zs m al)) := by
  induction f with
  | zero => intro zs m al ao n cap w hf hn h40 hcap hm1 hmn hok hr; omega
  | succ f ih =>
    intro zs m al ao n cap w hf hn h40 hcap hm1 hmn hok hr
    by_cases h1 : m = n
    · subst h1
      have hU := Tm.con_all (l := zs) (m := m) (alone := al) hn.symm hm1
      cases al
      · rw [if_neg (by simp)] at hU
        rw [hU]
        have HX := hide (Tm.root_ok _ zs (Nat.le_refl _) (by omega) hok)
        have HR := hide hr
        have HN := hide hn
        clear hr hn hf ih hU hok
        go_enter Try.func225, Try.ntmps225
        go_wp2_with fail
        refine (c190b zs _ _ _ _ (unhide HN) h40 hcap (unhide HR)).mono ?_
        rintro e w1 ⟨rfl, hb1⟩
        have HB := hide hb1
        clear hb1
        go_wp2_with fail
        go_ret
        exact told_one (unhide HB) (unhide HX)
      · rw [if_pos rfl] at hU
        rw [hU]
        have HE := hide (own_empty w w.heap.size (Nat.le_refl _))
        clear hr hn hf ih hU
        go_enter Try.func225, Try.ntmps225
        go_wp2_with fail
        go_ret
        exact ⟨_, rfl, unhide HE, (Below.refl _ _).alloc (Nat.le_refl _) _⟩
    · have d0 : ((m : Int) == (n : Int)) = false := by rw [beq_eq_false_iff_ne]; omega
      obtain ⟨b, off, rfl, hc⟩ := hr.2 (by intro e; subst e; simp at hn; omega)
      have hs := Tm.sp_bd (l := zs) (by omega) (by omega)
      have hsi := Tm.sp_int (l := zs) (by omega) (by omega)
      rw [hn] at hsi hs
      have hts := Tm.treSplit_of (n := (n : Int)) (by omega) (by omega)
      rw [hsi] at hts
      have HTS := hide hts
      obtain ⟨s1, s2, s3⟩ := hs
      have HRT := hide (hr.take (Tm.sp zs))
      have HRD := hide (hr.drop (Tm.sp zs))
      have HLT := hide (show (zs.take (Tm.sp zs)).length = Tm.sp zs by rw [List.length_take]; omega)
      have HLD := hide (show (zs.drop (Tm.sp zs)).length = n - Tm.sp zs by rw [List.length_drop]; omega)
      obtain ⟨i0, hi0, hz0, hz1, hz2⟩ := info_parts Try.info3
      by_cases hil : m ≤ Tm.sp zs
      · have HU := hide (Tm.con_left (l := zs) (m := m) (alone := al) hm1 (by omega) (by omega) hil)
        have HP := hide (fun (w' : World) (hr' : Row w' (some ⟨b, off, none⟩) (zs.take (Tm.sp zs))) => ih (zs.take (Tm.sp zs)) m al (some ⟨b, off, none⟩) (Tm.sp zs) cap w' (by rw [List.length_take]; omega) (by rw [List.length_take]; omega) (by omega) (by omega) hm1 hil (Tm.okAll_take hok _) hr')
        have HX := hide (ok_fits (Tm.root_ok _ (zs.drop (Tm.sp zs)) (Nat.le_refl _) (by rw [List.length_drop]; omega) (Tm.okAll_drop hok _)))
        have hpl := Tm.con_len7 (l := zs.take (Tm.sp zs)) (m := m) al (by rw [List.length_take]; omega) hm1 (by rw [List.length_take]; omega)
        generalize zs.take (Tm.sp zs) = lt at *
        generalize zs.drop (Tm.sp zs) = rt at *
        generalize Tm.sp zs = s at *
        clear hc hr hn hf ih hsi hts hok
        have k0 : (0 : Int) ≤ (s : Int) := by omega
        have k1 : (s : Int) ≤ (cap : Int) := by omega
        have k2 : (s : Int) ≤ (n : Int) := by omega
        have k3 : (n : Int) ≤ (cap : Int) := by omega
        have k4 : (m : Int) ≤ (s : Int) := by omega
        go_enter Try.func225, Try.ntmps225
        go_wp2_with fail
        refine (c219 _ _).mono ?_
        rintro e w1 ⟨rfl, rfl⟩
        rw [unhide HTS]
        go_wp2_with fail
        have hW0 := below_drew w1
        go_region_held3 (fun w' => Below w1.heap.size w1 w') (assumption) (first | (go_at_call 225; refine (unhide HP _ (by exact (unhide HRT).drew)).mono ?_; rintro e w2 ⟨v, rfl, ho1, hb1⟩; have hb2 := below_undrew hb1) | (go_at_call 190; refine (c190b rt _ _ _ _ (unhide HLD) (by omega) (by omega) (by exact (unhide HRD).below hb2 (Nat.le_refl _))).mono ?_; rintro e w3 ⟨rfl, hb3⟩; have ho3 := ho1.below hb3; have hb4 := below_then hb2 hb3; have hb5 := hb4.alloc hb4.size (.cells #[.int .i64 (Tm.root rt)] 3)) | (refine step_append_lies _ rfl _ _ 23 rfl w1.heap.size 3 i0 (.int .i64 0) 1 8 Try.underlying23 hi0 hz0 hz1 hz2 rfl (by decide) _ _ _ rfl (ho3.2.alloc _) ⟨w3.heap.size, 0, none⟩ 1 1 [.int .i64 (Tm.root rt)] rfl rfl (cell_one_new _ _ _) (by simp [Value.oneCell']) (by decide) (by unfold maxLen; omega) (by omega) hb5.size _ rfl ?_; intro g cp w4 hown4 hgrow4 hat4 hlt4; have hfin := own_fin hb4 ho3 (unhide HX) hown4 hgrow4; have hb6 := hfin.2))
        have HF := hide hfin
        clear hfin hb1 hb2 hb3 hb4 hb5 hb6 ho1 ho3 hown4 hgrow4 hW0
        go_wp2_with fail
        go_ret
        exact ⟨_, rfl, by rw [unhide HU]; exact (unhide HF).1, (unhide HF).2⟩
      · have HU := hide (Tm.con_right (l := zs) (m := m) (alone := al) hm1 (by omega) (by omega) hil)
        have HP : Hid (∀ (w' : World) (j : Int), j = ((m - Tm.sp zs : Nat) : Int) → Row w' (some ⟨b, off + Tm.sp zs, none⟩) (zs.drop (Tm.sp zs)) → Calls Try.prog 225 #[.slice (some ⟨b, off + Tm.sp zs, none⟩) (n - Tm.sp zs) (cap - Tm.sp zs), .int .i64 j, .bool false] w' (Told w' (Tm.con (zs.drop (Tm.sp zs)) (m - Tm.sp zs) false))) := by
          intro w' j hj hr'
          subst hj
          exact ih (zs.drop (Tm.sp zs)) (m - Tm.sp zs) false (some ⟨b, off + Tm.sp zs, none⟩) (n - Tm.sp zs) (cap - Tm.sp zs) w' (by rw [List.length_drop]; omega) (by rw [List.length_drop]; omega) (by omega) (by omega) (by omega) (by omega) (Tm.okAll_drop hok _) hr'
        have HX := hide (ok_fits (Tm.root_ok _ (zs.take (Tm.sp zs)) (Nat.le_refl _) (by rw [List.length_take]; omega) (Tm.okAll_take hok _)))
        have hpl := Tm.con_len7 (l := zs.drop (Tm.sp zs)) (m := m - Tm.sp zs) false (by rw [List.length_drop]; omega) (by omega) (by rw [List.length_drop]; omega)
        generalize zs.take (Tm.sp zs) = lt at *
        generalize zs.drop (Tm.sp zs) = rt at *
        generalize Tm.sp zs = s at *
        clear hc hr hn hf ih hsi hts hok
        have k0 : (0 : Int) ≤ (s : Int) := by omega
        have k1 : (s : Int) ≤ (cap : Int) := by omega
        have k2 : (s : Int) ≤ (n : Int) := by omega
        have k3 : (n : Int) ≤ (cap : Int) := by omega
        have k4 : ¬ (m : Int) ≤ (s : Int) := by omega
        have hcs : ¬ cap = s := by omega
        have hwr : IntKind.i64.wrap ((m : Int) - (s : Int)) = (m : Int) - (s : Int) := wrap_sub (by omega) (by omega)
        go_enter Try.func225, Try.ntmps225
        go_wp2_with fail
        refine (c219 _ _).mono ?_
        rintro e w1 ⟨rfl, rfl⟩
        rw [unhide HTS]
        go_wp2_with fail
        have hW0 := below_drew w1
        go_region_held3 (fun w' => Below w1.heap.size w1 w') (assumption) (first | (go_at_call 225; refine (unhide HP _ _ (by omega) (by exact (unhide HRD).drew)).mono ?_; rintro e w2 ⟨v, rfl, ho1, hb1⟩; have hb2 := below_undrew hb1) | (go_at_call 190; refine (c190b lt _ _ _ _ (unhide HLT) (by omega) (by omega) (by exact (unhide HRT).below hb2 (Nat.le_refl _))).mono ?_; rintro e w3 ⟨rfl, hb3⟩; have ho3 := ho1.below hb3; have hb4 := below_then hb2 hb3; have hb5 := hb4.alloc hb4.size (.cells #[.int .i64 (Tm.root lt)] 3)) | (refine step_append_lies _ rfl _ _ 23 rfl w1.heap.size 3 i0 (.int .i64 0) 1 8 Try.underlying23 hi0 hz0 hz1 hz2 rfl (by decide) _ _ _ rfl (ho3.2.alloc _) ⟨w3.heap.size, 0, none⟩ 1 1 [.int .i64 (Tm.root lt)] rfl rfl (cell_one_new _ _ _) (by simp [Value.oneCell']) (by decide) (by unfold maxLen; omega) (by omega) hb5.size _ rfl ?_; intro g cp w4 hown4 hgrow4 hat4 hlt4; have hfin := own_fin hb4 ho3 (unhide HX) hown4 hgrow4; have hb6 := hfin.2))
        have HF := hide hfin
        clear hfin hb1 hb2 hb3 hb4 hb5 hb6 ho1 ho3 hown4 hgrow4 hW0
        go_wp2_with fail
        go_ret
        exact ⟨_, rfl, by rw [unhide HU]; exact (unhide HF).1, (unhide HF).2⟩

theorem conProof_no {zs : List Int} {m : Int} (h : ¬ (Tm.treOk zs = true ∧ 1 ≤ m ∧ m ≤ zs.length)) : Tm.conProof zs m = [] := by unfold Tm.conProof; rw [if_neg h]
theorem conProof_of {zs : List Int} {m : Int} (h : Tm.treOk zs = true ∧ 1 ≤ m ∧ m ≤ zs.length) : Tm.conProof zs m = Tm.con zs m.toNat true := by unfold Tm.conProof; rw [if_pos h]

set_option maxHeartbeats 2000000 in
theorem c193 (zs : List Int) (i : Int) (ao : Option Addr) (n cap : Nat) (w : World) (hn : zs.length = n) (hcap : n ≤ cap) (hb : n ≤ 1048576) (hr : Row w ao zs) :
    Calls Try.prog 193 #[.slice ao n cap, .int .i64 i] w (Told w (Tm.conProof zs i)) := by
  have HR := hide hr
  have HN := hide hn
  have HE := hide (own_empty w w.heap.size (Nat.le_refl _))
  clear hr hn
  rcases ho : Tm.treOk zs with _ | _
  · have HU := hide (conProof_no (zs := zs) (m := i) (by rw [ho]; simp))
    go_enter Try.func193, Try.ntmps193
    go_wp2_with (first | (go_at_call 224; refine (c224 zs _ _ _ _ (unhide HN) (by omega) (unhide HR)).mono ?_; rintro e w' ⟨rfl, rfl⟩) | (go_at_call 109; refine (c109 _ _ _ _).mono ?_; rintro e w' ⟨rfl, rfl⟩))
    go_ret
    exact ⟨_, rfl, by rw [unhide HU]; exact unhide HE, (Below.refl _ _).alloc (Nat.le_refl _) _⟩
  · by_cases hi : 1 ≤ i ∧ i ≤ (n : Int)
    · have d1 : decide (1 ≤ i ∧ i ≤ (n : Int)) = true := decide_eq_true hi
      have HU := hide (conProof_of (zs := zs) (m := i) ⟨ho, hi.1, by have := unhide HN; omega⟩)
      have hl := (treOk_len ho).1
      have HA := hide (treOk_len ho).2
      rw [unhide HN] at hl
      obtain ⟨hi1, hi2⟩ := hi
      obtain ⟨iN, rfl⟩ := Int.eq_ofNat_of_zero_le (show 0 ≤ i by omega)
      rw [Int.toNat_natCast] at HU
      go_enter Try.func193, Try.ntmps193
      go_wp2_with (first | (go_at_call 224; refine (c224 zs _ _ _ _ (unhide HN) (by omega) (unhide HR)).mono ?_; rintro e w' ⟨rfl, rfl⟩) | (go_at_call 109; refine (c109 _ _ _ _).mono ?_; rintro e w' ⟨rfl, rfl⟩))
      refine (c225 n zs iN true _ _ _ _ (by rw [unhide HN]; exact Nat.le_refl _) (unhide HN) hl hcap (by omega) (by omega) (unhide HA) (unhide HR)).mono ?_
      rintro e w1 ⟨v, rfl, ho1, hb1⟩
      have HO := hide ho1
      have HB := hide hb1
      clear ho1 hb1
      go_wp2_with fail
      go_ret
      exact ⟨v, rfl, by rw [unhide HU]; exact unhide HO, unhide HB⟩
    · have d1 : decide (1 ≤ i ∧ i ≤ (n : Int)) = false := decide_eq_false hi
      have HU := hide (conProof_no (zs := zs) (m := i) (by have := unhide HN; omega))
      clear hi
      go_enter Try.func193, Try.ntmps193
      go_wp2_with (first | (go_at_call 224; refine (c224 zs _ _ _ _ (unhide HN) (by omega) (unhide HR)).mono ?_; rintro e w' ⟨rfl, rfl⟩) | (go_at_call 109; refine (c109 _ _ _ _).mono ?_; rintro e w' ⟨rfl, rfl⟩))
      go_ret
      exact ⟨_, rfl, by rw [unhide HU]; exact unhide HE, (Below.refl _ _).alloc (Nat.le_refl _) _⟩
end Go.Proofs.Ytmlbphmbffkdnaa
