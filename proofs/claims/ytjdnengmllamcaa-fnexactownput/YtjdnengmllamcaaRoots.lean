/-
  The walks of roots, in the model: l2Root, TreRoot.
-/
import Derived.Test.YtjdnengmllamcaaChecks
import Derived.Test.YtjdnengmllamcaaMathc
namespace Go.Proofs.Ytjdnengmllamcaa
open Go.RowKit
set_option linter.unusedVariables false

set_option maxHeartbeats 1000000 in
theorem c126 (f : Nat) : ∀ (zs : List Int) (ao : Option Addr) (n cap : Nat) (w : World), zs.length ≤ f → zs.length = n → n ≤ 40 → n ≤ cap → Row w ao zs →
    Calls Try.prog 126 #[.slice ao n cap] w fun e w' => e = .returned (.int .i64 (Tm.root zs)) ∧ ∃ q, w' = w.drewN q := by
  induction f with
  | zero =>
    intro zs ao n cap w hf hn h40 hcap hr
    have hz : zs = [] := List.eq_nil_of_length_eq_zero (by omega)
    subst hz
    have hn0 : n = 0 := by simpa using hn.symm
    subst hn0
    have HU := hide (Tm.root_nil (l := []) rfl)
    clear hr hn hf
    go_enter Try.func126, Try.ntmps126
    go_wp2_with fail
    go_ret
    exact ⟨ret_int (unhide HU).symm, 0, rfl⟩
  | succ f ih =>
    intro zs ao n cap w hf hn h40 hcap hr
    by_cases h0 : n = 0
    · subst h0
      have HU := hide (Tm.root_nil hn)
      clear hr hn hf ih
      go_enter Try.func126, Try.ntmps126
      go_wp2_with fail
      go_ret
      exact ⟨ret_int (unhide HU).symm, 0, rfl⟩
    · obtain ⟨b, off, rfl, hc⟩ := hr.2 (by intro e; subst e; simp at hn; omega)
      have d0 : ((n : Int) == 0) = false := by rw [beq_eq_false_iff_ne]; omega
      by_cases h1 : n = 1
      · subst h1
        have HU := hide (Tm.root_one hn)
        have hcell := hc 0 (by omega)
        simp only [Nat.add_zero] at hcell
        generalize zs.getD 0 0 = x at *
        clear hr hn hf ih hc
        go_enter Try.func126, Try.ntmps126
        go_wp2_with fail
        go_ret
        exact ⟨ret_int (unhide HU).symm, 0, rfl⟩
      · have d1 : ((n : Int) == 1) = false := by rw [beq_eq_false_iff_ne]; omega
        have hs := Tm.sp_bd (l := zs) (by omega) (by omega)
        have hsi := Tm.sp_int (l := zs) (by omega) (by omega)
        rw [hn] at hsi hs
        have hts := Tm.treSplit_of (n := (n : Int)) (by omega) (by omega)
        rw [hsi] at hts
        have HU := hide (Tm.root_more (l := zs) (by omega) (by omega))
        have HTS := hide hts
        obtain ⟨s1, s2, s3⟩ := hs
        have HL := hide (fun (w' : World) (hr' : Row w' (some ⟨b, off, none⟩) (zs.take (Tm.sp zs))) => ih (zs.take (Tm.sp zs)) (some ⟨b, off, none⟩) (Tm.sp zs) cap w' (by rw [List.length_take]; omega) (by rw [List.length_take]; omega) (by omega) (by omega) hr')
        have HR := hide (fun (w' : World) (hr' : Row w' (some ⟨b, off + Tm.sp zs, none⟩) (zs.drop (Tm.sp zs))) => ih (zs.drop (Tm.sp zs)) (some ⟨b, off + Tm.sp zs, none⟩) (n - Tm.sp zs) (cap - Tm.sp zs) w' (by rw [List.length_drop]; omega) (by rw [List.length_drop]; omega) (by omega) (by omega) hr')
        have HRT := hide (hr.take (Tm.sp zs))
        have HRD := hide (hr.drop (Tm.sp zs))
        generalize zs.take (Tm.sp zs) = lt at *
        generalize zs.drop (Tm.sp zs) = rt at *
        generalize Tm.sp zs = s at *
        clear hc hr hn hf ih hsi hts
        go_enter Try.func126, Try.ntmps126
        go_wp2_with fail
        refine (c154 _ _).mono ?_
        rintro e w1 ⟨rfl, rfl⟩
        rw [unhide HTS]
        go_wp2_with fail
        go_quiet ((first | (go_at_call_of 126 (Value.slice (some ⟨b, off, none⟩) s cap); exact Calls.quiet_of (unhide HL _ (by exact (unhide HRT).drewN _))) | (go_at_call 155; exact Calls.quiet_of_same (c155 _ _ _)) | (go_at_call 126; exact Calls.quiet_of (unhide HR _ (by exact (unhide HRD).drewN _)))))
        go_wp2_with fail
        go_ret
        exact ⟨ret_int (unhide HU).symm, _, rfl⟩
end Go.Proofs.Ytjdnengmllamcaa
