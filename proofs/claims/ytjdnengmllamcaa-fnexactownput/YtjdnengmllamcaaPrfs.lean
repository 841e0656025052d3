/-
  The walks of proofs, in the model: l2Proof, TreProof.
-/
import Derived.Test.YtjdnengmllamcaaLawsE
import Derived.Test.YtjdnengmllamcaaMathd
import Derived.Deep.AppendLies
namespace Go.Proofs.Ytjdnengmllamcaa
open Go.RowKit
set_option linter.unusedVariables false

theorem grown_of_below {w w' : World} (h : Below w.heap.size w w') : w.grownBy w' none := ⟨h.os, h.tape, h.output, h.size, fun k hk _ => h.block k hk⟩
theorem Own.below {w w' : World} {base : Nat} {v : Value} {zs : List Int} (h : Own w base v zs) (hb : Below w.heap.size w w') : Own w' base v zs := by
  refine ⟨h.1, h.2.kept (grown_of_below hb) ?_⟩
  cases hv : v.ownBlock with
  | none => exact Or.inl rfl
  | some b => exact Or.inr (by simp)
theorem c126b (zs : List Int) (ao : Option Addr) (n cap : Nat) (w : World) (hn : zs.length = n) (h40 : n ≤ 40) (hcap : n ≤ cap) (hr : Row w ao zs) :
    Calls Try.prog 126 #[.slice ao n cap] w fun e w' => e = .returned (.int .i64 (Tm.root zs)) ∧ Below w.heap.size w w' := by
  refine (c126 n zs ao n cap w (by omega) hn h40 hcap hr).mono ?_
  rintro e w1 ⟨rfl, q, rfl⟩
  exact ⟨rfl, below_drewN (Below.refl _ _) q⟩

theorem wrap_sub {x : Int} (h1 : -9223372036854775808 ≤ x) (h2 : x ≤ 9223372036854775807) : IntKind.i64.wrap x = x := by
  simp [IntKind.wrap, IntKind.bits, IntKind.signed]; omega
/-- a new list that is told back: it lies in memory of the call's own -/
def Told (w : World) (zs : List Int) (e : Ending) (w' : World) : Prop := ∃ v, e = .returned v ∧ Own w' w.heap.size v zs ∧ Below w.heap.size w w'

theorem ok_fits {x : Int} (h : Tm.okB x = true) : -9223372036854775808 ≤ x ∧ x ≤ 9223372036854775807 := by have := (Tm.okB_iff x).1 h; omega
theorem own_fin {w w1 w2 : World} {v : Value} {zs : List Int} {x : Int} {g cap : Nat} {o : Obj} (h0 : Below w.heap.size w w1) (ho : Own w1 w.heap.size v zs) (hx : -9223372036854775808 ≤ x ∧ x ≤ 9223372036854775807)
    (hown : w2.ownsRow w.heap.size 3 1 (.slice (some ⟨g, 0, none⟩) (zs.length + 1) cap) (zs.length + 1) (zs.map (Value.int .i64) ++ [.int .i64 x])) (hg : (w1.alloc o).grownBy w2 v.ownBlock) :
    Own w2 w.heap.size (.slice (some ⟨g, 0, none⟩) (zs.length + 1) cap) (zs ++ [x]) ∧ Below w.heap.size w w2 :=
  ⟨own_snoc ho.1 hx hown, (h0.alloc h0.size o).grown hg (by have := h0.size; simp; omega) (fun k hk => own_block ho k hk)⟩

set_option maxRecDepth 8000 in
set_option maxHeartbeats 800000 in
theorem c124 (f : Nat) : ∀ (zs : List Int) (i : Nat) (ao : Option Addr) (n cap : Nat) (w : World), zs.length ≤ f → zs.length = n → n ≤ 40 → n ≤ cap → i < n → Tm.okAll zs = true → Row w ao zs →
    Calls Try.prog 124 #[.slice ao n cap, .int .i64 i] w (Told w (Tm.prf zs i)) := by
  induction f with
  | zero => intro zs i ao n cap w hf hn h40 hcap hi hok hr; omega
  | succ f ih =>
    intro zs i ao n cap w hf hn h40 hcap hi hok hr
    by_cases h1 : n < 2
    · have HU := hide (Tm.prf_one (l := zs) (i := i) (by omega))
      have HE := hide (own_empty w w.heap.size (Nat.le_refl _))
      clear hr hn hf ih
      go_enter Try.func124, Try.ntmps124
      go_wp2_with fail
      go_ret
      exact ⟨_, rfl, by rw [unhide HU]; exact unhide HE, (Below.refl _ _).alloc (Nat.le_refl _) _⟩
    · obtain ⟨b, off, rfl, hc⟩ := hr.2 (by intro e; subst e; simp at hn; omega)
      have hs := Tm.sp_bd (l := zs) (by omega) (by omega)
      have hsi := Tm.sp_int (l := zs) (by omega) (by omega)
      rw [hn] at hsi hs
      have hts := Tm.treSplit_of (n := (n : Int)) (by omega) (by omega)
      rw [hsi] at hts
      have HTS := hide hts
      obtain ⟨s1, s2, s3⟩ := hs
      have HRT := hide (hr.take (Tm.sp zs))
      have HRD := hide (hr.drop (Tm.sp zs))
      have HLT := hide (show (zs.take (Tm.sp zs)).length = Tm.sp zs by rw [List.length_take]; omega)
      have HLD := hide (show (zs.drop (Tm.sp zs)).length = n - Tm.sp zs by rw [List.length_drop]; omega)
      obtain ⟨i0, hi0, hz0, hz1, hz2⟩ := info_parts Try.info3
      by_cases hil : i < Tm.sp zs
      · have HU := hide (Tm.prf_left (l := zs) (i := i) (by omega) (by omega) hil)
        have HP := hide (fun (w' : World) (hr' : Row w' (some ⟨b, off, none⟩) (zs.take (Tm.sp zs))) => ih (zs.take (Tm.sp zs)) i (some ⟨b, off, none⟩) (Tm.sp zs) cap w' (by rw [List.length_take]; omega) (by rw [List.length_take]; omega) (by omega) (by omega) hil (Tm.okAll_take hok _) hr')
        have HX := hide (ok_fits (Tm.root_ok _ (zs.drop (Tm.sp zs)) (Nat.le_refl _) (by rw [List.length_drop]; omega) (Tm.okAll_drop hok _)))
        have hpl := Tm.prf_len6 (l := zs.take (Tm.sp zs)) i (by rw [List.length_take]; omega)
        generalize zs.take (Tm.sp zs) = lt at *
        generalize zs.drop (Tm.sp zs) = rt at *
        generalize Tm.sp zs = s at *
        clear hc hr hn hf ih hsi hts hok
        have k0 : (0 : Int) ≤ (s : Int) := by omega
        have k1 : (s : Int) ≤ (cap : Int) := by omega
        have k2 : (s : Int) ≤ (n : Int) := by omega
        have k3 : (n : Int) ≤ (cap : Int) := by omega
        have k4 : (i : Int) < (s : Int) := by omega
        go_enter Try.func124, Try.ntmps124
        go_wp2_with fail
        refine (c154 _ _).mono ?_
        rintro e w1 ⟨rfl, rfl⟩
        rw [unhide HTS]
        go_wp2_with fail
        have hW0 := below_drew w1
        go_region_held3 (fun w' => Below w1.heap.size w1 w') (assumption) (first | (go_at_call 124; refine (unhide HP _ (by exact (unhide HRT).drew)).mono ?_; rintro e w2 ⟨v, rfl, ho1, hb1⟩; have hb2 := below_undrew hb1) | (go_at_call 126; refine (c126b rt _ _ _ _ (unhide HLD) (by omega) (by omega) (by exact (unhide HRD).below hb2 (Nat.le_refl _))).mono ?_; rintro e w3 ⟨rfl, hb3⟩; have ho3 := ho1.below hb3; have hb4 := below_then hb2 hb3; have hb5 := hb4.alloc hb4.size (.cells #[.int .i64 (Tm.root rt)] 3)) | (refine step_append_lies _ rfl _ _ 28 rfl w1.heap.size 3 i0 (.int .i64 0) 1 8 Try.underlying28 hi0 hz0 hz1 hz2 rfl (by decide) _ _ _ rfl (ho3.2.alloc _) ⟨w3.heap.size, 0, none⟩ 1 1 [.int .i64 (Tm.root rt)] rfl rfl (cell_one_new _ _ _) (by simp [Value.oneCell']) (by decide) (by unfold maxLen; omega) (by omega) hb5.size _ rfl ?_; intro g cp w4 hown4 hgrow4 hat4 hlt4; have hfin := own_fin hb4 ho3 (unhide HX) hown4 hgrow4; have hb6 := hfin.2))
        have HF := hide hfin
        clear hfin hb1 hb2 hb3 hb4 hb5 hb6 ho1 ho3 hown4 hgrow4 hW0
        go_wp2_with fail
        go_ret
        exact ⟨_, rfl, by rw [unhide HU]; exact (unhide HF).1, (unhide HF).2⟩
      · have HU := hide (Tm.prf_right (l := zs) (i := i) (by omega) (by omega) hil)
        have HP : Hid (∀ (w' : World) (j : Int), j = ((i - Tm.sp zs : Nat) : Int) → Row w' (some ⟨b, off + Tm.sp zs, none⟩) (zs.drop (Tm.sp zs)) → Calls Try.prog 124 #[.slice (some ⟨b, off + Tm.sp zs, none⟩) (n - Tm.sp zs) (cap - Tm.sp zs), .int .i64 j] w' (Told w' (Tm.prf (zs.drop (Tm.sp zs)) (i - Tm.sp zs)))) := by
          intro w' j hj hr'
          subst hj
          exact ih (zs.drop (Tm.sp zs)) (i - Tm.sp zs) (some ⟨b, off + Tm.sp zs, none⟩) (n - Tm.sp zs) (cap - Tm.sp zs) w' (by rw [List.length_drop]; omega) (by rw [List.length_drop]; omega) (by omega) (by omega) (by omega) (Tm.okAll_drop hok _) hr'
        have HX := hide (ok_fits (Tm.root_ok _ (zs.take (Tm.sp zs)) (Nat.le_refl _) (by rw [List.length_take]; omega) (Tm.okAll_take hok _)))
        have hpl := Tm.prf_len6 (l := zs.drop (Tm.sp zs)) (i - Tm.sp zs) (by rw [List.length_drop]; omega)
        generalize zs.take (Tm.sp zs) = lt at *
        generalize zs.drop (Tm.sp zs) = rt at *
        generalize Tm.sp zs = s at *
        clear hc hr hn hf ih hsi hts hok
        have k0 : (0 : Int) ≤ (s : Int) := by omega
        have k1 : (s : Int) ≤ (cap : Int) := by omega
        have k2 : (s : Int) ≤ (n : Int) := by omega
        have k3 : (n : Int) ≤ (cap : Int) := by omega
        have k4 : ¬ (i : Int) < (s : Int) := by omega
        have hcs : ¬ cap = s := by omega
        have hwr : IntKind.i64.wrap ((i : Int) - (s : Int)) = (i : Int) - (s : Int) := wrap_sub (by omega) (by omega)
        go_enter Try.func124, Try.ntmps124
        go_wp2_with fail
        refine (c154 _ _).mono ?_
        rintro e w1 ⟨rfl, rfl⟩
        rw [unhide HTS]
        go_wp2_with fail
        have hW0 := below_drew w1
        go_region_held3 (fun w' => Below w1.heap.size w1 w') (assumption) (first | (go_at_call 124; refine (unhide HP _ _ (by omega) (by exact (unhide HRD).drew)).mono ?_; rintro e w2 ⟨v, rfl, ho1, hb1⟩; have hb2 := below_undrew hb1) | (go_at_call 126; refine (c126b lt _ _ _ _ (unhide HLT) (by omega) (by omega) (by exact (unhide HRT).below hb2 (Nat.le_refl _))).mono ?_; rintro e w3 ⟨rfl, hb3⟩; have ho3 := ho1.below hb3; have hb4 := below_then hb2 hb3; have hb5 := hb4.alloc hb4.size (.cells #[.int .i64 (Tm.root lt)] 3)) | (refine step_append_lies _ rfl _ _ 28 rfl w1.heap.size 3 i0 (.int .i64 0) 1 8 Try.underlying28 hi0 hz0 hz1 hz2 rfl (by decide) _ _ _ rfl (ho3.2.alloc _) ⟨w3.heap.size, 0, none⟩ 1 1 [.int .i64 (Tm.root lt)] rfl rfl (cell_one_new _ _ _) (by simp [Value.oneCell']) (by decide) (by unfold maxLen; omega) (by omega) hb5.size _ rfl ?_; intro g cp w4 hown4 hgrow4 hat4 hlt4; have hfin := own_fin hb4 ho3 (unhide HX) hown4 hgrow4; have hb6 := hfin.2))
        have HF := hide hfin
        clear hfin hb1 hb2 hb3 hb4 hb5 hb6 ho1 ho3 hown4 hgrow4 hW0
        go_wp2_with fail
        go_ret
        exact ⟨_, rfl, by rw [unhide HU]; exact (unhide HF).1, (unhide HF).2⟩

theorem treProof_no {zs : List Int} {i : Int} (h : ¬ (Tm.treOk zs = true ∧ 0 ≤ i ∧ i < zs.length)) : Tm.treProof zs i = [] := by unfold Tm.treProof; rw [if_neg h]
theorem treProof_of {zs : List Int} {i : Int} (h : Tm.treOk zs = true ∧ 0 ≤ i ∧ i < zs.length) : Tm.treProof zs i = Tm.prf zs i.toNat := by unfold Tm.treProof; rw [if_pos h]

end Go.Proofs.Ytjdnengmllamcaa
