/-
  Texts of the proof, what it needs of them: Owr.
-/
import Derived.Test.YtmlbphmbffkdnaaGreatGh24
namespace Go.Proofs.YtmlbphmbffkdnaaGreat
open Go.RowKit
set_option linter.unusedVariables false
set_option maxRecDepth 100000

def ownRoot (rs : List Tm.Rw) : Int := if Tm.ownOk rs = true then Tm.treRoot (leavesR rs) else 0
def ownProof (rs : List Tm.Rw) (t : Int) : List Int := if Tm.ownOk rs = true then Tm.treProof (leavesR rs) t else []
theorem ownRoot_of {rs : List Tm.Rw} (h : Tm.ownOk rs = true) : ownRoot rs = Tm.treRoot (leavesR rs) := by unfold ownRoot; rw [if_pos h]
theorem ownRoot_no {rs : List Tm.Rw} (h : Tm.ownOk rs = false) : ownRoot rs = 0 := by unfold ownRoot; rw [if_neg (by simp [h])]
theorem ownProof_of {rs : List Tm.Rw} {t : Int} (h : Tm.ownOk rs = true) : ownProof rs t = Tm.treProof (leavesR rs) t := by unfold ownProof; rw [if_pos h]
theorem ownProof_no {rs : List Tm.Rw} {t : Int} (h : Tm.ownOk rs = false) : ownProof rs t = [] := by unfold ownProof; rw [if_neg (by simp [h])]
theorem leavesR_8 {rs : List Tm.Rw} (h : Tm.ownOk rs = true) : (leavesR rs).length = 8 := by rw [leavesR_len]; exact (Tm.ownOk_iff.1 h).1
theorem leavesR_tre {rs : List Tm.Rw} (h : Tm.ownOk rs = true) : Tm.treOk (leavesR rs) = true := by
  unfold Tm.treOk; rw [Bool.and_eq_true, decide_eq_true_iff]
  exact ⟨by rw [leavesR_8 h]; omega, leavesR_ok rs⟩
theorem ownProof_len (rs : List Tm.Rw) (t : Int) : (ownProof rs t).length ≤ 6 := by
  unfold ownProof
  split
  · exact treProof_len
  · simp
theorem Own.mono' {w : World} {b b' : Nat} {v : Value} {zs : List Int} (h : Own w b' v zs) (hb : b ≤ b') : Own w b v zs := ⟨h.1, owns_mono h.2 hb⟩

set_option maxHeartbeats 2000000 in
theorem c52 (rs : List Tm.Rw) (ao : Option Addr) (n cap : Nat) (w : World) (hn : rs.length = n) (hm : n ≤ 1048576) (hr : RRow w ao rs) :
    Calls Tryz.prog 52 #[.slice ao n cap] w fun e w' => e = .returned (.int .i64 (ownRoot rs)) ∧ Below w.heap.size w w' := by
  have HR := hide hr
  have HN := hide hn
  clear hr hn
  go_enter Tryz.func52, Tryz.ntmps52
  go_wp2_with fail
  refine (c59 rs ao n cap _ HN.out hm (unhide HR)).mono ?_
  rintro e w1 ⟨rfl, hb⟩
  have HL := hide (rowsIf_len rs)
  have HB2 := hide (below_al (o := .cells ((rowsIf rs).flatMap rCells).toArray 78) hb)
  clear hb HR
  rcases hk : Tm.ownOk rs with _ | _
  · have HF := hide (ownRoot_no hk)
    clear hk
    generalize rowsIf rs = rs' at *
    go_wp2_with (first | (refine wpList_store_run rfl _ _ 78 rfl _ _ rfl rfl (arr_store0 _ (unhide HL)) ?_))
    go_ret
    exact ⟨ret_int (unhide HF).symm, unhide HB2⟩
  · have HE := hide (rowsIf_of hk)
    have HK := hide hk
    have HF := hide (ownRoot_of hk)
    clear hk
    generalize rowsIf rs = rs' at *
    go_wp2_with (first | (refine wpList_store_run rfl _ _ 78 rfl _ _ rfl rfl (arr_store0 _ (unhide HL)) ?_) | (refine wpList_load_run rfl _ 78 rfl _ rfl (arr_load0 _ (unhide HL)) ?_))
    have HE' := unhide HE
    subst HE'
    refine (c61 _ _ (unhide HL) (ownOk_fit (unhide HK))).mono ?_
    rintro e w2 ⟨v, rfl, ho2, hb2⟩
    obtain ⟨ao2, cap2, rfl, hcap2, hr2, -⟩ := ho2.row
    have HR2 := hide hr2
    have HB3 := hide (below_tr (unhide HB2) hb2)
    have H8 := hide (leavesR_8 (unhide HK))
    have hcap3 : 8 ≤ cap2 := by have := unhide H8; omega
    clear ho2 hb2 hr2 hcap2
    rw [unhide H8]
    go_wp2_with fail
    refine (c50 (leavesR rs') ao2 8 cap2 _ (unhide H8) hcap3 (by omega) (unhide HR2)).mono ?_
    rintro e w3 ⟨rfl, hb3⟩
    have HB4 := hide (below_tr (unhide HB3) hb3)
    clear hb3
    go_wp2_with fail
    go_ret
    exact ⟨ret_int (unhide HF).symm, unhide HB4⟩

set_option maxHeartbeats 2000000 in
theorem c18 (rs : List Tm.Rw) (t : Int) (ao : Option Addr) (n cap : Nat) (w : World) (hn : rs.length = n) (hm : n ≤ 1048576) (hr : RRow w ao rs) :
    Calls Tryz.prog 18 #[.slice ao n cap, .int .i64 t] w (Told w (ownProof rs t)) := by
  have HR := hide hr
  have HN := hide hn
  clear hr hn
  go_enter Tryz.func18, Tryz.ntmps18
  go_wp2_with fail
  refine (c59 rs ao n cap _ HN.out hm (unhide HR)).mono ?_
  rintro e w1 ⟨rfl, hb⟩
  have HL := hide (rowsIf_len rs)
  have HB2 := hide (below_al (o := .cells ((rowsIf rs).flatMap rCells).toArray 78) hb)
  clear hb HR
  rcases hk : Tm.ownOk rs with _ | _
  · have HF := hide (ownProof_no (t := t) hk)
    clear hk
    generalize rowsIf rs = rs' at *
    go_wp2_with (first | (refine wpList_store_run rfl _ _ 78 rfl _ _ rfl rfl (arr_store0 _ (unhide HL)) ?_))
    go_ret
    exact ⟨_, rfl, by rw [unhide HF]; exact ⟨fun z hz => by simp at hz, owns_nil _ _ _ _ (unhide HB2).size⟩, unhide HB2⟩
  · have HE := hide (rowsIf_of hk)
    have HK := hide hk
    have HF := hide (ownProof_of (t := t) hk)
    clear hk
    generalize rowsIf rs = rs' at *
    go_wp2_with (first | (refine wpList_store_run rfl _ _ 78 rfl _ _ rfl rfl (arr_store0 _ (unhide HL)) ?_) | (refine wpList_load_run rfl _ 78 rfl _ rfl (arr_load0 _ (unhide HL)) ?_))
    have HE' := unhide HE
    subst HE'
    refine (c61 _ _ (unhide HL) (ownOk_fit (unhide HK))).mono ?_
    rintro e w2 ⟨v, rfl, ho2, hb2⟩
    obtain ⟨ao2, cap2, rfl, hcap2, hr2, -⟩ := ho2.row
    have HR2 := hide hr2
    have HB3 := hide (below_tr (unhide HB2) hb2)
    have H8 := hide (leavesR_8 (unhide HK))
    have hcap3 : 8 ≤ cap2 := by have := unhide H8; omega
    clear ho2 hb2 hr2 hcap2
    rw [unhide H8]
    go_wp2_with fail
    refine (c60 (leavesR rs') t ao2 8 cap2 _ (unhide H8) hcap3 (by omega) (unhide HR2)).mono ?_
    rintro e w3 ⟨v3, rfl, ho3, hb3⟩
    have HO3 := hide (ho3.mono' (unhide HB3).size)
    have HB4 := hide (below_tr (unhide HB3) hb3)
    clear hb3 ho3
    go_wp2_with fail
    go_ret
    exact ⟨_, rfl, by rw [unhide HF]; exact unhide HO3, unhide HB4⟩

set_option maxHeartbeats 2000000 in
theorem c55 (rs : List Tm.Rw) (ao : Option Addr) (n cap : Nat) (w : World) (hn : rs.length = n) (hm : n ≤ 1048576) (hr : RRow w ao rs) :
    Calls Tryz.prog 55 #[.slice ao n cap] w fun e w' => e = .returned (.int .i64 (ownRoot rs)) ∧ Below w.heap.size w w' := by
  have HR := hide hr
  have HN := hide hn
  clear hr hn
  go_enter Tryz.func55, Tryz.ntmps55
  go_wp2_with fail
  refine (c73 rs ao n cap _ HN.out (by omega) (unhide HR)).mono ?_
  rintro e w1 ⟨rfl, hb⟩
  have HB1 := hide hb
  have HR1 := hide ((unhide HR).bel hb)
  clear hb HR
  rcases hk : Tm.ownOk rs with _ | _
  · have HF := hide (ownRoot_no hk)
    clear hk
    go_wp2_with fail
    go_ret
    exact ⟨ret_int (unhide HF).symm, unhide HB1⟩
  · have HK := hide hk
    have HF := hide ((ownRoot_of hk).trans (treRoot_of (by rw [leavesR_8 hk]; omega) (leavesR_ok rs)))
    clear hk
    go_wp2_with fail
    refine (c75 rs ao n cap _ HN.out hm (unhide HR1)).mono ?_
    rintro e w2 ⟨v, rfl, ho2, hb2⟩
    obtain ⟨ao2, cap2, rfl, hcap2, hr2, -⟩ := ho2.row
    have HR2 := hide hr2
    have HB3 := hide (below_tr (unhide HB1) hb2)
    have H8 := hide (leavesR_8 (unhide HK))
    have hcap3 : 8 ≤ cap2 := by have := unhide H8; omega
    clear ho2 hb2 hr2 hcap2
    rw [unhide H8]
    go_wp2_with fail
    refine (c53b (leavesR rs) ao2 8 cap2 _ (unhide H8) (by omega) hcap3 (unhide HR2)).mono ?_
    rintro e w3 ⟨rfl, hb3⟩
    have HB4 := hide (below_tr (unhide HB3) hb3)
    clear hb3
    go_wp2_with fail
    go_ret
    exact ⟨ret_int (unhide HF).symm, unhide HB4⟩

set_option maxHeartbeats 2000000 in
theorem c31 (rs : List Tm.Rw) (t : Int) (ao : Option Addr) (n cap : Nat) (w : World) (hn : rs.length = n) (hm : n ≤ 1048576) (hr : RRow w ao rs) :
    Calls Tryz.prog 31 #[.slice ao n cap, .int .i64 t] w (Told w (ownProof rs t)) := by
  have HR := hide hr
  have HN := hide hn
  clear hr hn
  go_enter Tryz.func31, Tryz.ntmps31
  go_wp2_with fail
  refine (c73 rs ao n cap _ HN.out (by omega) (unhide HR)).mono ?_
  rintro e w1 ⟨rfl, hb⟩
  have HB1 := hide hb
  have HR1 := hide ((unhide HR).bel hb)
  have HE1 := hide (own_empty w1 w.heap.size hb.size)
  clear hb HR
  rcases hk : Tm.ownOk rs with _ | _
  · have HF := hide (ownProof_no (t := t) hk)
    clear hk
    go_wp2_with fail
    go_ret
    exact ⟨_, rfl, by rw [unhide HF]; exact unhide HE1, below_al (unhide HB1)⟩
  by_cases ht : 0 ≤ t ∧ t ≤ 7
  · have HK := hide hk
    have hdt : decide (0 ≤ t ∧ t ≤ 7) = true := by simpa using ht
    obtain ⟨j, rfl⟩ : ∃ j : Nat, t = (j : Int) := ⟨t.toNat, by omega⟩
    have hj8 : j < 8 := by omega
    have hj7 : (j : Int) ≤ 7 := by omega
    have HF := hide ((ownProof_of (t := (j : Int)) hk).trans (treProof_of ⟨leavesR_tre hk, by omega, by rw [leavesR_8 hk]; omega⟩))
    clear hk ht
    go_wp2_with (go_at_call 40; refine (c40 _ _ _ _).mono ?_; rintro e w' ⟨rfl, rfl⟩)
    refine (c75 rs ao n cap _ HN.out hm (unhide HR1)).mono ?_
    rintro e w2 ⟨v, rfl, ho2, hb2⟩
    obtain ⟨ao2, cap2, rfl, hcap2, hr2, -⟩ := ho2.row
    have HR2 := hide hr2
    have HB3 := hide (below_tr (unhide HB1) hb2)
    have H8 := hide (leavesR_8 (unhide HK))
    have hcap3 : 8 ≤ cap2 := by have := unhide H8; omega
    clear ho2 hb2 hr2 hcap2
    rw [unhide H8]
    go_wp2_with fail
    refine (c74 8 (leavesR rs) j ao2 8 cap2 _ (by rw [unhide H8]; exact Nat.le_refl _) (unhide H8) (by omega) hcap3 hj8 (leavesR_ok rs) (unhide HR2)).mono ?_
    rintro e w3 ⟨v3, rfl, ho3, hb3⟩
    have HO3 := hide (ho3.mono' (unhide HB3).size)
    have HB4 := hide (below_tr (unhide HB3) hb3)
    clear hb3 ho3
    go_wp2_with fail
    go_ret
    exact ⟨_, rfl, by rw [unhide HF, Int.toNat_natCast]; exact unhide HO3, unhide HB4⟩
  · have hdt : decide (0 ≤ t ∧ t ≤ 7) = false := by simpa using ht
    have HF := hide ((ownProof_of (t := t) hk).trans (treProof_no (fun e => ht (by have := leavesR_8 hk; omega))))
    clear hk ht
    go_wp2_with (go_at_call 40; refine (c40 _ _ _ _).mono ?_; rintro e w' ⟨rfl, rfl⟩)
    go_ret
    exact ⟨_, rfl, by rw [unhide HF]; exact unhide HE1, below_al (unhide HB1)⟩
end Go.Proofs.YtmlbphmbffkdnaaGreat
