/-
  Texts of the proof, what it needs of them: Owr.
-/
import Derived.Test.YtmlbphmbffkdnaaGs30
namespace Go.Proofs.Ytmlbphmbffkdnaa
open Go.RowKit
set_option linter.unusedVariables false
set_option maxRecDepth 100000

def ownRoot (rs : List Tm.Rw) : Int := if Tm.ownOk rs = true then Tm.treRoot (leavesR rs) else 0
theorem ownRoot_of {rs : List Tm.Rw} (h : Tm.ownOk rs = true) : ownRoot rs = Tm.treRoot (leavesR rs) := by unfold ownRoot; rw [if_pos h]
theorem ownRoot_no {rs : List Tm.Rw} (h : Tm.ownOk rs = false) : ownRoot rs = 0 := by unfold ownRoot; rw [if_neg (by simp [h])]
theorem leavesR_8 {rs : List Tm.Rw} (h : Tm.ownOk rs = true) : (leavesR rs).length = 8 := by rw [leavesR_len]; exact (Tm.ownOk_iff.1 h).1
theorem Own.mono' {w : World} {b b' : Nat} {v : Value} {zs : List Int} (h : Own w b' v zs) (hb : b ≤ b') : Own w b v zs := ⟨h.1, owns_mono h.2 hb⟩

set_option maxHeartbeats 2000000 in
theorem c192 (rs : List Tm.Rw) (ao : Option Addr) (n cap : Nat) (w : World) (hn : rs.length = n) (hm : n ≤ 1048576) (hr : RRow w ao rs) :
    Calls Try.prog 192 #[.slice ao n cap] w fun e w' => e = .returned (.int .i64 (ownRoot rs)) ∧ Below w.heap.size w w' := by
  have HR := hide hr
  have HN := hide hn
  clear hr hn
  go_enter Try.func192, Try.ntmps192
  go_wp2_with fail
  refine (c222 rs ao n cap _ HN.out (by omega) (unhide HR)).mono ?_
  rintro e w1 ⟨rfl, hb⟩
  have HB1 := hide hb
  have HR1 := hide ((unhide HR).bel hb)
  clear hb HR
  rcases hk : Tm.ownOk rs with _ | _
  · have HF := hide (ownRoot_no hk)
    clear hk
    go_wp2_with fail
    go_ret
    exact ⟨ret_int (unhide HF).symm, unhide HB1⟩
  · have HK := hide hk
    have HF := hide ((ownRoot_of hk).trans (treRoot_of (by rw [leavesR_8 hk]; omega) (leavesR_ok rs)))
    clear hk
    go_wp2_with fail
    refine (c223 rs ao n cap _ HN.out hm (unhide HR1)).mono ?_
    rintro e w2 ⟨v, rfl, ho2, hb2⟩
    obtain ⟨ao2, cap2, rfl, hcap2, hr2, -⟩ := ho2.row
    have HR2 := hide hr2
    have HB3 := hide (below_tr (unhide HB1) hb2)
    have H8 := hide (leavesR_8 (unhide HK))
    have hcap3 : 8 ≤ cap2 := by have := unhide H8; omega
    clear ho2 hb2 hr2 hcap2
    rw [unhide H8]
    go_wp2_with fail
    refine (c190b (leavesR rs) ao2 8 cap2 _ (unhide H8) (by omega) hcap3 (unhide HR2)).mono ?_
    rintro e w3 ⟨rfl, hb3⟩
    have HB4 := hide (below_tr (unhide HB3) hb3)
    clear hb3
    go_wp2_with fail
    go_ret
    exact ⟨ret_int (unhide HF).symm, unhide HB4⟩

end Go.Proofs.Ytmlbphmbffkdnaa
