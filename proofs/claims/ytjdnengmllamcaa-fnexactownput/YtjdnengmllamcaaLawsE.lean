/-
  The walks of TreRoot of the program, and of the laws FnExactTreRoot and FnTreRoot.
-/
import Derived.Test.YtjdnengmllamcaaTrees
namespace Go.Proofs.Ytjdnengmllamcaa
open Go.RowKit
set_option linter.unusedVariables false

set_option maxHeartbeats 1000000 in
theorem c123 (zs : List Int) (ao : Option Addr) (n cap : Nat) (w : World) (hn : zs.length = n) (hcap : n ≤ cap) (hb : n ≤ 1048576) (hr : Row w ao zs) :
    Calls Try.prog 123 #[.slice ao n cap] w fun e w' => e = .returned (.int .i64 (Tm.treRoot zs)) ∧ Below w.heap.size w w' := by
  have HR := hide hr
  have HN := hide hn
  clear hr hn
  rcases ho : Tm.treOk zs with _ | _
  · have HU : Hid (Tm.treRoot zs = 0) := by unfold Hid Tm.treRoot; rw [ho]; rfl
    go_enter Try.func123, Try.ntmps123
    go_wp2_with (go_at_call 127; refine (c127 zs _ _ _ _ (unhide HN) (by omega) (unhide HR)).mono ?_; rintro e w' ⟨rfl, rfl⟩)
    go_ret
    exact ⟨ret_int (unhide HU).symm, Below.refl _ _⟩
  · have HU : Hid (Tm.treRoot zs = Tm.root zs) := by unfold Hid Tm.treRoot; rw [ho]; rfl
    have hl := (treOk_len ho).1
    have HA := hide (treOk_len ho).2
    rw [unhide HN] at hl
    go_enter Try.func123, Try.ntmps123
    go_wp2_with (go_at_call 127; refine (c127 zs _ _ _ _ (unhide HN) (by omega) (unhide HR)).mono ?_; rintro e w' ⟨rfl, rfl⟩)
    refine (c128 n zs _ _ _ _ (by rw [unhide HN]; exact Nat.le_refl _) (unhide HN) hl hcap (unhide HA) (unhide HR)).mono ?_
    rintro e w1 ⟨p, rfl, ht, hb1⟩
    have hc := ht.root
    have HB := hide hb1
    clear ht hb1
    go_wp2_with fail
    go_ret
    exact ⟨ret_int (unhide HU).symm, unhide HB⟩

theorem treRoot_of {l : List Int} (h1 : l.length ≤ 40) (h2 : Tm.okAll l = true) : Tm.treRoot l = Tm.root l := by
  unfold Tm.treRoot Tm.treOk; rw [h2, decide_eq_true h1]; rfl

end Go.Proofs.Ytjdnengmllamcaa
