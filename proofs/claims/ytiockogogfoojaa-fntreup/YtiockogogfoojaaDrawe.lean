/-
  The walks of the model's draws of what is checked and of what is told upwards: DrawTreCheck, DrawTreUp.
-/
import Derived.Test.YtiockogogfoojaaShown
namespace Go.Proofs.Ytiockogogfoojaa
open Go.RowKit
set_option linter.unusedVariables false

theorem St.drewN {w0 W : World} {r k : Nat} {v pv : Value} {zs ps : List Int} (h : St w0 W r k v zs pv ps) (q : Nat) : St w0 (W.drewN q) r k v zs pv ps :=
  h.step (grown_drewN (grown_refl _ _) q) (h.2.2.2.1.drewN q)

def Asked (w : World) (e : Ending) (w' : World) : Prop :=
  ∃ (root n i x : Int) (pv : Value) (qs : List Int), e = .returned (.tuple #[.int .i64 root, .int .i64 n, .int .i64 i, .int .i64 x, pv]) ∧ Own w' w.heap.size pv qs ∧ qs.length ≤ 7 ∧ Below w.heap.size w w'

set_option maxHeartbeats 2000000 in
theorem c47 (zs : List Int) (ao : Option Addr) (n cap : Nat) (w : World) (hn : zs.length = n) (hc : n ≤ cap) (hm : cap ≤ maxLen) (hB : Bytes w ao zs) :
    Calls Try.prog 47 #[.slice ao n cap] w (Asked w) := by
  have HB := hide hB
  clear hB
  go_enter Try.func47, Try.ntmps47
  go_wp2_with fail
  refine (c59 zs ao n cap _ hn hc hm (unhide HB)).mono ?_
  rintro e w1 ⟨rfl, hr, hb, hl⟩
  have HR := hide hr
  have HBe := hide hb
  clear hr hb
  go_wp2_with fail
  refine (c71 _ 0 _ (by omega) (unhide HR)).mono ?_
  rintro e w2 ⟨v, pv, ys, qs, i, x, rfl, hS, hy, hq, hi, hx⟩
  obtain ⟨ao', cap', rfl, hcap', -, -⟩ := hS.2.1.row
  have HS := hide hS
  clear hS hx HR
  go_wp2_with fail
  refine (c41 ys _ _ _ _ rfl hcap' (by omega) (unhide HS).2.1.rowOf).mono ?_
  rintro e w3 ⟨rfl, q, rfl⟩
  have HS3 := hide ((unhide HS).drewN q)
  clear HS
  generalize w2.drewN q = w3 at *
  go_wp2_with fail
  refine (c72 _ (0 + 400) 6 _ (by omega) (by omega) (unhide HS3).2.2.2.1).mono ?_
  rintro e w4 ⟨b, rfl, hr, hg⟩
  have HS4 := hide ((unhide HS3).step hg hr)
  clear hr hg HS3
  cases b
  · have HBf := hide (below_of_grown (unhide HBe) (unhide HS4).2.2.2.2)
    go_wp2_with fail
    try simp only [Exit.inBlock, Exit.then]
    refine bodyPost_ret (results_tmp5 rfl _ _ _) rfl ?_
    exact ⟨_, _, _, _, _, qs, rfl, (unhide HS4).2.2.1.mono (Nat.le_of_lt hl), hq, unhide HBf⟩
  · go_wp2_with fail
    refine (c60 _ (0 + 400 + 1) 3 _ (by omega) (by omega) (unhide HS4).2.2.2.1).mono ?_
    rintro e w5 ⟨y, rfl, hy', hr, hg⟩
    have HS5 := hide ((unhide HS4).step hg hr)
    clear hr hg HS4 hy'
    have HBf := hide (below_of_grown (unhide HBe) (unhide HS5).2.2.2.2)
    go_wp2_with fail
    try simp only [Exit.inBlock, Exit.then]
    refine bodyPost_ret (results_tmp5 rfl _ _ _) rfl ?_
    exact ⟨_, _, _, _, _, qs, rfl, (unhide HS5).2.2.1.mono (Nat.le_of_lt hl), hq, unhide HBf⟩
end Go.Proofs.Ytiockogogfoojaa
