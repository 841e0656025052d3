/-
  Texts of the proof, what it needs of them: Swg.
-/
import Derived.Test.YtmlbphmbffkdnaaGw15
import Derived.Test.YtmlbphmbffkdnaaGw24
import Derived.Test.YtmlbphmbffkdnaaGw34
namespace Go.Proofs.Ytmlbphmbffkdnaa
open Go.RowKit
set_option linter.unusedVariables false
set_option maxRecDepth 100000

theorem any_at {zs : List Int} {x t : Int} {k : Nat} (h : zs[k]? = some x) (ht : x = t) : (zs.drop k).any (fun z => decide (z = t)) = true := by rw [i_drop h]; simp [ht]
theorem any_on {zs : List Int} {x t : Int} {k : Nat} (h : zs[k]? = some x) (ht : ¬ x = t) : (zs.drop k).any (fun z => decide (z = t)) = (zs.drop (k + 1)).any (fun z => decide (z = t)) := by rw [i_drop h]; simp [ht]
/-- whether a number is one of some -/
def hasB (zs : List Int) (t : Int) : Bool := zs.any (fun z => decide (z = t))
theorem hasB_iff {zs : List Int} {t : Int} : hasB zs t = true ↔ t ∈ zs := by
  unfold hasB
  rw [List.any_eq_true]
  exact ⟨fun ⟨z, hz, e⟩ => by rw [← of_decide_eq_true e]; exact hz, fun h => ⟨t, h, by simp⟩⟩

set_option maxHeartbeats 4000000 in
theorem c148 (zs : List Int) (ao : Option Addr) (n cap : Nat) (t : Int) (w : World) (hn : zs.length = n) (hm : n ≤ 1048576) (hr : Row w ao zs) :
    Calls Try.prog 148 #[.slice ao n cap, .int .i64 t] w fun e w' => e = .returned (.bool (hasB zs t)) ∧ Below w.heap.size w w' := by
  have HR := hide hr
  have HN := hide hn
  clear hr hn
  have HB := hide (Below.refl w.heap.size w)
  go_enter Try.func148, Try.ntmps148
  go_wp2_with fail
  go_loopw [5] (fun i wr => ∃ k : Nat, k ≤ n ∧ i = .int .i64 k ∧ hasB zs t = (zs.drop k).any (fun z => decide (z = t)) ∧ Below w.heap.size w wr) (fun i _ => n - (intOf i).toNat)
  case atStart => exact ⟨0, Nat.zero_le _, rfl, rfl, unhide HB⟩
  case round =>
    obtain ⟨k, hk, rfl, ha, hb⟩ := hrel
    clear HB
    have HA := hide ha
    have HB := hide hb
    clear ha hb
    replace HR := hide ((unhide HR).bel (unhide HB))
    obtain ⟨WA, hWA⟩ : ∃ A : World, A = wr := ⟨_, rfl⟩
    subst hWA
    by_cases hlt : k < n
    case neg =>
      obtain rfl : k = n := by omega
      have hf : hasB zs t = false := by rw [unhide HA, List.drop_eq_nil_of_le (by rw [unhide HN]; exact Nat.le_refl _)]; rfl
      go_wp2_with fail
      go_ret
      exact ⟨ret_bool hf.symm, unhide HB⟩
    obtain ⟨x, hx⟩ := i_at (zs := zs) (k := k) (by rw [unhide HN]; exact hlt)
    obtain ⟨b, off, rfl, hc, hx2⟩ := (unhide HR).get hx
    have HX := hide hx
    clear hx
    by_cases ht : x = t
    case pos =>
      have hf : hasB zs t = true := by rw [unhide HA]; exact any_at (unhide HX) ht
      subst ht
      go_wp2_with fail
      go_ret
      exact ⟨ret_bool hf.symm, unhide HB⟩
    have hd : (x == t) = false := by rw [beq_eq_false_iff_ne]; exact ht
    have hq := any_on (unhide HX) ht
    have HQ := hide hq
    clear hq
    go_wp2_with fail
    go_roundw
    case rel => exact ⟨k + 1, by omega, by go_num, by rw [unhide HA]; exact unhide HQ, unhide HB⟩
    case measure => simp [intOf]; omega

end Go.Proofs.Ytmlbphmbffkdnaa
