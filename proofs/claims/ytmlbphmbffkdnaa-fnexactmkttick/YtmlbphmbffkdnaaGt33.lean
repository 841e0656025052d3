/-
  Texts of the proof, what it needs of them: Gato.
-/
import Derived.Test.YtmlbphmbffkdnaaGt13
import Derived.Test.YtmlbphmbffkdnaaGt27
import Derived.Test.YtmlbphmbffkdnaaGt28
namespace Go.Proofs.Ytmlbphmbffkdnaa
open Go.RowKit
set_option linter.unusedVariables false
set_option maxRecDepth 100000

theorem own_none (w : World) (base : Nat) (hb : base ≤ w.heap.size) : Own w base (.slice none 0 0) [] := ⟨fun z hz => by simp at hz, owns_nil w base 1 3 hb⟩
theorem Own.any {w : World} {base : Nat} {v : Value} {zs : List Int} (h : Own w base v zs) : ∃ ao cap, v = .slice ao zs.length cap ∧ zs.length ≤ cap ∧ (ao = none → cap = 0) ∧ Row w ao zs ∧ ∀ a, ao = some a → base ≤ a.block ∧ a.block < w.heap.size := by
  obtain ⟨ao, cap, rfl, h1, h2, h3⟩ := h.row
  exact ⟨ao, cap, rfl, h1, fun e => by subst e; exact own_cap0 h, h2, h3⟩
theorem i_at {zs : List Int} {k : Nat} (h : k < zs.length) : ∃ x, zs[k]? = some x := ⟨zs[k], List.getElem?_eq_getElem h⟩
/-- where a number of a list lies -/
theorem Row.get {w : World} {ao : Option Addr} {zs : List Int} (h : Row w ao zs) {k : Nat} {x : Int} (hx : zs[k]? = some x) : ∃ b off, ao = some ⟨b, off, none⟩ ∧ w.cell? ⟨b, off + k, none⟩ = some (.int .i64 x) ∧ -9223372036854775808 ≤ x ∧ x ≤ 9223372036854775807 := by
  obtain ⟨hl, e⟩ := List.getElem?_eq_some_iff.1 hx
  obtain ⟨b, off, rfl, hc⟩ := h.2 (by intro e2; subst e2; simp at hl)
  refine ⟨b, off, rfl, ?_, h.1 x (List.mem_of_getElem? hx)⟩
  have h2 := hc k hl
  rw [show zs.getD k 0 = x by rw [List.getD_eq_getElem?_getD, hx]; rfl] at h2
  exact h2

set_option maxHeartbeats 400000 in
theorem sgI (ao : Option Addr) (n cap l : Nat) (w : World) (hl : l ≤ 1048576) (hn : n ≤ 9223372036854775807) : Calls Try.prog 160 #[.slice ao n cap, .int .i64 (l : Int)] w fun e w' => e = .returned (.int .i64 (if n ≤ l then (l : Int) - (n : Int) else -1)) ∧ w' = w := by
  by_cases h : n ≤ l
  · have HE : Hid ((if n ≤ l then (l : Int) - (n : Int) else -1) = (l : Int) - (n : Int)) := by unfold Hid; rw [if_pos h]
    have h2 : ¬ ((l : Int) - (n : Int) < 0) := by omega
    go_enter Try.func160, Try.ntmps160
    go_wp2_with fail
    go_ret
    exact ⟨rfl, rfl⟩
  · have HE : Hid ((if n ≤ l then (l : Int) - (n : Int) else -1) = -1) := by unfold Hid; rw [if_neg h]
    have h2 : (l : Int) - (n : Int) < 0 := by omega
    go_enter Try.func160, Try.ntmps160
    go_wp2_with fail
    go_ret
    exact ⟨rfl, rfl⟩
end Go.Proofs.Ytmlbphmbffkdnaa
