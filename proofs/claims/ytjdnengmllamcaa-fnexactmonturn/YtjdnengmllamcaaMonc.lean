/-
  The walk of the model's MonTurn.
-/
import Derived.Test.YtjdnengmllamcaaMonb
namespace Go.Proofs.Ytjdnengmllamcaa
open Go.RowKit
set_option linter.unusedVariables false
set_option maxRecDepth 100000

/-- a copy behind an empty list of the call's own -/
theorem own_copy {w w2 : World} {p : List Int} {v : Value} (hf : Fits p) (h : w2.ownsRow w.heap.size 3 1 v (0 + p.length) ([] ++ p.map (Value.int .i64))) (hg : (w.alloc (.cells #[] 3)).grownBy w2 (some w.heap.size)) : Own w2 w.heap.size v p ∧ Below w.heap.size w w2 :=
  ⟨⟨hf, by simpa using h⟩, (below_a (w := w) (.cells #[] 3)).grown hg (below_a (w := w) (.cells #[] 3)).size (fun q hq => by cases hq; exact Nat.le_refl _)⟩
theorem ret_lb {v : Value} {a b : Bool} (h : a = b) : Ending.returned (.tuple #[v, .bool a]) = .returned (.tuple #[v, .bool b]) := by rw [h]
theorem own_copy0 {w : World} (p : List Int) (hp : p = []) : Own (w.alloc (.cells #[] 3)) w.heap.size (.slice (some ⟨w.heap.size, 0, none⟩) p.length 0) p ∧ Below w.heap.size w (w.alloc (.cells #[] 3)) := by
  subst hp; exact ⟨own_empty w w.heap.size (Nat.le_refl _), below_a _⟩

set_option maxHeartbeats 4000000 in
theorem c83 (p : List Int) (u n : Int) (ao : Option Addr) (m cap : Nat) (w : World) (hm : p.length = m) (hb : m ≤ 1048576) (hn : -9223372036854775808 ≤ n ∧ n ≤ 9223372036854775807) (hz : ao = none → cap = 0) (hr : Row w ao p) :
    Calls Try.prog 83 #[.slice ao m cap, .int .i64 u, .int .i64 n] w (Told2 w (Tm.monTurn p u n) (Tm.turnOk p u n)) := by
  subst hm
  obtain ⟨i0, hi, hz0, hz1, hz2⟩ := info_parts Try.info3
  obtain ⟨n1, n2⟩ := hn
  have HF := hide hr.1
  have HR := hide hr
  have HE := hide (own_empty w w.heap.size (Nat.le_refl _))
  cases ao with
  | none =>
    have h0 : p = [] := row_none hr
    have hc0 := hz rfl
    subst hc0
    subst h0
    clear hr hz
    have hE := Tm.turnOk_no (p := []) (u := u) (n := n) (by simp [Tm.monOk])
    have HT := hide (Tm.monTurn_no hE)
    have hk : Tm.monOk [] = false := by decide
    have HEE := hide hE
    clear hE
    go_enter Try.func83, Try.ntmps83
    go_wp2_with (first | (at_builtin; refine wpList_append_own_none rfl _ _ 28 rfl w.heap.size 3 i0 1 Try.underlying28 hi _ 0 [] rfl (unhide HE).2 rfl ?_) | fail)
    go_wp2_with (first | (go_at_call 84; refine (c84 [] _ _ _ _ rfl (by simp) ((unhide HR).bel (below_a _))).mono ?_; rintro e w' ⟨rfl, rfl⟩) | fail)
    go_ret2
    exact ⟨_, ret_lb (unhide HEE).symm, by rw [unhide HT]; exact unhide HE, below_a _⟩
  | some a =>
    have HC := hide (row_src (row_alloc hr (.cells #[] 3)))
    clear hr hz
    go_enter Try.func83, Try.ntmps83
    go_wp2_with (first | (at_builtin; refine wpList_append_own _ rfl _ _ 28 rfl w.heap.size 3 i0 (.int .i64 0) 1 8 Try.underlying28 hi hz0 hz1 hz2 rfl (by decide) _ _ _ rfl (unhide HE).2 a p.length cap (p.map (Value.int .i64)) rfl (by simp) (unhide HC) (ints_oneCell _ _) (by simp [maxLen]; omega) (by simp; omega) (by simp) ?_; intro v' w3 hown' hgrow _) | fail)
    have hcp := own_copy (unhide HF) hown' hgrow
    clear hown' hgrow
    obtain ⟨ao1, cap1, rfl, hcap1, -, -⟩ := hcp.1.row
    have hres := hcp
    have HO := hide hres.1
    have HB := hide hres.2
    have HR2 := hide ((unhide HR).bel hres.2)
    clear hres hcp
    rcases hk : Tm.monOk p with _ | _
    · have hE := Tm.turnOk_no (p := p) (u := u) (n := n) (by simp [hk])
      have HT := hide (Tm.monTurn_no hE)
      have HEE := hide hE
      clear hE
      go_wp2_with (first | (go_at_call 84; refine (c84 p _ _ _ _ rfl (by omega) (unhide HR2)).mono ?_; rintro e w' ⟨rfl, rfl⟩) | (go_at_call 109; refine (c109 _ _ _ _).mono ?_; rintro e w' ⟨rfl, rfl⟩))
      go_ret2
      exact ⟨_, ret_lb (unhide HEE).symm, by rw [unhide HT]; exact unhide HO, unhide HB⟩
    by_cases hu : 1 ≤ u ∧ u ≤ 5
    case neg =>
      have hE := Tm.turnOk_no (p := p) (u := u) (n := n) (fun e => hu e.2.1)
      have HT := hide (Tm.monTurn_no hE)
      have hd : decide (1 ≤ u ∧ u ≤ 5) = false := by simpa using hu
      have HEE := hide hE
      clear hE hu
      go_wp2_with (first | (go_at_call 84; refine (c84 p _ _ _ _ rfl (by omega) (unhide HR2)).mono ?_; rintro e w' ⟨rfl, rfl⟩) | (go_at_call 109; refine (c109 _ _ _ _).mono ?_; rintro e w' ⟨rfl, rfl⟩))
      go_ret2
      exact ⟨_, ret_lb (unhide HEE).symm, by rw [unhide HT]; exact unhide HO, unhide HB⟩
    have hd : decide (1 ≤ u ∧ u ≤ 5) = true := by simpa using hu
    by_cases hw : -100000 ≤ n ∧ n ≤ 100000
    case neg =>
      have hE := Tm.turnOk_no (p := p) (u := u) (n := n) (fun e => hw e.2.2.1)
      have HT := hide (Tm.monTurn_no hE)
      have hd2 : decide (-100000 ≤ n ∧ n ≤ 100000) = false := by simpa using hw
      have HEE := hide hE
      clear hE hw hu
      go_wp2_with (first | (go_at_call 84; refine (c84 p _ _ _ _ rfl (by omega) (unhide HR2)).mono ?_; rintro e w' ⟨rfl, rfl⟩) | (go_at_call 109; refine (c109 _ _ _ _).mono ?_; rintro e w' ⟨rfl, rfl⟩))
      go_ret2
      exact ⟨_, ret_lb (unhide HEE).symm, by rw [unhide HT]; exact unhide HO, unhide HB⟩
    have hd2 : decide (-100000 ≤ n ∧ n ≤ 100000) = true := by simpa using hw
    have hl := (Tm.monOk_iff.1 hk).1
    obtain ⟨g, rfl⟩ := own_ne (unhide HO) (by intro e; subst e; simp at hl)
    obtain ⟨b0, off0, hbo, hc0⟩ := (unhide HR2).2 (by intro e; subst e; simp at hl)
    obtain ⟨j, rfl⟩ : ∃ j : Nat, u = (j : Int) + 1 := ⟨(u - 1).toNat, by omega⟩
    have hj : j < p.length := by omega
    have hcell0 := hc0 j hj
    cases hbo
    obtain ⟨hcell, hfr⟩ := own_cell (unhide HO) rfl hj
    have hx := Tm.monOk_get hk (j := j) (by omega)
    have hh := Tm.has_nat p j
    have hgb : w.heap.size ≤ g := ((unhide HO).2.lt g rfl).1
    obtain ⟨w1, w2⟩ := hw
    clear hc0
    by_cases hs : 0 ≤ p.getD j 0 + n ∧ p.getD j 0 + n ≤ 100000
    · have hE := Tm.turnOk_iff.2 ⟨hk, hu, ⟨w1, w2⟩, by rw [hh]; exact hs⟩
      have hst := own_set (j := j) (x := p.getD j 0 + n) (unhide HO) rfl (by omega)
      have HT : Hid (Tm.monTurn p ((j : Int) + 1) n = p.set j (p.getD j 0 + n)) := by
        unfold Hid; rw [Tm.monTurn_of hE]; unfold Tm.turnSet; rw [hh, show ((j : Int) + 1 - 1).toNat = j by omega]
      have HS := hide hst
      have hd3 : decide (0 ≤ p.getD j 0 + n ∧ p.getD j 0 + n ≤ 100000) = true := by simpa using hs
      have HEE := hide hE
      clear hE hu hst hh hl
      generalize p.getD j 0 = x at *
      obtain ⟨s1, s2⟩ := hs
      obtain ⟨x1, x2⟩ := hx
      go_wp2_with (first | (go_at_call 84; refine (c84 p _ _ _ _ rfl (by omega) (unhide HR2)).mono ?_; rintro e w' ⟨rfl, rfl⟩) | (go_at_call 109; refine (c109 _ _ _ _).mono ?_; rintro e w' ⟨rfl, rfl⟩))
      go_ret2
      exact ⟨_, ret_lb (unhide HEE).symm, by rw [unhide HT]; exact (unhide HS).1, grown_below (unhide HB) (unhide HS).2 (fun k hk => by cases hk; exact hgb)⟩
    · have hE := Tm.turnOk_no (p := p) (u := (j : Int) + 1) (n := n) (fun e => hs (by rw [hh] at e; exact e.2.2.2))
      have HT := hide (Tm.monTurn_no hE)
      have hd3 : decide (0 ≤ p.getD j 0 + n ∧ p.getD j 0 + n ≤ 100000) = false := by simpa using hs
      have HEE := hide hE
      clear hE hs hu hh hl
      generalize p.getD j 0 = x at *
      obtain ⟨x1, x2⟩ := hx
      go_wp2_with (first | (go_at_call 84; refine (c84 p _ _ _ _ rfl (by omega) (unhide HR2)).mono ?_; rintro e w' ⟨rfl, rfl⟩) | (go_at_call 109; refine (c109 _ _ _ _).mono ?_; rintro e w' ⟨rfl, rfl⟩))
      go_ret2
      exact ⟨_, ret_lb (unhide HEE).symm, by rw [unhide HT]; exact unhide HO, unhide HB⟩
end Go.Proofs.Ytjdnengmllamcaa
