/-
  Texts of the proof, what it needs of them: Growe.
-/
import Derived.Test.YtmlbphmbffkdnaaGs22
import Derived.Test.YtmlbphmbffkdnaaGs25
import Derived.Test.YtmlbphmbffkdnaaGs27
namespace Go.Proofs.Ytmlbphmbffkdnaa
open Go.RowKit
set_option linter.unusedVariables false

set_option maxHeartbeats 2000000 in
theorem c196 (ps : List Int) (m old n root : Int) (ao : Option Addr) (l cap : Nat) (w : World) (hl : ps.length = l) (hcap : l ≤ cap) (hb : l ≤ 1048576) (hr : Row w ao ps) :
    Calls Try.prog 196 #[.int .i64 m, .int .i64 old, .int .i64 n, .int .i64 root, .slice ao l cap] w fun e w' => e = .returned (.bool (Tm.conCheck m old n root ps)) ∧ Below w.heap.size w w' := by
  have HR := hide hr
  have HN := hide hl
  clear hr hl
  by_cases h1 : n < 1
  · have HU := hide (conCheck_no (m := m) (old := old) (n := n) (root := root) (ps := ps) (by omega))
    go_enter Try.func196, Try.ntmps196
    go_wp2_with (first | (go_at_call 113; refine (c113 _ _).mono ?_; rintro e w' ⟨rfl, rfl⟩) | (go_at_call 227; refine (c227 ps _ _ _ _ (unhide HN) (by omega) (unhide HR)).mono ?_; rintro e w' ⟨rfl, rfl⟩))
    go_ret
    exact ⟨ret_bool (unhide HU).symm, Below.refl _ _⟩
  have d1 : decide (n < 1) = false := by simpa using h1
  by_cases h2 : 40 < n
  · have HU := hide (conCheck_no (m := m) (old := old) (n := n) (root := root) (ps := ps) (by omega))
    go_enter Try.func196, Try.ntmps196
    go_wp2_with (first | (go_at_call 113; refine (c113 _ _).mono ?_; rintro e w' ⟨rfl, rfl⟩) | (go_at_call 227; refine (c227 ps _ _ _ _ (unhide HN) (by omega) (unhide HR)).mono ?_; rintro e w' ⟨rfl, rfl⟩))
    go_ret
    exact ⟨ret_bool (unhide HU).symm, Below.refl _ _⟩
  have d2 : decide (40 < n) = false := by simpa using h2
  by_cases h3 : m < 1
  · have HU := hide (conCheck_no (m := m) (old := old) (n := n) (root := root) (ps := ps) (by omega))
    go_enter Try.func196, Try.ntmps196
    go_wp2_with (first | (go_at_call 113; refine (c113 _ _).mono ?_; rintro e w' ⟨rfl, rfl⟩) | (go_at_call 227; refine (c227 ps _ _ _ _ (unhide HN) (by omega) (unhide HR)).mono ?_; rintro e w' ⟨rfl, rfl⟩))
    go_ret
    exact ⟨ret_bool (unhide HU).symm, Below.refl _ _⟩
  have d3 : decide (m < 1) = false := by simpa using h3
  by_cases h4 : n < m
  · have HU := hide (conCheck_no (m := m) (old := old) (n := n) (root := root) (ps := ps) (by omega))
    go_enter Try.func196, Try.ntmps196
    go_wp2_with (first | (go_at_call 113; refine (c113 _ _).mono ?_; rintro e w' ⟨rfl, rfl⟩) | (go_at_call 227; refine (c227 ps _ _ _ _ (unhide HN) (by omega) (unhide HR)).mono ?_; rintro e w' ⟨rfl, rfl⟩))
    go_ret
    exact ⟨ret_bool (unhide HU).symm, Below.refl _ _⟩
  have d4 : decide (n < m) = false := by simpa using h4
  rcases h5 : Tm.okB old with _ | _
  · have HU := hide (conCheck_no (m := m) (old := old) (n := n) (root := root) (ps := ps) (by rw [h5]; simp))
    go_enter Try.func196, Try.ntmps196
    go_wp2_with (first | (go_at_call 113; refine (c113 _ _).mono ?_; rintro e w' ⟨rfl, rfl⟩) | (go_at_call 227; refine (c227 ps _ _ _ _ (unhide HN) (by omega) (unhide HR)).mono ?_; rintro e w' ⟨rfl, rfl⟩))
    go_ret
    exact ⟨ret_bool (unhide HU).symm, Below.refl _ _⟩
  rcases h6 : Tm.okB root with _ | _
  · have HU := hide (conCheck_no (m := m) (old := old) (n := n) (root := root) (ps := ps) (by rw [h6]; simp))
    go_enter Try.func196, Try.ntmps196
    go_wp2_with (first | (go_at_call 113; refine (c113 _ _).mono ?_; rintro e w' ⟨rfl, rfl⟩) | (go_at_call 227; refine (c227 ps _ _ _ _ (unhide HN) (by omega) (unhide HR)).mono ?_; rintro e w' ⟨rfl, rfl⟩))
    go_ret
    exact ⟨ret_bool (unhide HU).symm, Below.refl _ _⟩
  rcases h7 : Tm.treOk ps with _ | _
  · have HU := hide (conCheck_no (m := m) (old := old) (n := n) (root := root) (ps := ps) (by rw [h7]; simp))
    go_enter Try.func196, Try.ntmps196
    go_wp2_with (first | (go_at_call 113; refine (c113 _ _).mono ?_; rintro e w' ⟨rfl, rfl⟩) | (go_at_call 227; refine (c227 ps _ _ _ _ (unhide HN) (by omega) (unhide HR)).mono ?_; rintro e w' ⟨rfl, rfl⟩))
    go_ret
    exact ⟨ret_bool (unhide HU).symm, Below.refl _ _⟩
  have HU := hide (conCheck_of (m := m) (old := old) (n := n) (root := root) (ps := ps) ⟨by omega, by omega, by omega, by omega, h5, h6, h7⟩)
  obtain ⟨t1, t2⟩ := treOk_len h7
  have HL := hide h5
  have HT := hide t2
  obtain ⟨mN, rfl⟩ := Int.eq_ofNat_of_zero_le (show 0 ≤ m by omega)
  obtain ⟨nN, rfl⟩ := Int.eq_ofNat_of_zero_le (show 0 ≤ n by omega)
  generalize hans : Tm.conCheck mN old nN root ps = ans at *
  go_enter Try.func196, Try.ntmps196
  go_wp2_with (first | (go_at_call 113; refine (c113 _ _).mono ?_; rintro e w' ⟨rfl, rfl⟩) | (go_at_call 227; refine (c227 ps _ _ _ _ (unhide HN) (by omega) (unhide HR)).mono ?_; rintro e w' ⟨rfl, rfl⟩))
  clear hans
  have hb0 : Below _ _ (w'.alloc (.cells #[.int .i64 old, .int .i64 old] 227)) := (below_alloc2 (Below.refl _ _))
  have bA : Box (w'.alloc (.cells #[.int .i64 old, .int .i64 old] 227)) (w'.heap.size) [.int .i64 old, .int .i64 old] := by
    have h := box_new w' [.int .i64 old, .int .i64 old] 227 (by simp [Value.oneCell'])
    exact h
  generalize (w'.alloc (.cells #[.int .i64 old, .int .i64 old] 227)) = W0 at *
  have HRw := hide ((unhide HR).below hb0 (Nat.le_refl _))
  refine (c228 ps.length ps mN nN old true _ _ _ _ rfl (unhide HN) hcap t1 (by omega) (by omega) (by omega) (unhide HL) (unhide HT) (unhide HRw)).mono ?_
  rintro e w1 ⟨x, y, rfl, hx, hb1⟩
  have HB1 := hide (below_then hb0 hb1)
  clear hb0 hb1 bA
  generalize hbo : (Tm.both (mN : Int) nN old ps true).isSome = bo at *
  rcases hu : Tm.both (mN : Int) nN old ps true with _ | u
  · rw [hu] at hbo
    simp only [Option.isSome_none] at hbo
    subst hbo
    have HV : Hid (ans = false) := by unfold Hid; rw [unhide HU, hu]; rfl
    clear hu hx
    go_wp2_with fail
    go_ret
    exact ⟨ret_bool (unhide HV).symm, below_alloc2 (unhide HB1)⟩
  · rw [hu] at hbo
    simp only [Option.isSome_some] at hbo
    subst hbo
    obtain ⟨e1, e2⟩ := hx u hu
    have hV : ans = decide (x = old ∧ y = root) := by
      rw [unhide HU, hu, e1, e2]
      obtain ⟨u1, u2⟩ := u
      rw [Bool.eq_iff_iff]
      simp
    clear hu hx e1 e2 u
    by_cases f1 : x = old
    · by_cases f2 : y = root
      · have g1 : (x == old) = true := by rw [beq_iff_eq]; exact f1
        have g2 : (y == root) = true := by rw [beq_iff_eq]; exact f2
        have HV : Hid (ans = true) := by unfold Hid; rw [hV, decide_eq_true ⟨f1, f2⟩]
        clear hV f1 f2
        go_wp2_with fail
        go_ret
        exact ⟨ret_bool (unhide HV).symm, below_alloc2 (unhide HB1)⟩
      · have g1 : (x == old) = true := by rw [beq_iff_eq]; exact f1
        have g2 : (y == root) = false := by rw [beq_eq_false_iff_ne]; exact f2
        have HV : Hid (ans = false) := by unfold Hid; rw [hV, decide_eq_false (fun h => f2 h.2)]
        clear hV f1 f2
        go_wp2_with fail
        go_ret
        exact ⟨ret_bool (unhide HV).symm, below_alloc2 (unhide HB1)⟩
    · have g1 : (x == old) = false := by rw [beq_eq_false_iff_ne]; exact f1
      have HV : Hid (ans = false) := by unfold Hid; rw [hV, decide_eq_false (fun h => f1 h.1)]
      clear hV f1
      go_wp2_with fail
      go_ret
      exact ⟨ret_bool (unhide HV).symm, below_alloc2 (unhide HB1)⟩
end Go.Proofs.Ytmlbphmbffkdnaa
