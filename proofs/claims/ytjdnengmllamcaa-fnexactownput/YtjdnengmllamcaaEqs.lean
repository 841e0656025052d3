/-
  The walks of the laws' own helpers over lists: whether two are the same.
-/
import Derived.Test.YtjdnengmllamcaaOwny
namespace Go.Proofs.Ytjdnengmllamcaa
open Go.RowKit

set_option maxHeartbeats 1000000 in
theorem c32 (xs ys : List Int) (ao bo : Option Addr) (n cap m cap' : Nat) (w : World) (hn : xs.length = n) (hm : ys.length = m) (h1 : n ≤ 140737488355328) (h2 : m ≤ 140737488355328) (hr : Row w ao xs) (hs : Row w bo ys) :
    Calls Try.prog 32 #[.slice ao n cap, .slice bo m cap'] w fun e w' => e = .returned (.bool (decide (xs = ys))) ∧ ∃ q, w' = w.drewN q := by
  subst hn
  subst hm
  obtain ⟨-, hr⟩ := hr
  obtain ⟨-, hs⟩ := hs
  by_cases hl : xs.length = ys.length
  · have hL : ((xs.length : Int) == (ys.length : Int)) = true := by simp [hl]
    have hL' : ((xs.length : Int) != (ys.length : Int)) = false := by simp [hl]
    have HL := hide hl
    clear hl
    go_enter Try.func32, Try.ntmps32
    go_wp2_with fail
    go_loopw [5] (fun i wr => ∃ k : Nat, k ≤ xs.length ∧ i = .int .i64 k ∧ (∀ j, j < k → xs.getD j 0 = ys.getD j 0) ∧ ∃ q, wr = w.drewN q) (fun i _ => xs.length - (intOf i).toNat)
    case atStart => exact ⟨0, Nat.zero_le _, rfl, fun j hj => absurd hj (Nat.not_lt_zero _), 0, rfl⟩
    case round =>
      obtain ⟨k, hk, rfl, hall, q, rfl⟩ := hrel
      by_cases hlt : k < xs.length
      · obtain ⟨b, off, rfl, hc⟩ := hr (by intro e; subst e; simp at hlt)
        obtain ⟨b', off', rfl, hc'⟩ := hs (by intro e; subst e; have := HL.out; simp at this; subst this; simp at hlt)
        have hcx := hc k hlt
        have hcy := hc' k (by have := HL.out; omega)
        have e1 : (k : Int) < (xs.length : Int) := by omega
        have e2 : (k : Int) < (ys.length : Int) := by have := HL.out; omega
        by_cases hx : xs.getD k 0 = ys.getD k 0
        · have hX : (xs.getD k 0 != ys.getD k 0) = false := by rw [bne_eq_false_iff_eq]; exact hx
          have HA : Hid (∀ j, j < k + 1 → xs.getD j 0 = ys.getD j 0) := by
            intro j hj
            by_cases e : j = k
            · subst e; exact hx
            · exact hall j (by omega)
          clear hc hc' hall hr hs hx
          generalize xs.getD k 0 = x at *
          generalize ys.getD k 0 = y at *
          go_wp2_with fail
          go_quiet (fail)
          go_wp2_with fail
          go_roundw
          case rel => exact ⟨k + 1, by omega, by go_num, HA.out, _, rfl⟩
          case measure => simp [intOf]; omega
        · have hX : (xs.getD k 0 != ys.getD k 0) = true := by rw [bne_iff_ne]; exact hx
          have HA := hide (Tm.ne_of_at hx)
          clear hc hc' hall hr hs hx
          generalize xs.getD k 0 = x at *
          generalize ys.getD k 0 = y at *
          go_wp2_with fail
          go_quiet (fail)
          go_wp2_with fail
          go_ret
          exact ⟨ret_bool (unhide HA).symm, _, by rw [World.drewN_drewN]⟩
      · have hke : k = xs.length := by omega
        subst hke
        have HA := hide (Tm.eq_of_at HL.out hall)
        clear hall hr hs
        go_wp2_with fail
        go_ret
        exact ⟨ret_bool (unhide HA).symm, q, rfl⟩
  · have hL' : ((xs.length : Int) != (ys.length : Int)) = true := by rw [bne_iff_ne]; omega
    have HA := hide (Tm.ne_of_len hl)
    clear hr hs hl
    go_enter Try.func32, Try.ntmps32
    go_wp2_with fail
    go_ret
    exact ⟨ret_bool (unhide HA).symm, 0, rfl⟩

set_option maxHeartbeats 1000000 in
theorem c100 (xs ys : List Int) (ao bo : Option Addr) (n cap m cap' : Nat) (w : World) (hn : xs.length = n) (hm : ys.length = m) (h1 : n ≤ 140737488355328) (h2 : m ≤ 140737488355328) (hr : Row w ao xs) (hs : Row w bo ys) :
    Calls Try.prog 100 #[.slice ao n cap, .slice bo m cap'] w fun e w' => e = .returned (.bool (decide (xs = ys))) ∧ ∃ q, w' = w.drewN q := by
  subst hn
  subst hm
  obtain ⟨-, hr⟩ := hr
  obtain ⟨-, hs⟩ := hs
  by_cases hl : xs.length = ys.length
  · have hL : ((xs.length : Int) == (ys.length : Int)) = true := by simp [hl]
    have hL' : ((xs.length : Int) != (ys.length : Int)) = false := by simp [hl]
    have HL := hide hl
    clear hl
    go_enter Try.func100, Try.ntmps100
    go_wp2_with fail
    go_loopw [5] (fun i wr => ∃ k : Nat, k ≤ xs.length ∧ i = .int .i64 k ∧ (∀ j, j < k → xs.getD j 0 = ys.getD j 0) ∧ ∃ q, wr = w.drewN q) (fun i _ => xs.length - (intOf i).toNat)
    case atStart => exact ⟨0, Nat.zero_le _, rfl, fun j hj => absurd hj (Nat.not_lt_zero _), 0, rfl⟩
    case round =>
      obtain ⟨k, hk, rfl, hall, q, rfl⟩ := hrel
      by_cases hlt : k < xs.length
      · obtain ⟨b, off, rfl, hc⟩ := hr (by intro e; subst e; simp at hlt)
        obtain ⟨b', off', rfl, hc'⟩ := hs (by intro e; subst e; have := HL.out; simp at this; subst this; simp at hlt)
        have hcx := hc k hlt
        have hcy := hc' k (by have := HL.out; omega)
        have e1 : (k : Int) < (xs.length : Int) := by omega
        have e2 : (k : Int) < (ys.length : Int) := by have := HL.out; omega
        by_cases hx : xs.getD k 0 = ys.getD k 0
        · have hX : (xs.getD k 0 != ys.getD k 0) = false := by rw [bne_eq_false_iff_eq]; exact hx
          have HA : Hid (∀ j, j < k + 1 → xs.getD j 0 = ys.getD j 0) := by
            intro j hj
            by_cases e : j = k
            · subst e; exact hx
            · exact hall j (by omega)
          clear hc hc' hall hr hs hx
          generalize xs.getD k 0 = x at *
          generalize ys.getD k 0 = y at *
          go_wp2_with fail
          go_quiet (fail)
          go_wp2_with fail
          go_roundw
          case rel => exact ⟨k + 1, by omega, by go_num, HA.out, _, rfl⟩
          case measure => simp [intOf]; omega
        · have hX : (xs.getD k 0 != ys.getD k 0) = true := by rw [bne_iff_ne]; exact hx
          have HA := hide (Tm.ne_of_at hx)
          clear hc hc' hall hr hs hx
          generalize xs.getD k 0 = x at *
          generalize ys.getD k 0 = y at *
          go_wp2_with fail
          go_quiet (fail)
          go_wp2_with fail
          go_ret
          exact ⟨ret_bool (unhide HA).symm, _, by rw [World.drewN_drewN]⟩
      · have hke : k = xs.length := by omega
        subst hke
        have HA := hide (Tm.eq_of_at HL.out hall)
        clear hall hr hs
        go_wp2_with fail
        go_ret
        exact ⟨ret_bool (unhide HA).symm, q, rfl⟩
  · have hL' : ((xs.length : Int) != (ys.length : Int)) = true := by rw [bne_iff_ne]; omega
    have HA := hide (Tm.ne_of_len hl)
    clear hr hs hl
    go_enter Try.func100, Try.ntmps100
    go_wp2_with fail
    go_ret
    exact ⟨ret_bool (unhide HA).symm, 0, rfl⟩

end Go.Proofs.Ytjdnengmllamcaa
