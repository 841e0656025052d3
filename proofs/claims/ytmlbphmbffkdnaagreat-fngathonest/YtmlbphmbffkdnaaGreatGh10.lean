/-
  Texts of the proof, what it needs of them: Owna.
-/
import Derived.Test.YtmlbphmbffkdnaaGreatGh07
import Derived.Test.YtmlbphmbffkdnaaGreatGh09
namespace Go.Proofs.YtmlbphmbffkdnaaGreat
open Go.RowKit
set_option linter.unusedVariables false
set_option maxRecDepth 100000

def usedI (b : Bool) : Int := if b then 1 else 0
/-- the leaf of how a ticket stands -/
def Tm.ownLeaf (t : Int) (r : Tm.Rw) : Int := if 0 ≤ t ∧ t ≤ 7 then Tm.leaf [1000 + t, r.1, r.2.1, usedI r.2.2] else 0
theorem ownLeaf_of {t a c : Int} {d : Bool} (h : 0 ≤ t ∧ t ≤ 7) : Tm.ownLeaf t (a, c, d) = Tm.leaf [1000 + t, a, c, usedI d] := by unfold Tm.ownLeaf; rw [if_pos h]
theorem ownLeaf_no {t : Int} {r : Tm.Rw} (h : ¬ (0 ≤ t ∧ t ≤ 7)) : Tm.ownLeaf t r = 0 := by unfold Tm.ownLeaf; rw [if_neg h]
theorem fit_own {t a c : Int} {d : Bool} (h : 0 ≤ t ∧ t ≤ 7) (hf : FitR (a, c, d)) : FitsE (1000 + t) a c (usedI d) := by
  refine ⟨by omega, hf.1, hf.2, ?_⟩
  cases d <;> simp [usedI]
theorem r_at {rs : List Tm.Rw} {k : Nat} (h : k < rs.length) : ∃ a c d, rs[k]? = some (a, c, d) := ⟨rs[k].1, rs[k].2.1, rs[k].2.2, List.getElem?_eq_getElem h⟩

set_option maxHeartbeats 800000 in
theorem c19 (t a c : Int) (d : Bool) (w : World) (hf : FitR (a, c, d)) : Calls Tryz.prog 19 #[.int .i64 t, rowV a c d] w fun e w' => e = .returned (.int .i64 (Tm.ownLeaf t (a, c, d))) ∧ Below w.heap.size w w' := by
  by_cases h0 : 0 ≤ t ∧ t ≤ 7
  · have HE := hide (ownLeaf_of (a := a) (c := c) (d := d) h0)
    have HF := hide (fit_own h0 hf)
    have d0 : decide (0 ≤ t ∧ t ≤ 7) = true := by simpa using h0
    obtain ⟨t0, t1⟩ := h0
    clear hf
    cases d
    all_goals
      go_enter Tryz.func19, Tryz.ntmps19
      go_wp2_with (go_at_call 47; refine (c47 _ _).mono ?_; rintro e w' ⟨rfl, rfl⟩)
      first
        | refine (c62 [1000 + t, a, c, 0] _ _ _ _ rfl (by simp) (by first | exact row_new4 _ _ _ _ _ (unhide HF) _ | (have := row_new4 (w.alloc (.cells #[.int .i64 a, .int .i64 c, .bool false] 29)) (1000 + t) a c 0 (unhide HF) 3; simpa using this))).mono ?_
        | refine (c62 [1000 + t, a, c, 1] _ _ _ _ rfl (by simp) (by first | exact row_new4 _ _ _ _ _ (unhide HF) _ | (have := row_new4 (w.alloc (.cells #[.int .i64 a, .int .i64 c, .bool true] 29)) (1000 + t) a c 1 (unhide HF) 3; simpa using this))).mono ?_
      rintro e w1 ⟨rfl, rfl⟩
      go_wp2_with fail
      go_ret
      exact ⟨ret_int (by rw [unhide HE]; rfl), below_al (below_a _)⟩
  · have HE := hide (ownLeaf_no (r := (a, c, d)) h0)
    have d0 : decide (0 ≤ t ∧ t ≤ 7) = false := by simpa using h0
    clear h0 hf
    go_enter Tryz.func19, Tryz.ntmps19
    go_wp2_with (go_at_call 47; refine (c47 _ _).mono ?_; rintro e w' ⟨rfl, rfl⟩)
    go_ret
    exact ⟨ret_int (unhide HE).symm, below_a _⟩

set_option maxHeartbeats 800000 in
theorem c80 (t a c : Int) (d : Bool) (w : World) (hf : FitR (a, c, d)) : Calls Tryz.prog 80 #[.int .i64 t, rowV a c d] w fun e w' => e = .returned (.int .i64 (Tm.ownLeaf t (a, c, d))) ∧ Below w.heap.size w w' := by
  by_cases h0 : 0 ≤ t ∧ t ≤ 7
  · have HE := hide (ownLeaf_of (a := a) (c := c) (d := d) h0)
    have HF := hide (fit_own h0 hf)
    have d0 : decide (0 ≤ t ∧ t ≤ 7) = true := by simpa using h0
    obtain ⟨t0, t1⟩ := h0
    clear hf
    cases d
    all_goals
      go_enter Tryz.func80, Tryz.ntmps80
      go_wp2_with (go_at_call 40; refine (c40 _ _ _ _).mono ?_; rintro e w' ⟨rfl, rfl⟩)
      first
        | refine (c107 [1000 + t, a, c, 0] _ _ _ _ rfl (by simp) (by first | exact row_new4 _ _ _ _ _ (unhide HF) _ | (have := row_new4 (w.alloc (.cells #[.int .i64 a, .int .i64 c, .bool false] 29)) (1000 + t) a c 0 (unhide HF) 3; simpa using this))).mono ?_
        | refine (c107 [1000 + t, a, c, 1] _ _ _ _ rfl (by simp) (by first | exact row_new4 _ _ _ _ _ (unhide HF) _ | (have := row_new4 (w.alloc (.cells #[.int .i64 a, .int .i64 c, .bool true] 29)) (1000 + t) a c 1 (unhide HF) 3; simpa using this))).mono ?_
      rintro e w1 ⟨rfl, rfl⟩
      go_wp2_with fail
      go_ret
      exact ⟨ret_int (by rw [unhide HE]; rfl), below_al (below_a _)⟩
  · have HE := hide (ownLeaf_no (r := (a, c, d)) h0)
    have d0 : decide (0 ≤ t ∧ t ≤ 7) = false := by simpa using h0
    clear h0 hf
    go_enter Tryz.func80, Tryz.ntmps80
    go_wp2_with (go_at_call 40; refine (c40 _ _ _ _).mono ?_; rintro e w' ⟨rfl, rfl⟩)
    go_ret
    exact ⟨ret_int (unhide HE).symm, below_a _⟩

end Go.Proofs.YtmlbphmbffkdnaaGreat
namespace Go.Proofs.YtmlbphmbffkdnaaGreat
open Go.RowKit
set_option linter.unusedVariables false
set_option maxRecDepth 100000

theorem rowOk_z : Tm.rowOk (0, 0, false) = true := by decide
theorem rowOk_0 {x1 : Int} {x2 : Bool} (h : x1 ≠ 0 ∨ x2 = true) : Tm.rowOk (0, x1, x2) = false := by
  rw [← Bool.not_eq_true, Tm.rowOk_iff]
  intro e
  rcases e with e | e
  · simp only [Tm.noRow, Prod.mk.injEq] at e
    rcases h with h | h
    · exact h e.2.1
    · rw [h] at e; simp at e
  · dsimp only at e; omega
theorem rowOk_n {x0 x1 : Int} {x2 : Bool} (h : x0 ≠ 0) : Tm.rowOk (x0, x1, x2) = (decide (1 ≤ x0 ∧ x0 ≤ 5) && decide (1 ≤ x1 ∧ x1 ≤ 50)) := by
  rw [Bool.eq_iff_iff, Tm.rowOk_iff, Bool.and_eq_true, decide_eq_true_iff, decide_eq_true_iff]
  constructor
  · intro e
    rcases e with e | e
    · simp only [Tm.noRow, Prod.mk.injEq] at e; exact absurd e.1 h
    · dsimp only at e; exact ⟨⟨e.1, e.2.1⟩, e.2.2.1, e.2.2.2⟩
  · intro e; right; exact ⟨e.1.1, e.1.2, e.2.1, e.2.2⟩
theorem ownOk_len {rs : List Tm.Rw} (h : rs.length ≠ 8) : Tm.ownOk rs = false := by
  rw [← Bool.not_eq_true, Tm.ownOk_iff]; intro e; exact h e.1
theorem ownOk_at {rs : List Tm.Rw} {k : Nat} {r : Tm.Rw} (hk : rs[k]? = some r) (h : Tm.rowOk r = false) : Tm.ownOk rs = false := by
  rw [← Bool.not_eq_true, Tm.ownOk_iff]; intro e
  have := e.2 r (List.mem_of_getElem? hk)
  rw [h] at this; cases this
theorem ownOk_all {rs : List Tm.Rw} (hl : rs.length = 8) (h : ∀ j r, j < rs.length → rs[j]? = some r → Tm.rowOk r = true) : Tm.ownOk rs = true := by
  rw [Tm.ownOk_iff]
  refine ⟨hl, fun r hr => ?_⟩
  obtain ⟨j, hj, rfl⟩ := List.getElem_of_mem hr
  exact h j _ hj (List.getElem?_eq_getElem hj)

set_option maxHeartbeats 800000 in
theorem c112 (x0 x1 : Int) (x2 : Bool) (w : World) : Calls Tryz.prog 112 #[rowV x0 x1 x2] w fun e w' => e = .returned (.bool (Tm.rowOk (x0, x1, x2))) ∧ Below w.heap.size w w' := by
  by_cases h0 : x0 = 0
  · subst h0
    by_cases h1 : x1 = 0
    · subst h1
      cases x2
      · go_enter Tryz.func112, Tryz.ntmps112
        go_wp2_with (go_at_call 34; refine (c34 _ _).mono ?_; rintro e w' ⟨rfl, rfl⟩)
        go_ret
        exact ⟨ret_bool rowOk_z.symm, below_a _⟩
      · have HE := hide (rowOk_0 (x1 := 0) (x2 := true) (Or.inr rfl))
        go_enter Tryz.func112, Tryz.ntmps112
        go_wp2_with (go_at_call 34; refine (c34 _ _).mono ?_; rintro e w' ⟨rfl, rfl⟩)
        go_ret
        exact ⟨ret_bool (unhide HE).symm, below_a _⟩
    · have HE := hide (rowOk_0 (x2 := x2) (Or.inl h1))
      have b1 : (x1 == 0) = false := by simpa using h1
      clear h1
      go_enter Tryz.func112, Tryz.ntmps112
      go_wp2_with (go_at_call 34; refine (c34 _ _).mono ?_; rintro e w' ⟨rfl, rfl⟩)
      go_ret
      exact ⟨ret_bool (unhide HE).symm, below_a _⟩
  · have b0 : (x0 == 0) = false := by simpa using h0
    have HE := hide (rowOk_n (x1 := x1) (x2 := x2) h0)
    clear h0
    by_cases hu : 1 ≤ x0 ∧ x0 ≤ 5
    · have du : decide (1 ≤ x0 ∧ x0 ≤ 5) = true := by simpa using hu
      have HU := hide hu
      clear hu
      by_cases hf : 1 ≤ x1
      · go_enter Tryz.func112, Tryz.ntmps112
        go_wp2_with (go_at_call 34; refine (c34 _ _).mono ?_; rintro e w' ⟨rfl, rfl⟩)
        go_ret
        exact ⟨ret_bool (by rw [unhide HE, decide_eq_true (unhide HU)]; first | rfl | (simp; done) | (simp; omega) | (rw [Bool.eq_iff_iff]; simp; omega)), below_a _⟩
      · have df : decide (1 ≤ x1) = false := by simpa using hf
        go_enter Tryz.func112, Tryz.ntmps112
        go_wp2_with (go_at_call 34; refine (c34 _ _).mono ?_; rintro e w' ⟨rfl, rfl⟩)
        go_ret
        exact ⟨ret_bool (by rw [unhide HE]; first | rfl | (simp; done) | (simp; omega) | (rw [Bool.eq_iff_iff]; simp; omega)), below_a _⟩
    · have du : decide (1 ≤ x0 ∧ x0 ≤ 5) = false := by simpa using hu
      have HU := hide (decide_eq_false hu)
      clear hu
      go_enter Tryz.func112, Tryz.ntmps112
      go_wp2_with (go_at_call 34; refine (c34 _ _).mono ?_; rintro e w' ⟨rfl, rfl⟩)
      go_ret
      exact ⟨ret_bool (by rw [unhide HE, unhide HU]; rfl), below_a _⟩

set_option maxHeartbeats 1000000 in
theorem c91 (rs : List Tm.Rw) (ao : Option Addr) (n cap : Nat) (w : World) (hn : rs.length = n) (hm : n ≤ 9223372036854775807) (hr : RRow w ao rs) :
    Calls Tryz.prog 91 #[.slice ao n cap] w fun e w' => e = .returned (.bool (Tm.ownOk rs)) ∧ Below w.heap.size w w' := by
  subst hn
  obtain ⟨hfit, hr⟩ := hr
  have HR := hide hr
  clear hr hfit
  by_cases hl : rs.length = 8
  case neg =>
    have HE := hide (ownOk_len hl)
    have b8 : ((rs.length : Int) != 8) = true := by rw [bne_iff_ne]; omega
    clear hl
    go_enter Tryz.func91, Tryz.ntmps91
    go_wp2_with fail
    go_ret
    exact ⟨ret_bool (unhide HE).symm, Below.refl _ _⟩
  have b8 : ((rs.length : Int) != 8) = false := by rw [bne_eq_false_iff_eq]; omega
  have HL := hide hl
  clear hl
  go_enter Tryz.func91, Tryz.ntmps91
  go_wp2_with fail
  go_loopw [10] (fun i wr => ∃ k : Nat, k ≤ rs.length ∧ i = .int .i64 k ∧ (∀ j r, j < k → rs[j]? = some r → Tm.rowOk r = true) ∧ Below w.heap.size w wr) (fun i _ => rs.length - (intOf i).toNat)
  case atStart => exact ⟨0, Nat.zero_le _, rfl, fun j r hj => absurd hj (Nat.not_lt_zero _), Below.refl _ _⟩
  case round =>
    obtain ⟨k, hk, rfl, hall, hbel⟩ := hrel
    by_cases hlt : k < rs.length
    · obtain ⟨b, off, rfl, hc⟩ := unhide HR (by intro e; subst e; simp at hlt)
      obtain ⟨x0, x1, x2, hx⟩ := r_at hlt
      obtain ⟨g0, g1, g2⟩ := r_cells hbel hc hx
      have HBE := hide hbel
      have HX := hide hx
      have HAL := hide hall
      clear hbel hc hx hall
      go_wp2_with fail
      refine (c112 x0 x1 x2 _).mono ?_
      rintro e w2 ⟨rfl, hb2⟩
      have HB2 := hide (below_tr (below_al (unhide HBE)) hb2)
      clear hb2
      rcases ho : Tm.rowOk (x0, x1, x2) with _ | _
      · have HE := hide (ownOk_at (unhide HX) ho)
        clear ho
        go_wp2_with fail
        go_ret
        exact ⟨ret_bool (unhide HE).symm, unhide HB2⟩
      · have HA : Hid (∀ j r, j < k + 1 → rs[j]? = some r → Tm.rowOk r = true) := by
          intro j r hj hjr
          by_cases e : j = k
          · subst e; rw [unhide HX] at hjr; cases hjr; exact ho
          · exact unhide HAL j r (by omega) hjr
        clear ho
        go_wp2_with fail
        go_roundw
        case rel => exact ⟨k + 1, by omega, by go_num, HA.out, unhide HB2⟩
        case measure => simp [intOf]; omega
    · have hke : k = rs.length := by omega
      subst hke
      have HE := hide (ownOk_all HL.out hall)
      have HBE := hide hbel
      clear hall hbel
      go_wp2_with fail
      go_ret
      exact ⟨ret_bool (unhide HE).symm, unhide HBE⟩

set_option maxHeartbeats 2000000 in
theorem c73 (rs : List Tm.Rw) (ao : Option Addr) (n cap : Nat) (w : World) (hn : rs.length = n) (hm : n ≤ 9223372036854775807) (hr : RRow w ao rs) :
    Calls Tryz.prog 73 #[.slice ao n cap] w fun e w' => e = .returned (.bool (Tm.ownOk rs)) ∧ Below w.heap.size w w' := by
  subst hn
  obtain ⟨hfit, hr⟩ := hr
  have HR := hide hr
  clear hr hfit
  by_cases hl : rs.length = 8
  case neg =>
    have HE := hide (ownOk_len hl)
    have b8 : ((rs.length : Int) != 8) = true := by rw [bne_iff_ne]; omega
    clear hl
    go_enter Tryz.func73, Tryz.ntmps73
    go_wp2_with fail
    go_ret
    exact ⟨ret_bool (unhide HE).symm, Below.refl _ _⟩
  have b8 : ((rs.length : Int) != 8) = false := by rw [bne_eq_false_iff_eq]; omega
  have HL := hide hl
  clear hl
  go_enter Tryz.func73, Tryz.ntmps73
  go_wp2_with fail
  go_loopw [3] (fun i wr => ∃ k : Nat, k ≤ rs.length ∧ i = .int .i64 k ∧ (∀ j r, j < k → rs[j]? = some r → Tm.rowOk r = true) ∧ Below w.heap.size w wr) (fun i _ => rs.length - (intOf i).toNat)
  case atStart => exact ⟨0, Nat.zero_le _, rfl, fun j r hj => absurd hj (Nat.not_lt_zero _), Below.refl _ _⟩
  case round =>
    obtain ⟨k, hk, rfl, hall, hbel⟩ := hrel
    by_cases hlt : k < rs.length
    · obtain ⟨b, off, rfl, hc⟩ := unhide HR (by intro e; subst e; simp at hlt)
      obtain ⟨x0, x1, x2, hx⟩ := r_at hlt
      obtain ⟨g0, g1, g2⟩ := r_cells hbel hc hx
      have HBE := hide hbel
      have HX := hide hx
      have HAf : Tm.rowOk (x0, x1, x2) = true → ∀ j r, j < k + 1 → rs[j]? = some r → Tm.rowOk r = true := by
        intro ho j r hj hjr
        by_cases e : j = k
        · subst e; rw [hx] at hjr; cases hjr; exact ho
        · exact hall j r (by omega) hjr
      clear hbel hc hx hall
      by_cases h0 : x0 = 0
      · subst h0
        by_cases h1 : x1 = 0
        · subst h1
          cases x2
          · have ho := rowOk_z
            have HA := hide (HAf ho)
            clear ho HAf
            go_wp2_with (go_at_call 40; refine (c40 _ _ _ _).mono ?_; rintro e w' ⟨rfl, rfl⟩)
            go_roundw
            case rel => exact ⟨k + 1, by omega, by go_num, HA.out, below_al (unhide HBE)⟩
            case measure => simp [intOf]; omega
          · have HE := hide (ownOk_at (unhide HX) (rowOk_0 (x1 := 0) (x2 := true) (Or.inr rfl)))
            clear HAf
            go_wp2_with (go_at_call 40; refine (c40 _ _ _ _).mono ?_; rintro e w' ⟨rfl, rfl⟩)
            go_ret
            exact ⟨ret_bool (unhide HE).symm, below_al (unhide HBE)⟩
        · have HE := hide (ownOk_at (unhide HX) (rowOk_0 (x2 := x2) (Or.inl h1)))
          have b1 : (x1 == 0) = false := by simpa using h1
          clear HAf h1
          go_wp2_with (go_at_call 40; refine (c40 _ _ _ _).mono ?_; rintro e w' ⟨rfl, rfl⟩)
          go_ret
          exact ⟨ret_bool (unhide HE).symm, below_al (unhide HBE)⟩
      · have b0 : (x0 == 0) = false := by simpa using h0
        have b0' : (x0 != 0) = true := by rw [bne_iff_ne]; exact h0
        have hro := rowOk_n (x1 := x1) (x2 := x2) h0
        clear h0
        by_cases hu : 1 ≤ x0 ∧ x0 ≤ 5
        · have du : decide (1 ≤ x0 ∧ x0 ≤ 5) = true := by simpa using hu
          rw [decide_eq_true hu] at hro
          clear hu
          by_cases hf : 1 ≤ x1 ∧ x1 ≤ 50
          · have df : decide (1 ≤ x1 ∧ x1 ≤ 50) = true := by simpa using hf
            rw [decide_eq_true hf] at hro
            have HA := hide (HAf hro)
            clear HAf hro hf
            go_wp2_with (go_at_call 40; refine (c40 _ _ _ _).mono ?_; rintro e w' ⟨rfl, rfl⟩)
            go_roundw
            case rel => exact ⟨k + 1, by omega, by go_num, HA.out, below_al (unhide HBE)⟩
            case measure => simp [intOf]; omega
          · have df : decide (1 ≤ x1 ∧ x1 ≤ 50) = false := by simpa using hf
            rw [decide_eq_false hf] at hro
            have HE := hide (ownOk_at (unhide HX) hro)
            clear HAf hro hf
            go_wp2_with (go_at_call 40; refine (c40 _ _ _ _).mono ?_; rintro e w' ⟨rfl, rfl⟩)
            go_ret
            exact ⟨ret_bool (unhide HE).symm, below_al (unhide HBE)⟩
        · have du : decide (1 ≤ x0 ∧ x0 ≤ 5) = false := by simpa using hu
          rw [decide_eq_false hu] at hro
          have HE := hide (ownOk_at (unhide HX) hro)
          clear HAf hro hu
          go_wp2_with (go_at_call 40; refine (c40 _ _ _ _).mono ?_; rintro e w' ⟨rfl, rfl⟩)
          go_ret
          exact ⟨ret_bool (unhide HE).symm, below_al (unhide HBE)⟩
    · have hke : k = rs.length := by omega
      subst hke
      have HE := hide (ownOk_all HL.out hall)
      have HBE := hide hbel
      clear hall hbel
      go_wp2_with fail
      go_ret
      exact ⟨ret_bool (unhide HE).symm, unhide HBE⟩
end Go.Proofs.YtmlbphmbffkdnaaGreat
namespace Go.Proofs.YtmlbphmbffkdnaaGreat
open Go.RowKit
set_option linter.unusedVariables false
set_option maxRecDepth 100000

set_option maxHeartbeats 400000 in
theorem c109 (a c : Int) (d : Bool) (k t u p : Int) (w : World) : Calls Tryz.prog 109 #[rowV a c d, entV k t u p] w fun e w' => e = .returned (.bool (decide (a = 0))) ∧ Below w.heap.size w w' := by
  go_enter Tryz.func109, Tryz.ntmps109
  go_wp2_with fail
  go_ret
  exact ⟨ret_bool (by first | rfl | (simp; done) | (rw [Bool.eq_iff_iff]; simp; done)), below_al (below_a _)⟩

set_option maxHeartbeats 400000 in
theorem c111 (a c : Int) (d : Bool) (k t u p : Int) (w : World) : Calls Tryz.prog 111 #[rowV a c d, entV k t u p] w fun e w' => e = .returned (.bool (decide (a = u) && !d)) ∧ Below w.heap.size w w' := by
  by_cases h : a = u
  · subst h
    go_enter Tryz.func111, Tryz.ntmps111
    go_wp2_with fail
    go_ret
    exact ⟨ret_bool (by first | rfl | (simp; done)), below_al (below_a _)⟩
  · have b : (a == u) = false := by simpa using h
    have HE := hide (decide_eq_false h)
    clear h
    go_enter Tryz.func111, Tryz.ntmps111
    go_wp2_with fail
    go_ret
    exact ⟨ret_bool (by rw [unhide HE]; rfl), below_al (below_a _)⟩

/-- whether an entry that passes a ticket on may follow -/
def passOk (a c : Int) (d : Bool) (u p : Int) : Bool := decide (a ≠ 0 ∧ a ≠ u ∧ d = false ∧ p ≤ Tm.cap c)
theorem below_a2n {w : World} (o o2 : Obj) (n : Nat) : Below w.heap.size w (((w.alloc o).alloc o2).drewN n) := below_dn (below_al (below_a _)) n

set_option maxHeartbeats 2000000 in
theorem c110 (a c : Int) (d : Bool) (k t u p : Int) (w : World) : Calls Tryz.prog 110 #[rowV a c d, entV k t u p] w fun e w' => e = .returned (.bool (passOk a c d u p)) ∧ Below w.heap.size w w' := by
  by_cases h0 : a = 0
  · subst h0
    have HE : Hid (passOk 0 c d u p = false) := by unfold Hid passOk; rw [decide_eq_false_iff_not]; simp
    go_enter Tryz.func110, Tryz.ntmps110
    go_wp2_with fail
    go_quiet (fail)
    go_wp2_with fail
    go_ret
    exact ⟨ret_bool (unhide HE).symm, below_a2n _ _ _⟩
  have b0 : (a != 0) = true := by rw [bne_iff_ne]; exact h0
  by_cases h1 : a = u
  · have HE : Hid (passOk a c d u p = false) := by unfold Hid passOk; rw [decide_eq_false_iff_not]; intro e; exact e.2.1 h1
    have b1 : (a != u) = false := by rw [bne_eq_false_iff_eq]; exact h1
    clear h0 h1
    go_enter Tryz.func110, Tryz.ntmps110
    go_wp2_with fail
    go_quiet (fail)
    go_wp2_with fail
    go_ret
    exact ⟨ret_bool (unhide HE).symm, below_a2n _ _ _⟩
  have b1 : (a != u) = true := by rw [bne_iff_ne]; exact h1
  cases d
  · have HE : Hid (passOk a c false u p = decide (p ≤ Tm.cap c)) := by unfold Hid passOk; rw [Bool.eq_iff_iff, decide_eq_true_iff, decide_eq_true_iff]; exact ⟨fun e => e.2.2.2, fun e => ⟨h0, h1, rfl, e⟩⟩
    clear h0 h1
    go_enter Tryz.func110, Tryz.ntmps110
    go_wp2_with fail
    go_quiet ((go_at_call 122; exact Calls.quiet_of_same (c122 _ _)))
    go_wp2_with fail
    go_ret
    exact ⟨ret_bool (unhide HE).symm, below_a2n _ _ _⟩
  · have HE : Hid (passOk a c true u p = false) := by unfold Hid passOk; rw [decide_eq_false_iff_not]; intro e; exact absurd e.2.2.1 (by simp)
    clear h0 h1
    go_enter Tryz.func110, Tryz.ntmps110
    go_wp2_with fail
    go_quiet (fail)
    go_wp2_with fail
    go_ret
    exact ⟨ret_bool (unhide HE).symm, below_a2n _ _ _⟩
end Go.Proofs.YtmlbphmbffkdnaaGreat
