/-
  The walks of what a proof leads to, in the model: l2Up, TreUp, TreCheck.
-/
import Derived.Test.YtjdnengmllamcaaLawsD
import Derived.Test.YtjdnengmllamcaaMathb
namespace Go.Proofs.Ytjdnengmllamcaa
open Go.RowKit

/-- the model's answer: the number is told only where there is one -/
def UpSpec (n i leaf : Int) (ps : List Int) (w : World) (e : Ending) (w' : World) : Prop :=
  ∃ x : Int, e = .returned (.tuple #[.int .i64 x, .bool (Tm.up n i leaf ps).isSome]) ∧ (∀ y, Tm.up n i leaf ps = some y → x = y) ∧ w' = w

set_option maxHeartbeats 1000000 in
theorem c174 (k : Nat) : ∀ (ps : List Int) (n i leaf : Int) (ao : Option Addr) (m cap : Nat) (w : World), ps.length = k → ps.length = m → m ≤ cap → k ≤ 1048576 → 1 ≤ n → n ≤ 40 → 0 ≤ i → i < n → Row w ao ps →
    Calls Try.prog 174 #[.int .i64 n, .int .i64 i, .int .i64 leaf, .slice ao m cap] w (UpSpec n i leaf ps w) := by
  induction k with
  | zero =>
    intro ps n i leaf ao m cap w hk hm hcap hk2 n1 n2 i1 i2 hr
    have hps : ps = [] := List.eq_nil_of_length_eq_zero hk
    subst hps
    have hm0 : m = 0 := by simpa using hm.symm
    subst hm0
    clear hr hk hm
    by_cases h2 : n < 2
    · have HU := hide (Tm.up_nil_one (i := i) (leaf := leaf) h2)
      go_enter Try.func174, Try.ntmps174
      go_wp2_with fail
      go_ret2
      refine ⟨leaf, ?_, fun y hy => ?_, rfl⟩
      · rw [unhide HU]; rfl
      · rw [unhide HU] at hy; cases hy; rfl
    · have HU := hide (Tm.up_nil_more (n := n) (i := i) (leaf := leaf) (by omega))
      go_enter Try.func174, Try.ntmps174
      go_wp2_with fail
      go_ret2
      refine ⟨0, ?_, fun y hy => ?_, rfl⟩
      · rw [unhide HU]; rfl
      · rw [unhide HU] at hy; cases hy
  | succ k ih =>
    intro ps n i leaf ao m cap w hk hm hcap hk2 n1 n2 i1 i2 hr
    have IH := hide ih
    have hsn := Tm.snoc_of hk
    have hmk : m = k + 1 := by omega
    subst hmk
    obtain ⟨b, off, rfl, hc⟩ := hr.2 (by intro e; subst e; simp at hk)
    have hcell := hc k (by omega)
    have hrt := hr.take k
    have htl : (ps.take k).length = k := by rw [List.length_take]; omega
    have HRT := hide hrt
    have HTL := hide htl
    generalize ps.getD k 0 = p at *
    generalize ps.take k = init at *
    subst hsn
    clear hr hrt htl hc hk hm ih
    have hlz : (((k + 1 : Nat) : Int) == 0) = false := by rw [beq_eq_false_iff_ne]; omega
    by_cases h2 : n < 2
    · have HU := hide (Tm.up_cons_one (i := i) (leaf := leaf) (p := p) (init := init) h2)
      go_enter Try.func174, Try.ntmps174
      go_wp2_with fail
      go_ret2
      refine ⟨leaf, ?_, fun y hy => ?_, rfl⟩
      · rw [unhide HU]; rfl
      · rw [unhide HU] at hy; cases hy
    · have hs := Tm.split_bd (n := n) (by omega) n2
      have hts := Tm.treSplit_of (n := n) (by omega) n2
      obtain ⟨s1, s2, s3⟩ := hs
      by_cases hi : i < Tm.split n
      · have HU := hide (Tm.up_left (leaf := leaf) (p := p) (init := init) (by omega) hi)
        generalize Tm.split n = sp at *
        go_enter Try.func174, Try.ntmps174
        go_wp2_with fail
        refine (c154 _ _).mono ?_
        rintro e w' ⟨rfl, rfl⟩
        rw [hts]
        clear hts
        go_wp2_with fail
        refine ((unhide IH) init _ _ leaf _ k cap _ (unhide HTL) (unhide HTL) (by omega) (by omega) (by omega) (by omega) (by omega) (by omega) (unhide HRT)).mono ?_
        rintro e w1 ⟨x, rfl, hx, rfl⟩
        have HX := hide hx
        clear hx
        go_wp2_with fail
        refine (c155 _ _ _).mono ?_
        rintro e w2 ⟨rfl, rfl⟩
        go_wp2_with fail
        go_ret2
        refine ⟨Tm.pair x p, ?_, fun y hy => ?_, rfl⟩
        · rw [unhide HU, Option.isSome_map]; rfl
        · rw [unhide HU, Option.map_eq_some_iff] at hy
          obtain ⟨z, hz, rfl⟩ := hy
          rw [unhide HX z hz]
      · have HU := hide (Tm.up_right (leaf := leaf) (p := p) (init := init) (by omega) hi)
        generalize Tm.split n = sp at *
        go_enter Try.func174, Try.ntmps174
        go_wp2_with fail
        refine (c154 _ _).mono ?_
        rintro e w' ⟨rfl, rfl⟩
        rw [hts]
        clear hts
        go_wp2_with fail
        refine ((unhide IH) init _ _ leaf _ k cap _ (unhide HTL) (unhide HTL) (by omega) (by omega) (by omega) (by omega) (by omega) (by omega) (unhide HRT)).mono ?_
        rintro e w1 ⟨x, rfl, hx, rfl⟩
        have HX := hide hx
        clear hx
        go_wp2_with fail
        refine (c155 _ _ _).mono ?_
        rintro e w2 ⟨rfl, rfl⟩
        go_wp2_with fail
        go_ret2
        refine ⟨Tm.pair p x, ?_, fun y hy => ?_, rfl⟩
        · rw [unhide HU, Option.isSome_map]; rfl
        · rw [unhide HU, Option.map_eq_some_iff] at hy
          obtain ⟨z, hz, rfl⟩ := hy
          rw [unhide HX z hz]

theorem treUp_no {n i leaf : Int} {ps : List Int} (h : ¬ (1 ≤ n ∧ n ≤ 40 ∧ 0 ≤ i ∧ i < n ∧ Tm.okB leaf = true ∧ Tm.treOk ps = true)) : Tm.treUp n i leaf ps = none := by unfold Tm.treUp; rw [if_neg h]
theorem treUp_of {n i leaf : Int} {ps : List Int} (h : 1 ≤ n ∧ n ≤ 40 ∧ 0 ≤ i ∧ i < n ∧ Tm.okB leaf = true ∧ Tm.treOk ps = true) : Tm.treUp n i leaf ps = Tm.up n i leaf ps := by unfold Tm.treUp; rw [if_pos h]
theorem treOk_len {ps : List Int} (h : Tm.treOk ps = true) : ps.length ≤ 40 ∧ Tm.okAll ps = true := by
  unfold Tm.treOk at h; rw [Bool.and_eq_true, decide_eq_true_iff] at h; exact h

/-- TreUp's answer as Go tells it -/
def upVal (o : Option Int) : Value := .tuple #[.int .i64 (o.getD 0), .bool o.isSome]

set_option maxHeartbeats 2000000 in
theorem c163 (ps : List Int) (n i leaf : Int) (ao : Option Addr) (m cap : Nat) (w : World) (hm : ps.length = m) (hcap : m ≤ cap) (hb : m ≤ 1048576) (hr : Row w ao ps) :
    Calls Try.prog 163 #[.int .i64 n, .int .i64 i, .int .i64 leaf, .slice ao m cap] w fun e w' => e = .returned (upVal (Tm.treUp n i leaf ps)) ∧ w' = w := by
  have HR := hide hr
  have HM := hide hm
  clear hr hm
  by_cases h1 : 1 ≤ n ∧ n ≤ 40
  · by_cases h2 : 0 ≤ i ∧ i < n
    · have d1 : decide (1 ≤ n ∧ n ≤ 40) = true := decide_eq_true h1
      have d2 : decide (0 ≤ i ∧ i ≤ n - 1) = true := decide_eq_true (by omega)
      rcases h3 : Tm.okB leaf with _ | _
      · have HU := hide (treUp_no (n := n) (i := i) (leaf := leaf) (ps := ps) (by rw [h3]; simp))
        obtain ⟨h1, h1'⟩ := h1
        obtain ⟨h2, h2'⟩ := h2
        go_enter Try.func163, Try.ntmps163
        go_wp2_with (first | (go_at_call 109; refine (c109 _ _ _ _).mono ?_; rintro e w' ⟨rfl, rfl⟩) | (go_at_call 172; refine (c172 _ _).mono ?_; rintro e w' ⟨rfl, rfl⟩))
        go_ret2
        exact ⟨by rw [unhide HU]; rfl, rfl⟩
      · rcases h4 : Tm.treOk ps with _ | _
        · have HU := hide (treUp_no (n := n) (i := i) (leaf := leaf) (ps := ps) (by rw [h4]; simp))
          obtain ⟨h1, h1'⟩ := h1
          obtain ⟨h2, h2'⟩ := h2
          go_enter Try.func163, Try.ntmps163
          go_wp2_with (first | (go_at_call 109; refine (c109 _ _ _ _).mono ?_; rintro e w' ⟨rfl, rfl⟩) | (go_at_call 172; refine (c172 _ _).mono ?_; rintro e w' ⟨rfl, rfl⟩) | (go_at_call 173; refine (c173 ps _ _ _ _ (unhide HM) (by omega) (unhide HR)).mono ?_; rintro e w' ⟨rfl, rfl⟩))
          go_ret2
          exact ⟨by rw [unhide HU]; rfl, rfl⟩
        · have HU := hide (treUp_of (n := n) (i := i) (leaf := leaf) (ps := ps) ⟨h1.1, h1.2, h2.1, h2.2, h3, h4⟩)
          obtain ⟨h1, h1'⟩ := h1
          obtain ⟨h2, h2'⟩ := h2
          go_enter Try.func163, Try.ntmps163
          go_wp2_with (first | (go_at_call 109; refine (c109 _ _ _ _).mono ?_; rintro e w' ⟨rfl, rfl⟩) | (go_at_call 172; refine (c172 _ _).mono ?_; rintro e w' ⟨rfl, rfl⟩) | (go_at_call 173; refine (c173 ps _ _ _ _ (unhide HM) (by omega) (unhide HR)).mono ?_; rintro e w' ⟨rfl, rfl⟩))
          refine (c174 ps.length ps n i leaf _ _ _ _ rfl (unhide HM) hcap (by have := unhide HM; omega) h1 h1' h2 h2' (unhide HR)).mono ?_
          rintro e w1 ⟨x, rfl, hx, rfl⟩
          have HX := hide hx
          clear hx
          rcases hu : Tm.up n i leaf ps with _ | y
          · have Hu := hide hu
            clear hu
            simp only [Option.isSome_none]
            go_wp2_with fail
            go_ret2
            exact ⟨by rw [unhide HU, unhide Hu]; rfl, rfl⟩
          · have hxy := unhide HX y hu
            subst hxy
            have Hu := hide hu
            clear hu
            simp only [Option.isSome_some]
            go_wp2_with fail
            go_ret2
            exact ⟨by rw [unhide HU, unhide Hu]; rfl, rfl⟩
    · have d1 : decide (1 ≤ n ∧ n ≤ 40) = true := decide_eq_true h1
      have d2 : decide (0 ≤ i ∧ i ≤ n - 1) = false := decide_eq_false (by omega)
      have HU := hide (treUp_no (n := n) (i := i) (leaf := leaf) (ps := ps) (by omega))
      clear h2
      obtain ⟨h1, h1'⟩ := h1
      go_enter Try.func163, Try.ntmps163
      go_wp2_with (first | (go_at_call 109; refine (c109 _ _ _ _).mono ?_; rintro e w' ⟨rfl, rfl⟩) | (go_at_call 172; refine (c172 _ _).mono ?_; rintro e w' ⟨rfl, rfl⟩))
      go_ret2
      exact ⟨by rw [unhide HU]; rfl, rfl⟩
  · have d1 : decide (1 ≤ n ∧ n ≤ 40) = false := decide_eq_false h1
    have HU := hide (treUp_no (n := n) (i := i) (leaf := leaf) (ps := ps) (by omega))
    clear h1
    go_enter Try.func163, Try.ntmps163
    go_wp2_with (first | (go_at_call 109; refine (c109 _ _ _ _).mono ?_; rintro e w' ⟨rfl, rfl⟩) | (go_at_call 172; refine (c172 _ _).mono ?_; rintro e w' ⟨rfl, rfl⟩))
    go_ret2
    exact ⟨by rw [unhide HU]; rfl, rfl⟩

set_option maxHeartbeats 1000000 in
theorem c134 (ps : List Int) (root n i leaf : Int) (ao : Option Addr) (m cap : Nat) (w : World) (hm : ps.length = m) (hcap : m ≤ cap) (hb : m ≤ 1048576) (hr : Row w ao ps) :
    Calls Try.prog 134 #[.int .i64 root, .int .i64 n, .int .i64 i, .int .i64 leaf, .slice ao m cap] w fun e w' => e = .returned (.bool (Tm.treCheck root n i leaf ps)) ∧ w' = w := by
  have HR := hide hr
  clear hr
  go_enter Try.func134, Try.ntmps134
  go_wp2_with fail
  refine (c163 ps n i leaf _ m cap _ hm hcap hb (unhide HR)).mono ?_
  rintro e w1 ⟨rfl, rfl⟩
  rcases hu : Tm.treUp n i leaf ps with _ | y
  · have Hu := hide hu
    clear hu
    simp only [upVal, Option.isSome_none, Option.getD_none]
    go_wp2_with fail
    go_ret
    exact ⟨ret_bool (by unfold Tm.treCheck; rw [unhide Hu]; rfl), rfl⟩
  · have Hu := hide hu
    clear hu
    simp only [upVal, Option.isSome_some, Option.getD_some]
    go_wp2_with fail
    go_ret
    exact ⟨ret_bool (by unfold Tm.treCheck; rw [unhide Hu]; rfl), rfl⟩
end Go.Proofs.Ytjdnengmllamcaa
