/-
  Texts of the proof, what it needs of them: Ups.
-/
import Derived.Deep.RegionHeld3
import Derived.Test.YtmlbphmbffkdnaaGreatGh05
namespace Go.Proofs.YtmlbphmbffkdnaaGreat
open Go.RowKit

/-- the model's answer: the number is told only where there is one -/
def UpSpec (n i leaf : Int) (ps : List Int) (w : World) (e : Ending) (w' : World) : Prop :=
  ∃ x : Int, e = .returned (.tuple #[.int .i64 x, .bool (Tm.up n i leaf ps).isSome]) ∧ (∀ y, Tm.up n i leaf ps = some y → x = y) ∧ w' = w

set_option maxHeartbeats 1000000 in
theorem c121 (k : Nat) : ∀ (ps : List Int) (n i leaf : Int) (ao : Option Addr) (m cap : Nat) (w : World), ps.length = k → ps.length = m → m ≤ cap → k ≤ 1048576 → 1 ≤ n → n ≤ 40 → 0 ≤ i → i < n → Row w ao ps →
    Calls Tryz.prog 121 #[.int .i64 n, .int .i64 i, .int .i64 leaf, .slice ao m cap] w (UpSpec n i leaf ps w) := by
  induction k with
  | zero =>
    intro ps n i leaf ao m cap w hk hm hcap hk2 n1 n2 i1 i2 hr
    have hps : ps = [] := List.eq_nil_of_length_eq_zero hk
    subst hps
    have hm0 : m = 0 := by simpa using hm.symm
    subst hm0
    clear hr hk hm
    by_cases h2 : n < 2
    · have HU := hide (Tm.up_nil_one (i := i) (leaf := leaf) h2)
      go_enter Tryz.func121, Tryz.ntmps121
      go_wp2_with fail
      go_ret2
      refine ⟨leaf, ?_, fun y hy => ?_, rfl⟩
      · rw [unhide HU]; rfl
      · rw [unhide HU] at hy; cases hy; rfl
    · have HU := hide (Tm.up_nil_more (n := n) (i := i) (leaf := leaf) (by omega))
      go_enter Tryz.func121, Tryz.ntmps121
      go_wp2_with fail
      go_ret2
      refine ⟨0, ?_, fun y hy => ?_, rfl⟩
      · rw [unhide HU]; rfl
      · rw [unhide HU] at hy; cases hy
  | succ k ih =>
    intro ps n i leaf ao m cap w hk hm hcap hk2 n1 n2 i1 i2 hr
    have IH := hide ih
    have hsn := Tm.snoc_of hk
    have hmk : m = k + 1 := by omega
    subst hmk
    obtain ⟨b, off, rfl, hc⟩ := hr.2 (by intro e; subst e; simp at hk)
    have hcell := hc k (by omega)
    have hrt := hr.take k
    have htl : (ps.take k).length = k := by rw [List.length_take]; omega
    have HRT := hide hrt
    have HTL := hide htl
    generalize ps.getD k 0 = p at *
    generalize ps.take k = init at *
    subst hsn
    clear hr hrt htl hc hk hm ih
    have hlz : (((k + 1 : Nat) : Int) == 0) = false := by rw [beq_eq_false_iff_ne]; omega
    by_cases h2 : n < 2
    · have HU := hide (Tm.up_cons_one (i := i) (leaf := leaf) (p := p) (init := init) h2)
      go_enter Tryz.func121, Tryz.ntmps121
      go_wp2_with fail
      go_ret2
      refine ⟨leaf, ?_, fun y hy => ?_, rfl⟩
      · rw [unhide HU]; rfl
      · rw [unhide HU] at hy; cases hy
    · have hs := Tm.split_bd (n := n) (by omega) n2
      have hts := Tm.treSplit_of (n := n) (by omega) n2
      obtain ⟨s1, s2, s3⟩ := hs
      by_cases hi : i < Tm.split n
      · have HU := hide (Tm.up_left (leaf := leaf) (p := p) (init := init) (by omega) hi)
        generalize Tm.split n = sp at *
        go_enter Tryz.func121, Tryz.ntmps121
        go_wp2_with fail
        refine (c85 _ _).mono ?_
        rintro e w' ⟨rfl, rfl⟩
        rw [hts]
        clear hts
        go_wp2_with fail
        refine ((unhide IH) init _ _ leaf _ k cap _ (unhide HTL) (unhide HTL) (by omega) (by omega) (by omega) (by omega) (by omega) (by omega) (unhide HRT)).mono ?_
        rintro e w1 ⟨x, rfl, hx, rfl⟩
        have HX := hide hx
        clear hx
        go_wp2_with fail
        refine (c86 _ _ _).mono ?_
        rintro e w2 ⟨rfl, rfl⟩
        go_wp2_with fail
        go_ret2
        refine ⟨Tm.pair x p, ?_, fun y hy => ?_, rfl⟩
        · rw [unhide HU, Option.isSome_map]; rfl
        · rw [unhide HU, Option.map_eq_some_iff] at hy
          obtain ⟨z, hz, rfl⟩ := hy
          rw [unhide HX z hz]
      · have HU := hide (Tm.up_right (leaf := leaf) (p := p) (init := init) (by omega) hi)
        generalize Tm.split n = sp at *
        go_enter Tryz.func121, Tryz.ntmps121
        go_wp2_with fail
        refine (c85 _ _).mono ?_
        rintro e w' ⟨rfl, rfl⟩
        rw [hts]
        clear hts
        go_wp2_with fail
        refine ((unhide IH) init _ _ leaf _ k cap _ (unhide HTL) (unhide HTL) (by omega) (by omega) (by omega) (by omega) (by omega) (by omega) (unhide HRT)).mono ?_
        rintro e w1 ⟨x, rfl, hx, rfl⟩
        have HX := hide hx
        clear hx
        go_wp2_with fail
        refine (c86 _ _ _).mono ?_
        rintro e w2 ⟨rfl, rfl⟩
        go_wp2_with fail
        go_ret2
        refine ⟨Tm.pair p x, ?_, fun y hy => ?_, rfl⟩
        · rw [unhide HU, Option.isSome_map]; rfl
        · rw [unhide HU, Option.map_eq_some_iff] at hy
          obtain ⟨z, hz, rfl⟩ := hy
          rw [unhide HX z hz]

theorem treUp_no {n i leaf : Int} {ps : List Int} (h : ¬ (1 ≤ n ∧ n ≤ 40 ∧ 0 ≤ i ∧ i < n ∧ Tm.okB leaf = true ∧ Tm.treOk ps = true)) : Tm.treUp n i leaf ps = none := by unfold Tm.treUp; rw [if_neg h]
theorem treUp_of {n i leaf : Int} {ps : List Int} (h : 1 ≤ n ∧ n ≤ 40 ∧ 0 ≤ i ∧ i < n ∧ Tm.okB leaf = true ∧ Tm.treOk ps = true) : Tm.treUp n i leaf ps = Tm.up n i leaf ps := by unfold Tm.treUp; rw [if_pos h]
theorem treOk_len {ps : List Int} (h : Tm.treOk ps = true) : ps.length ≤ 40 ∧ Tm.okAll ps = true := by
  unfold Tm.treOk at h; rw [Bool.and_eq_true, decide_eq_true_iff] at h; exact h

/-- TreUp's answer as Go tells it -/
def upVal (o : Option Int) : Value := .tuple #[.int .i64 (o.getD 0), .bool o.isSome]

set_option maxHeartbeats 2000000 in
theorem c106 (ps : List Int) (n i leaf : Int) (ao : Option Addr) (m cap : Nat) (w : World) (hm : ps.length = m) (hcap : m ≤ cap) (hb : m ≤ 1048576) (hr : Row w ao ps) :
    Calls Tryz.prog 106 #[.int .i64 n, .int .i64 i, .int .i64 leaf, .slice ao m cap] w fun e w' => e = .returned (upVal (Tm.treUp n i leaf ps)) ∧ w' = w := by
  have HR := hide hr
  have HM := hide hm
  clear hr hm
  by_cases h1 : 1 ≤ n ∧ n ≤ 40
  · by_cases h2 : 0 ≤ i ∧ i < n
    · have d1 : decide (1 ≤ n ∧ n ≤ 40) = true := decide_eq_true h1
      have d2 : decide (0 ≤ i ∧ i ≤ n - 1) = true := decide_eq_true (by omega)
      rcases h3 : Tm.okB leaf with _ | _
      · have HU := hide (treUp_no (n := n) (i := i) (leaf := leaf) (ps := ps) (by rw [h3]; simp))
        obtain ⟨h1, h1'⟩ := h1
        obtain ⟨h2, h2'⟩ := h2
        go_enter Tryz.func106, Tryz.ntmps106
        go_wp2_with (first | (go_at_call 40; refine (c40 _ _ _ _).mono ?_; rintro e w' ⟨rfl, rfl⟩) | (go_at_call 81; refine (c81 _ _).mono ?_; rintro e w' ⟨rfl, rfl⟩))
        go_ret2
        exact ⟨by rw [unhide HU]; rfl, rfl⟩
      · rcases h4 : Tm.treOk ps with _ | _
        · have HU := hide (treUp_no (n := n) (i := i) (leaf := leaf) (ps := ps) (by rw [h4]; simp))
          obtain ⟨h1, h1'⟩ := h1
          obtain ⟨h2, h2'⟩ := h2
          go_enter Tryz.func106, Tryz.ntmps106
          go_wp2_with (first | (go_at_call 40; refine (c40 _ _ _ _).mono ?_; rintro e w' ⟨rfl, rfl⟩) | (go_at_call 81; refine (c81 _ _).mono ?_; rintro e w' ⟨rfl, rfl⟩) | (go_at_call 120; refine (c120 ps _ _ _ _ (unhide HM) (by omega) (unhide HR)).mono ?_; rintro e w' ⟨rfl, rfl⟩))
          go_ret2
          exact ⟨by rw [unhide HU]; rfl, rfl⟩
        · have HU := hide (treUp_of (n := n) (i := i) (leaf := leaf) (ps := ps) ⟨h1.1, h1.2, h2.1, h2.2, h3, h4⟩)
          obtain ⟨h1, h1'⟩ := h1
          obtain ⟨h2, h2'⟩ := h2
          go_enter Tryz.func106, Tryz.ntmps106
          go_wp2_with (first | (go_at_call 40; refine (c40 _ _ _ _).mono ?_; rintro e w' ⟨rfl, rfl⟩) | (go_at_call 81; refine (c81 _ _).mono ?_; rintro e w' ⟨rfl, rfl⟩) | (go_at_call 120; refine (c120 ps _ _ _ _ (unhide HM) (by omega) (unhide HR)).mono ?_; rintro e w' ⟨rfl, rfl⟩))
          refine (c121 ps.length ps n i leaf _ _ _ _ rfl (unhide HM) hcap (by have := unhide HM; omega) h1 h1' h2 h2' (unhide HR)).mono ?_
          rintro e w1 ⟨x, rfl, hx, rfl⟩
          have HX := hide hx
          clear hx
          rcases hu : Tm.up n i leaf ps with _ | y
          · have Hu := hide hu
            clear hu
            simp only [Option.isSome_none]
            go_wp2_with fail
            go_ret2
            exact ⟨by rw [unhide HU, unhide Hu]; rfl, rfl⟩
          · have hxy := unhide HX y hu
            subst hxy
            have Hu := hide hu
            clear hu
            simp only [Option.isSome_some]
            go_wp2_with fail
            go_ret2
            exact ⟨by rw [unhide HU, unhide Hu]; rfl, rfl⟩
    · have d1 : decide (1 ≤ n ∧ n ≤ 40) = true := decide_eq_true h1
      have d2 : decide (0 ≤ i ∧ i ≤ n - 1) = false := decide_eq_false (by omega)
      have HU := hide (treUp_no (n := n) (i := i) (leaf := leaf) (ps := ps) (by omega))
      clear h2
      obtain ⟨h1, h1'⟩ := h1
      go_enter Tryz.func106, Tryz.ntmps106
      go_wp2_with (first | (go_at_call 40; refine (c40 _ _ _ _).mono ?_; rintro e w' ⟨rfl, rfl⟩) | (go_at_call 81; refine (c81 _ _).mono ?_; rintro e w' ⟨rfl, rfl⟩))
      go_ret2
      exact ⟨by rw [unhide HU]; rfl, rfl⟩
  · have d1 : decide (1 ≤ n ∧ n ≤ 40) = false := decide_eq_false h1
    have HU := hide (treUp_no (n := n) (i := i) (leaf := leaf) (ps := ps) (by omega))
    clear h1
    go_enter Tryz.func106, Tryz.ntmps106
    go_wp2_with (first | (go_at_call 40; refine (c40 _ _ _ _).mono ?_; rintro e w' ⟨rfl, rfl⟩) | (go_at_call 81; refine (c81 _ _).mono ?_; rintro e w' ⟨rfl, rfl⟩))
    go_ret2
    exact ⟨by rw [unhide HU]; rfl, rfl⟩

set_option maxHeartbeats 1000000 in
theorem c79 (ps : List Int) (root n i leaf : Int) (ao : Option Addr) (m cap : Nat) (w : World) (hm : ps.length = m) (hcap : m ≤ cap) (hb : m ≤ 1048576) (hr : Row w ao ps) :
    Calls Tryz.prog 79 #[.int .i64 root, .int .i64 n, .int .i64 i, .int .i64 leaf, .slice ao m cap] w fun e w' => e = .returned (.bool (Tm.treCheck root n i leaf ps)) ∧ w' = w := by
  have HR := hide hr
  clear hr
  go_enter Tryz.func79, Tryz.ntmps79
  go_wp2_with fail
  refine (c106 ps n i leaf _ m cap _ hm hcap hb (unhide HR)).mono ?_
  rintro e w1 ⟨rfl, rfl⟩
  rcases hu : Tm.treUp n i leaf ps with _ | y
  · have Hu := hide hu
    clear hu
    simp only [upVal, Option.isSome_none, Option.getD_none]
    go_wp2_with fail
    go_ret
    exact ⟨ret_bool (by unfold Tm.treCheck; rw [unhide Hu]; rfl), rfl⟩
  · have Hu := hide hu
    clear hu
    simp only [upVal, Option.isSome_some, Option.getD_some]
    go_wp2_with fail
    go_ret
    exact ⟨ret_bool (by unfold Tm.treCheck; rw [unhide Hu]; rfl), rfl⟩
end Go.Proofs.YtmlbphmbffkdnaaGreat
namespace Go.Proofs.YtmlbphmbffkdnaaGreat
open Go.RowKit

/-- the step into a part: how many it has, at which place, on which side -/
def stepOf (n i : Int) : Value := if i < Tm.split n then .agg #[.int .i64 (Tm.split n), .int .i64 i, .bool true] else .agg #[.int .i64 (n - Tm.split n), .int .i64 (i - Tm.split n), .bool false]

set_option maxHeartbeats 1000000 in
theorem c98 (n i : Int) (w : World) (n1 : 2 ≤ n) (n2 : n ≤ 40) (_i1 : 0 ≤ i) (i2 : i < n) :
    Calls Tryz.prog 98 #[.int .i64 n, .int .i64 i] w fun e w' => e = .returned (stepOf n i) ∧ Below w.heap.size w w' := by
  have hs := Tm.split_bd (n := n) n1 n2
  have hts := Tm.treSplit_of (n := n) n1 n2
  obtain ⟨s1, s2, s3⟩ := hs
  by_cases hi : i < Tm.split n
  · have HU : Hid (stepOf n i = .agg #[.int .i64 (Tm.split n), .int .i64 i, .bool true]) := by unfold Hid stepOf; rw [if_pos hi]
    generalize Tm.split n = sp at *
    go_enter Tryz.func98, Tryz.ntmps98
    go_wp2_with fail
    refine (c95 _ _).mono ?_
    rintro e w1 ⟨rfl, rfl⟩
    rw [hts]
    clear hts
    go_wp2_with fail
    refine bodyPost_ret (v := .agg #[.int .i64 sp, .int .i64 i, .bool true]) (by simp [results, Tryz.results98, go_sem]) rfl ⟨by rw [unhide HU], ?_⟩
    exact (Below.refl _ _).alloc (Nat.le_refl _) _
  · have HU : Hid (stepOf n i = .agg #[.int .i64 (n - Tm.split n), .int .i64 (i - Tm.split n), .bool false]) := by unfold Hid stepOf; rw [if_neg hi]
    generalize Tm.split n = sp at *
    go_enter Tryz.func98, Tryz.ntmps98
    go_wp2_with fail
    refine (c95 _ _).mono ?_
    rintro e w1 ⟨rfl, rfl⟩
    rw [hts]
    clear hts
    go_wp2_with fail
    refine bodyPost_ret (v := .agg #[.int .i64 (n - sp), .int .i64 (i - sp), .bool false]) (by simp [results, Tryz.results98, go_sem]) rfl ⟨by rw [unhide HU], ?_⟩
    exact (Below.refl _ _).alloc (Nat.le_refl _) _

set_option maxHeartbeats 1000000 in
theorem c100 (c a x y : Int) (l : Bool) (w : World) :
    Calls Tryz.prog 100 #[.agg #[.int .i64 c, .int .i64 a, .bool l], .int .i64 x, .int .i64 y] w fun e w' => e = .returned (.agg #[.int .i64 (if l = true then x else y), .int .i64 (if l = true then y else x)]) ∧ Below w.heap.size w w' := by
  cases l
  · go_enter Tryz.func100, Tryz.ntmps100
    go_wp2_with fail
    refine bodyPost_ret (v := .agg #[.int .i64 y, .int .i64 x]) (by simp [results, Tryz.results100, go_sem]) rfl ⟨rfl, ?_⟩
    exact ((Below.refl _ _).alloc (Nat.le_refl _) _).alloc (by simp) _
  · go_enter Tryz.func100, Tryz.ntmps100
    go_wp2_with fail
    refine bodyPost_ret (v := .agg #[.int .i64 x, .int .i64 y]) (by simp [results, Tryz.results100, go_sem]) rfl ⟨rfl, ?_⟩
    exact ((Below.refl _ _).alloc (Nat.le_refl _) _).alloc (by simp) _

set_option maxHeartbeats 1000000 in
theorem c97 (x y : Int) (w : World) (hx : Tm.okB x = true) (hy : Tm.okB y = true) :
    Calls Tryz.prog 97 #[.agg #[.int .i64 x, .int .i64 y]] w fun e w' => e = .returned (.int .i64 (Tm.pair x y)) ∧ Below w.heap.size w w' := by
  have HP := hide (Tm.pair_of hx hy)
  have h1 := (Tm.okB_iff _).1 hx
  have h2 := (Tm.okB_iff _).1 hy
  clear hx hy
  go_enter Tryz.func97, Tryz.ntmps97
  go_wp2_with fail
  refine (c66 _ _ _ h1 h2).mono ?_
  rintro e w1 ⟨rfl, rfl⟩
  go_wp2_with fail
  go_ret
  exact ⟨ret_int (unhide HP).symm, (Below.refl _ _).alloc (Nat.le_refl _) _⟩

theorem Row.drew {w : World} {ao : Option Addr} {zs : List Int} (h : Row w ao zs) : Row w.drew ao zs := h.drewN 1
theorem cell_below {W w' : World} (h : Below W.heap.size W w') {p : Addr} {v : Value} (hc : W.cell? p = some v) : w'.cell? p = some v :=
  (h.cell (World.block_lt_of_cell? W p hc)).trans hc
theorem below_undrew {W w' : World} (h : Below W.drew.heap.size W.drew w') : Below W.heap.size W w' := ⟨h.os, h.tape, h.output, h.size, h.block⟩
theorem below_drew (W : World) : Below W.heap.size W W.drew := (Below.refl _ _).drew
theorem below_then {A W w' : World} (h : Below A.heap.size A W) (k : Below W.heap.size W w') : Below A.heap.size A w' := h.trans (k.mono h.size)
def LeadUp (n i leaf : Int) (ps : List Int) (w : World) (e : Ending) (w' : World) : Prop := e = .returned (.tuple #[.int .i64 ((Tm.up n i leaf ps).getD 0), .bool (Tm.up n i leaf ps).isSome]) ∧ Below w.heap.size w w'

set_option maxHeartbeats 1000000 in
theorem c99 (k : Nat) : ∀ (ps : List Int) (n i leaf : Int) (ao : Option Addr) (m cap : Nat) (w : World), ps.length = k → ps.length = m → m ≤ cap → k ≤ 40 → 1 ≤ n → n ≤ 40 → 0 ≤ i → i < n → Tm.okB leaf = true → Tm.okAll ps = true → Row w ao ps →
    Calls Tryz.prog 99 #[.int .i64 n, .int .i64 i, .int .i64 leaf, .slice ao m cap] w (LeadUp n i leaf ps w) := by
  induction k with
  | zero =>
    intro ps n i leaf ao m cap w hk hm hcap hk2 n1 n2 i1 i2 hlf hall hr
    have hps : ps = [] := List.eq_nil_of_length_eq_zero hk
    subst hps
    have hm0 : m = 0 := by simpa using hm.symm
    subst hm0
    clear hr hk hm
    by_cases h2 : n < 2
    · have HU := hide (Tm.up_nil_one (i := i) (leaf := leaf) h2)
      have hn1 : n = 1 := by omega
      subst hn1
      go_enter Tryz.func99, Tryz.ntmps99
      go_wp2_with fail
      go_ret2
      exact ⟨by rw [unhide HU]; rfl, Below.refl _ _⟩
    · have HU := hide (Tm.up_nil_more (n := n) (i := i) (leaf := leaf) (by omega))
      have hn1 : (n == 1) = false := by rw [beq_eq_false_iff_ne]; omega
      go_enter Tryz.func99, Tryz.ntmps99
      go_wp2_with fail
      go_ret2
      exact ⟨by rw [unhide HU]; rfl, Below.refl _ _⟩
  | succ k ih =>
    intro ps n i leaf ao m cap w hk hm hcap hk2 n1 n2 i1 i2 hlf hall hr
    have IH := hide ih
    have hsn := Tm.snoc_of hk
    have hmk : m = k + 1 := by omega
    subst hmk
    obtain ⟨b, off, rfl, hc⟩ := hr.2 (by intro e; subst e; simp at hk)
    have hcell := hc k (by omega)
    have hrt := hr.take k
    have htl : (ps.take k).length = k := by rw [List.length_take]; omega
    have HRT := hide hrt
    have HTL := hide htl
    have HLF := hide hlf
    have hpo := Tm.okAll_at hall (k := k) (by omega)
    have HAI := hide (Tm.okAll_take hall k)
    clear hall hlf
    generalize ps.getD k 0 = p at *
    generalize ps.take k = init at *
    subst hsn
    have HPO := hide hpo
    clear hr hrt htl hc hk hm ih hpo
    have hlz : (((k + 1 : Nat) : Int) == 0) = false := by rw [beq_eq_false_iff_ne]; omega
    by_cases h2 : n < 2
    · have HU := hide (Tm.up_cons_one (i := i) (leaf := leaf) (p := p) (init := init) h2)
      have hn1 : n = 1 := by omega
      subst hn1
      go_enter Tryz.func99, Tryz.ntmps99
      go_wp2_with fail
      go_ret2
      exact ⟨by rw [unhide HU]; rfl, Below.refl _ _⟩
    · have hs := Tm.split_bd (n := n) (by omega) n2
      obtain ⟨s1, s2, s3⟩ := hs
      have hn1 : (n == 1) = false := by rw [beq_eq_false_iff_ne]; omega
      by_cases hi : i < Tm.split n
      · have HU := hide (Tm.up_left (leaf := leaf) (p := p) (init := init) (by omega) hi)
        have HS : Hid (stepOf n i = .agg #[.int .i64 (Tm.split n), .int .i64 i, .bool true]) := by unfold Hid stepOf; rw [if_pos hi]
        generalize Tm.split n = sp at *
        go_enter Tryz.func99, Tryz.ntmps99
        go_wp2_with fail
        refine (c98 n i _ (by omega) n2 i1 i2).mono ?_
        rintro e w1 ⟨rfl, hb1⟩
        rw [unhide HS]
        have hbW : Below w.heap.size w (w1.alloc (.cells #[.int .i64 sp, .int .i64 i, .bool true] 120)) := hb1.alloc hb1.size _
        have HBW := hide hbW
        have HRW := hide ((unhide HRT).below hbW (Nat.le_refl _))
        have HCW := hide ((hbW.cell (p := ⟨b, off + k, none⟩) (World.block_lt_of_cell? w _ hcell)).trans hcell)
        have H0 : Hid ((w1.alloc (.cells #[.int .i64 sp, .int .i64 i, .bool true] 120)).cell? ⟨w1.heap.size, 0, none⟩ = some (.int .i64 sp)) := by unfold Hid; rw [World.cell?_alloc_new]; rfl
        have H1 : Hid ((w1.alloc (.cells #[.int .i64 sp, .int .i64 i, .bool true] 120)).cell? ⟨w1.heap.size, 1, none⟩ = some (.int .i64 i)) := by unfold Hid; rw [World.cell?_alloc_new]; rfl
        have H2 : Hid ((w1.alloc (.cells #[.int .i64 sp, .int .i64 i, .bool true] 120)).cell? ⟨w1.heap.size, 2, none⟩ = some (.bool true)) := by unfold Hid; rw [World.cell?_alloc_new]; rfl
        clear hb1 hcell hbW
        go_wp2_with fail
        generalize w1.alloc (.cells #[.int .i64 sp, .int .i64 i, .bool true] 120) = W at *
        generalize w1.heap.size = B at *
        have h0 := unhide H0
        have h1 := unhide H1
        have hW0 := below_drew W
        have k0 : (0 : Int) ≤ (k : Int) := by omega
        have k1 : (k : Int) ≤ (cap : Int) := by omega
        go_region_held3 (fun w' => w'.cell? ⟨B, 0, none⟩ = some (.int .i64 sp) ∧ w'.cell? ⟨B, 1, none⟩ = some (.int .i64 i) ∧ Below W.heap.size W w') (refine ⟨cell_below ?_ h0, cell_below ?_ h1, ?_⟩ <;> assumption) ((go_at_call 99; refine ((unhide IH) init _ _ leaf _ k cap _ (unhide HTL) (unhide HTL) (by omega) (by omega) (by omega) (by omega) (by omega) (by omega) (unhide HLF) (unhide HAI) (by exact (unhide HRW).drew)).mono ?_; rintro e w2 ⟨rfl, hb2⟩; have hb3 := below_undrew hb2))
        have HBf := hide (below_then (unhide HBW) hb3)
        have g0 := cell_below hb3 h0
        have g1 := cell_below hb3 h1
        have g2 := cell_below hb3 (unhide H2)
        have g3 := cell_below hb3 (unhide HCW)
        clear hb2 hW0 h0 h1 H0 H1 H2 HCW HBW HRW HRT
        rcases hu : Tm.up sp i leaf init with _ | x
        · have Hu := hide hu
          clear hu
          simp only [Option.getD_none, Option.isSome_none]
          go_wp2_with fail
          go_ret2
          exact ⟨by rw [unhide HU, unhide Hu]; rfl, unhide HBf⟩
        · have hxo := Tm.up_ok (unhide HLF) _ _ _ _ hu
          have Hu := hide hu
          clear hu hb3
          simp only [Option.getD_some, Option.isSome_some]
          have HXO := hide hxo
          clear hxo
          go_wp2_with fail
          have hV0 := below_drew w2
          have k2 : (k : Int) < ((k + 1 : Nat) : Int) := by omega
          generalize k + 1 = mm at *
          go_region_held3 (fun w' => w'.cell? ⟨B, 0, none⟩ = some (.int .i64 sp) ∧ w'.cell? ⟨B, 1, none⟩ = some (.int .i64 i) ∧ w'.cell? ⟨B, 2, none⟩ = some (.bool true) ∧ w'.cell? ⟨b, off + k, none⟩ = some (.int .i64 p) ∧ Below w2.heap.size w2 w') (refine ⟨cell_below ?_ g0, cell_below ?_ g1, cell_below ?_ g2, cell_below ?_ g3, ?_⟩ <;> assumption) (first | (go_at_call 100; refine (c100 _ _ _ _ _ _).mono ?_; rintro e w3 ⟨rfl, hb4⟩; have hb5 := below_undrew hb4; simp only [if_true]) | (go_at_call 97; refine (c97 _ _ _ (unhide HXO) (unhide HPO)).mono ?_; rintro e w4 ⟨rfl, hb6⟩; have hb7 := below_then hb5 hb6))
          have HBg := hide (below_then (unhide HBf) hb7)
          clear hb4 hb5 hb6 hb7 hV0
          go_wp2_with fail
          go_ret2
          exact ⟨by rw [unhide HU, unhide Hu]; rfl, unhide HBg⟩
      · have HU := hide (Tm.up_right (leaf := leaf) (p := p) (init := init) (by omega) hi)
        have HS : Hid (stepOf n i = .agg #[.int .i64 (n - Tm.split n), .int .i64 (i - Tm.split n), .bool false]) := by unfold Hid stepOf; rw [if_neg hi]
        generalize Tm.split n = sp at *
        go_enter Tryz.func99, Tryz.ntmps99
        go_wp2_with fail
        refine (c98 n i _ (by omega) n2 i1 i2).mono ?_
        rintro e w1 ⟨rfl, hb1⟩
        rw [unhide HS]
        have hbW : Below w.heap.size w (w1.alloc (.cells #[.int .i64 (n - sp), .int .i64 (i - sp), .bool false] 120)) := hb1.alloc hb1.size _
        have HBW := hide hbW
        have HRW := hide ((unhide HRT).below hbW (Nat.le_refl _))
        have HCW := hide ((hbW.cell (p := ⟨b, off + k, none⟩) (World.block_lt_of_cell? w _ hcell)).trans hcell)
        have H0 : Hid ((w1.alloc (.cells #[.int .i64 (n - sp), .int .i64 (i - sp), .bool false] 120)).cell? ⟨w1.heap.size, 0, none⟩ = some (.int .i64 (n - sp))) := by unfold Hid; rw [World.cell?_alloc_new]; rfl
        have H1 : Hid ((w1.alloc (.cells #[.int .i64 (n - sp), .int .i64 (i - sp), .bool false] 120)).cell? ⟨w1.heap.size, 1, none⟩ = some (.int .i64 (i - sp))) := by unfold Hid; rw [World.cell?_alloc_new]; rfl
        have H2 : Hid ((w1.alloc (.cells #[.int .i64 (n - sp), .int .i64 (i - sp), .bool false] 120)).cell? ⟨w1.heap.size, 2, none⟩ = some (.bool false)) := by unfold Hid; rw [World.cell?_alloc_new]; rfl
        clear hb1 hcell hbW
        go_wp2_with fail
        generalize w1.alloc (.cells #[.int .i64 (n - sp), .int .i64 (i - sp), .bool false] 120) = W at *
        generalize w1.heap.size = B at *
        have h0 := unhide H0
        have h1 := unhide H1
        have hW0 := below_drew W
        have k0 : (0 : Int) ≤ (k : Int) := by omega
        have k1 : (k : Int) ≤ (cap : Int) := by omega
        go_region_held3 (fun w' => w'.cell? ⟨B, 0, none⟩ = some (.int .i64 (n - sp)) ∧ w'.cell? ⟨B, 1, none⟩ = some (.int .i64 (i - sp)) ∧ Below W.heap.size W w') (refine ⟨cell_below ?_ h0, cell_below ?_ h1, ?_⟩ <;> assumption) ((go_at_call 99; refine ((unhide IH) init _ _ leaf _ k cap _ (unhide HTL) (unhide HTL) (by omega) (by omega) (by omega) (by omega) (by omega) (by omega) (unhide HLF) (unhide HAI) (by exact (unhide HRW).drew)).mono ?_; rintro e w2 ⟨rfl, hb2⟩; have hb3 := below_undrew hb2))
        have HBf := hide (below_then (unhide HBW) hb3)
        have g0 := cell_below hb3 h0
        have g1 := cell_below hb3 h1
        have g2 := cell_below hb3 (unhide H2)
        have g3 := cell_below hb3 (unhide HCW)
        clear hb2 hW0 h0 h1 H0 H1 H2 HCW HBW HRW HRT
        rcases hu : Tm.up (n - sp) (i - sp) leaf init with _ | x
        · have Hu := hide hu
          clear hu
          simp only [Option.getD_none, Option.isSome_none]
          go_wp2_with fail
          go_ret2
          exact ⟨by rw [unhide HU, unhide Hu]; rfl, unhide HBf⟩
        · have hxo := Tm.up_ok (unhide HLF) _ _ _ _ hu
          have Hu := hide hu
          clear hu hb3
          simp only [Option.getD_some, Option.isSome_some]
          have HXO := hide hxo
          clear hxo
          go_wp2_with fail
          have hV0 := below_drew w2
          have k2 : (k : Int) < ((k + 1 : Nat) : Int) := by omega
          generalize k + 1 = mm at *
          go_region_held3 (fun w' => w'.cell? ⟨B, 0, none⟩ = some (.int .i64 (n - sp)) ∧ w'.cell? ⟨B, 1, none⟩ = some (.int .i64 (i - sp)) ∧ w'.cell? ⟨B, 2, none⟩ = some (.bool false) ∧ w'.cell? ⟨b, off + k, none⟩ = some (.int .i64 p) ∧ Below w2.heap.size w2 w') (refine ⟨cell_below ?_ g0, cell_below ?_ g1, cell_below ?_ g2, cell_below ?_ g3, ?_⟩ <;> assumption) (first | (go_at_call 100; refine (c100 _ _ _ _ _ _).mono ?_; rintro e w3 ⟨rfl, hb4⟩; have hb5 := below_undrew hb4; simp only [Bool.false_eq_true, if_false]) | (go_at_call 97; refine (c97 _ _ _ (unhide HPO) (unhide HXO)).mono ?_; rintro e w4 ⟨rfl, hb6⟩; have hb7 := below_then hb5 hb6))
          have HBg := hide (below_then (unhide HBf) hb7)
          clear hb4 hb5 hb6 hb7 hV0
          go_wp2_with fail
          go_ret2
          exact ⟨by rw [unhide HU, unhide Hu]; rfl, unhide HBg⟩
end Go.Proofs.YtmlbphmbffkdnaaGreat
namespace Go.Proofs.YtmlbphmbffkdnaaGreat
open Go.RowKit
set_option linter.unusedVariables false

set_option maxHeartbeats 2000000 in
theorem c82 (ps : List Int) (n i leaf : Int) (ao : Option Addr) (m cap : Nat) (w : World) (hm : ps.length = m) (hcap : m ≤ cap) (hb : m ≤ 1048576) (hr : Row w ao ps) :
    Calls Tryz.prog 82 #[.int .i64 n, .int .i64 i, .int .i64 leaf, .slice ao m cap] w fun e w' => e = .returned (upVal (Tm.treUp n i leaf ps)) ∧ Below w.heap.size w w' := by
  have HR := hide hr
  have HM := hide hm
  clear hr hm
  by_cases h1 : n < 1
  · have HU := hide (treUp_no (n := n) (i := i) (leaf := leaf) (ps := ps) (by omega))
    go_enter Tryz.func82, Tryz.ntmps82
    go_wp2_with fail
    go_ret2
    exact ⟨by rw [unhide HU]; rfl, Below.refl _ _⟩
  have d1 : decide (n < 1) = false := by simpa using h1
  by_cases h2 : 40 < n
  · have HU := hide (treUp_no (n := n) (i := i) (leaf := leaf) (ps := ps) (by omega))
    go_enter Tryz.func82, Tryz.ntmps82
    go_wp2_with fail
    go_ret2
    exact ⟨by rw [unhide HU]; rfl, Below.refl _ _⟩
  have d2 : decide (40 < n) = false := by simpa using h2
  by_cases h3 : i < 0
  · have HU := hide (treUp_no (n := n) (i := i) (leaf := leaf) (ps := ps) (by omega))
    go_enter Tryz.func82, Tryz.ntmps82
    go_wp2_with fail
    go_ret2
    exact ⟨by rw [unhide HU]; rfl, Below.refl _ _⟩
  have d3 : decide (i < 0) = false := by simpa using h3
  by_cases h4 : n ≤ i
  · have HU := hide (treUp_no (n := n) (i := i) (leaf := leaf) (ps := ps) (by omega))
    go_enter Tryz.func82, Tryz.ntmps82
    go_wp2_with fail
    go_ret2
    exact ⟨by rw [unhide HU]; rfl, Below.refl _ _⟩
  have d4 : decide (n ≤ i) = false := by simpa using h4
  rcases h5 : Tm.okB leaf with _ | _
  · have HU := hide (treUp_no (n := n) (i := i) (leaf := leaf) (ps := ps) (by rw [h5]; simp))
    go_enter Tryz.func82, Tryz.ntmps82
    go_wp2_with (go_at_call 46; refine (c46 _ _).mono ?_; rintro e w' ⟨rfl, rfl⟩)
    go_ret2
    exact ⟨by rw [unhide HU]; rfl, Below.refl _ _⟩
  rcases h6 : Tm.treOk ps with _ | _
  · have HU := hide (treUp_no (n := n) (i := i) (leaf := leaf) (ps := ps) (by rw [h6]; simp))
    go_enter Tryz.func82, Tryz.ntmps82
    go_wp2_with (first | (go_at_call 46; refine (c46 _ _).mono ?_; rintro e w' ⟨rfl, rfl⟩) | (go_at_call 63; refine (c63 ps _ _ _ _ (unhide HM) (by omega) (unhide HR)).mono ?_; rintro e w' ⟨rfl, rfl⟩))
    go_ret2
    exact ⟨by rw [unhide HU]; rfl, Below.refl _ _⟩
  have HU := hide (treUp_of (n := n) (i := i) (leaf := leaf) (ps := ps) ⟨by omega, by omega, by omega, by omega, h5, h6⟩)
  obtain ⟨t1, t2⟩ := treOk_len h6
  have HL := hide h5
  have HT := hide t2
  go_enter Tryz.func82, Tryz.ntmps82
  go_wp2_with (first | (go_at_call 46; refine (c46 _ _).mono ?_; rintro e w' ⟨rfl, rfl⟩) | (go_at_call 63; refine (c63 ps _ _ _ _ (unhide HM) (by omega) (unhide HR)).mono ?_; rintro e w' ⟨rfl, rfl⟩))
  refine (c99 ps.length ps n i leaf _ _ _ _ rfl (unhide HM) hcap t1 (by omega) (by omega) (by omega) (by omega) (unhide HL) (unhide HT) (unhide HR)).mono ?_
  rintro e w1 ⟨rfl, hb1⟩
  have HB := hide hb1
  clear hb1
  go_wp2_with fail
  go_ret2
  exact ⟨by rw [unhide HU]; rfl, unhide HB⟩

set_option maxHeartbeats 1000000 in
theorem c48 (ps : List Int) (root n i leaf : Int) (ao : Option Addr) (m cap : Nat) (w : World) (hm : ps.length = m) (hcap : m ≤ cap) (hb : m ≤ 1048576) (hr : Row w ao ps) :
    Calls Tryz.prog 48 #[.int .i64 root, .int .i64 n, .int .i64 i, .int .i64 leaf, .slice ao m cap] w fun e w' => e = .returned (.bool (Tm.treCheck root n i leaf ps)) ∧ Below w.heap.size w w' := by
  have HR := hide hr
  clear hr
  go_enter Tryz.func48, Tryz.ntmps48
  go_wp2_with fail
  refine (c82 ps n i leaf _ m cap _ hm hcap hb (unhide HR)).mono ?_
  rintro e w1 ⟨rfl, hb1⟩
  have HB := hide hb1
  clear hb1
  rcases hu : Tm.treUp n i leaf ps with _ | y
  · have Hu := hide hu
    clear hu
    simp only [upVal, Option.isSome_none, Option.getD_none]
    go_wp2_with fail
    go_ret
    exact ⟨ret_bool (by unfold Tm.treCheck; rw [unhide Hu]; rfl), unhide HB⟩
  · have Hu := hide hu
    clear hu
    simp only [upVal, Option.isSome_some, Option.getD_some]
    go_wp2_with fail
    go_ret
    exact ⟨ret_bool (by unfold Tm.treCheck; rw [unhide Hu]; rfl), unhide HB⟩

end Go.Proofs.YtmlbphmbffkdnaaGreat
