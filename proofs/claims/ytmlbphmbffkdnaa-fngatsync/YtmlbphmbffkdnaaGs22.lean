/-
  Texts of the proof, what it needs of them: Drw, Conb.
-/
import Derived.Test.YtmlbphmbffkdnaaGs08
import Derived.Test.YtmlbphmbffkdnaaGs19
import Derived.Test.YtmlbphmbffkdnaaGs21
namespace Go.Proofs.Ytmlbphmbffkdnaa
open Go.RowKit
set_option linter.unusedVariables false
set_option maxRecDepth 100000

/-- what was read of numbers that are written out is read of them wherever they lie so -/
theorem lit_any {w : World} {g j : Nat} {y : Int} {l : List Int} (h : w.cell? ⟨g, j, none⟩ = some (.int .i64 y)) (hl : Lits w g l) (hj : j < l.length) (W : World) (hW : Lits W g l) : W.cell? ⟨g, j, none⟩ = some (.int .i64 y) := by
  have e : ((l.map (Value.int .i64)).toArray)[j]? = some (.int .i64 l[j]) := by simp [hj]
  rw [hl j _ e] at h
  rw [hW j _ e]
  exact h

end Go.Proofs.Ytmlbphmbffkdnaa
namespace Go.Proofs.Ytmlbphmbffkdnaa
open Go.RowKit
set_option linter.unusedVariables false

/-- the model's answer: both roots are told only where the proof leads to them -/
def BothSpec (m n old : Int) (ps : List Int) (al : Bool) (w : World) (e : Ending) (w' : World) : Prop :=
  ∃ a b : Int, e = .returned (.tuple #[.int .i64 a, .int .i64 b, .bool (Tm.both m n old ps al).isSome]) ∧ (∀ x, Tm.both m n old ps al = some x → a = x.1 ∧ b = x.2) ∧ ∃ q, w' = w.drewN q

set_option maxHeartbeats 1600000 in
theorem c226 (k : Nat) : ∀ (ps : List Int) (m n old : Int) (al : Bool) (ao : Option Addr) (l cap : Nat) (w : World), ps.length = k → ps.length = l → l ≤ cap → k ≤ 1048576 → 1 ≤ m → m ≤ n → n ≤ 40 → Row w ao ps →
    Calls Try.prog 226 #[.int .i64 m, .int .i64 n, .int .i64 old, .slice ao l cap, .bool al] w (BothSpec m n old ps al w) := by
  induction k with
  | zero =>
    intro ps m n old al ao l cap w hk hl hcap hk2 m1 m2 n2 hr
    have hps : ps = [] := List.eq_nil_of_length_eq_zero hk
    subst hps
    have hl0 : l = 0 := by simpa using hl.symm
    subst hl0
    clear hr hk hl
    by_cases h2 : m = n
    · subst h2
      cases al
      · have HU := hide (Tm.both_nil_not (m := m) (n := m) (old := old) (alone := false) (by simp))
        go_enter Try.func226, Try.ntmps226
        go_wp2_with fail
        go_ret3
        refine ⟨0, 0, ?_, fun y hy => ?_, 0, rfl⟩
        · rw [unhide HU]; rfl
        · rw [unhide HU] at hy; cases hy
      · have HU := hide (Tm.both_nil_all (m := m) (n := m) (old := old) rfl)
        go_enter Try.func226, Try.ntmps226
        go_wp2_with fail
        go_ret3
        refine ⟨old, old, ?_, fun y hy => ?_, 0, rfl⟩
        · rw [unhide HU]; rfl
        · rw [unhide HU] at hy; cases hy; exact ⟨rfl, rfl⟩
    · have HU := hide (Tm.both_nil_not (m := m) (n := n) (old := old) (alone := al) (fun h => h2 h.1))
      have d0 : (m == n) = false := by rw [beq_eq_false_iff_ne]; exact h2
      clear h2
      go_enter Try.func226, Try.ntmps226
      go_wp2_with fail
      go_ret3
      refine ⟨0, 0, ?_, fun y hy => ?_, 0, rfl⟩
      · rw [unhide HU]; rfl
      · rw [unhide HU] at hy; cases hy
  | succ k ih =>
    intro ps m n old al ao l cap w hk hl hcap hk2 m1 m2 n2 hr
    have IH := hide ih
    have hsn := Tm.snoc_of hk
    have hlk : l = k + 1 := by omega
    subst hlk
    obtain ⟨b, off, rfl, hc⟩ := hr.2 (by intro e; subst e; simp at hk)
    have hcell := hc k (by omega)
    have hrt := hr.take k
    have htl : (ps.take k).length = k := by rw [List.length_take]; omega
    have HRT := hide hrt
    have HTL := hide htl
    generalize ps.getD k 0 = p at *
    generalize ps.take k = init at *
    subst hsn
    clear hr hrt htl hc hk hl ih
    have hlz : (((k + 1 : Nat) : Int) == 0) = false := by rw [beq_eq_false_iff_ne]; omega
    have hlz' : ((k : Int) + 1 == 0) = false := by rw [beq_eq_false_iff_ne]; omega
    by_cases h2 : m = n
    · subst h2
      cases al
      · by_cases hk0 : k = 0
        · subst hk0
          have hin : init = [] := List.eq_nil_of_length_eq_zero (unhide HTL)
          subst hin
          have HU := hide (Tm.both_one (m := m) (n := m) (old := old) (p := p) rfl)
          simp only [Nat.add_zero] at hcell
          go_enter Try.func226, Try.ntmps226
          go_wp2_with fail
          go_quiet (fail)
          go_wp2_with fail
          go_ret3
          refine ⟨p, p, ?_, fun y hy => ?_, _, rfl⟩
          · show _ = Ending.returned (.tuple #[.int .i64 p, .int .i64 p, .bool (Tm.both m m old [p] false).isSome]); rw [unhide HU]; rfl
          · have hy' : Tm.both m m old [p] false = some y := hy
            rw [unhide HU] at hy'; cases hy'; exact ⟨rfl, rfl⟩
        · have HU := hide (Tm.both_all_not (m := m) (n := m) (old := old) (p := p) (init := init) (alone := false) rfl (by rintro ⟨-, h⟩; have := unhide HTL; rw [h] at this; simp at this; omega))
          have d1 : (((k + 1 : Nat) : Int) != 1) = true := by rw [bne_iff_ne]; omega
          have d1' : ((k : Int) + 1 != 1) = true := by rw [bne_iff_ne]; omega
          have d1'' : ((k : Int) != 0) = true := by rw [bne_iff_ne]; omega
          go_enter Try.func226, Try.ntmps226
          go_wp2_with fail
          go_ret3
          refine ⟨0, 0, ?_, fun y hy => ?_, 0, rfl⟩
          · rw [unhide HU]; rfl
          · rw [unhide HU] at hy; cases hy
      · have HU := hide (Tm.both_all_not (m := m) (n := m) (old := old) (p := p) (init := init) (alone := true) rfl (by simp))
        go_enter Try.func226, Try.ntmps226
        go_wp2_with fail
        go_ret3
        refine ⟨old, old, ?_, fun y hy => ?_, 0, rfl⟩
        · rw [unhide HU]; rfl
        · rw [unhide HU] at hy; cases hy
    · have d0 : (m == n) = false := by rw [beq_eq_false_iff_ne]; exact h2
      have hs := Tm.split_bd (n := n) (by omega) n2
      have hts := Tm.treSplit_of (n := n) (by omega) n2
      obtain ⟨s1, s2, s3⟩ := hs
      by_cases hi : m ≤ Tm.split n
      · have HU := hide (Tm.both_left (old := old) (p := p) (init := init) (alone := al) h2 hi)
        generalize Tm.split n = sp at *
        go_enter Try.func226, Try.ntmps226
        go_wp2_with fail
        refine (c219 _ _).mono ?_
        rintro e w' ⟨rfl, rfl⟩
        rw [hts]
        clear hts
        go_wp2_with fail
        refine ((unhide IH) init _ _ old al _ k cap _ (unhide HTL) (unhide HTL) (by omega) (by omega) (by omega) (by omega) (by omega) (unhide HRT)).mono ?_
        rintro e w1 ⟨x, y, rfl, hx, q, rfl⟩
        have HX := hide hx
        clear hx
        go_wp2_with fail
        refine (c220 _ _ _).mono ?_
        rintro e w2 ⟨rfl, rfl⟩
        go_wp2_with fail
        go_ret3
        refine ⟨x, Tm.pair y p, ?_, fun z hz => ?_, _, rfl⟩
        · rw [unhide HU, Option.isSome_map]; rfl
        · rw [unhide HU, Option.map_eq_some_iff] at hz
          obtain ⟨u, hu, rfl⟩ := hz
          obtain ⟨r1, r2⟩ := unhide HX u hu
          rw [r1, r2]
          exact ⟨rfl, rfl⟩
      · have HU := hide (Tm.both_right (old := old) (p := p) (init := init) (alone := al) h2 hi)
        generalize Tm.split n = sp at *
        go_enter Try.func226, Try.ntmps226
        go_wp2_with fail
        refine (c219 _ _).mono ?_
        rintro e w' ⟨rfl, rfl⟩
        rw [hts]
        clear hts
        go_wp2_with fail
        refine ((unhide IH) init _ _ old false _ k cap _ (unhide HTL) (unhide HTL) (by omega) (by omega) (by omega) (by omega) (by omega) (unhide HRT)).mono ?_
        rintro e w1 ⟨x, y, rfl, hx, q, rfl⟩
        have HX := hide hx
        clear hx
        go_wp2_with fail
        refine (c220 _ _ _).mono ?_
        rintro e w2 ⟨rfl, rfl⟩
        go_wp2_with fail
        refine (c220 _ _ _).mono ?_
        rintro e w3 ⟨rfl, rfl⟩
        go_wp2_with fail
        go_ret3
        refine ⟨Tm.pair p x, Tm.pair p y, ?_, fun z hz => ?_, _, rfl⟩
        · rw [unhide HU, Option.isSome_map]; rfl
        · rw [unhide HU, Option.map_eq_some_iff] at hz
          obtain ⟨u, hu, rfl⟩ := hz
          obtain ⟨r1, r2⟩ := unhide HX u hu
          rw [r1, r2]
          exact ⟨rfl, rfl⟩

theorem conCheck_no {m old n root : Int} {ps : List Int} (h : ¬ (1 ≤ n ∧ n ≤ 40 ∧ 1 ≤ m ∧ m ≤ n ∧ Tm.okB old = true ∧ Tm.okB root = true ∧ Tm.treOk ps = true)) : Tm.conCheck m old n root ps = false := by unfold Tm.conCheck; rw [if_neg h]
theorem conCheck_of {m old n root : Int} {ps : List Int} (h : 1 ≤ n ∧ n ≤ 40 ∧ 1 ≤ m ∧ m ≤ n ∧ Tm.okB old = true ∧ Tm.okB root = true ∧ Tm.treOk ps = true) : Tm.conCheck m old n root ps = decide (Tm.both m n old ps true = some (old, root)) := by unfold Tm.conCheck; rw [if_pos h]

set_option maxHeartbeats 2000000 in
theorem c195 (ps : List Int) (m old n root : Int) (ao : Option Addr) (l cap : Nat) (w : World) (hl : ps.length = l) (hcap : l ≤ cap) (hb : l ≤ 1048576) (hr : Row w ao ps) :
    Calls Try.prog 195 #[.int .i64 m, .int .i64 old, .int .i64 n, .int .i64 root, .slice ao l cap] w fun e w' => e = .returned (.bool (Tm.conCheck m old n root ps)) ∧ ∃ q, w' = w.drewN q := by
  have HR := hide hr
  have HL := hide hl
  clear hr hl
  by_cases h1 : 1 ≤ n ∧ n ≤ 40
  · have d1 : decide (1 ≤ n ∧ n ≤ 40) = true := decide_eq_true h1
    by_cases h2 : 1 ≤ m ∧ m ≤ n
    · have d2 : decide (1 ≤ m ∧ m ≤ n) = true := decide_eq_true h2
      rcases h3 : Tm.okB old with _ | _
      · have HU := hide (conCheck_no (m := m) (old := old) (n := n) (root := root) (ps := ps) (by rw [h3]; simp))
        clear h1 h2
        go_enter Try.func195, Try.ntmps195
        go_wp2_with (first | (go_at_call 109; refine (c109 _ _ _ _).mono ?_; rintro e w' ⟨rfl, rfl⟩) | (go_at_call 158; refine (c158 _ _).mono ?_; rintro e w' ⟨rfl, rfl⟩))
        go_ret
        exact ⟨ret_bool (unhide HU).symm, 0, rfl⟩
      rcases h4 : Tm.okB root with _ | _
      · have HU := hide (conCheck_no (m := m) (old := old) (n := n) (root := root) (ps := ps) (by rw [h4]; simp))
        clear h1 h2
        go_enter Try.func195, Try.ntmps195
        go_wp2_with (first | (go_at_call 109; refine (c109 _ _ _ _).mono ?_; rintro e w' ⟨rfl, rfl⟩) | (go_at_call 158; refine (c158 _ _).mono ?_; rintro e w' ⟨rfl, rfl⟩))
        go_ret
        exact ⟨ret_bool (unhide HU).symm, 0, rfl⟩
      rcases h5 : Tm.treOk ps with _ | _
      · have HU := hide (conCheck_no (m := m) (old := old) (n := n) (root := root) (ps := ps) (by rw [h5]; simp))
        clear h1 h2
        go_enter Try.func195, Try.ntmps195
        go_wp2_with (first | (go_at_call 109; refine (c109 _ _ _ _).mono ?_; rintro e w' ⟨rfl, rfl⟩) | (go_at_call 158; refine (c158 _ _).mono ?_; rintro e w' ⟨rfl, rfl⟩) | (go_at_call 224; refine (c224 ps _ _ _ _ (unhide HL) (by omega) (unhide HR)).mono ?_; rintro e w' ⟨rfl, rfl⟩))
        go_ret
        exact ⟨ret_bool (unhide HU).symm, 0, rfl⟩
      have HU := hide (conCheck_of (m := m) (old := old) (n := n) (root := root) (ps := ps) ⟨h1.1, h1.2, h2.1, h2.2, h3, h4, h5⟩)
      obtain ⟨h1, h1'⟩ := h1
      obtain ⟨h2, h2'⟩ := h2
      go_enter Try.func195, Try.ntmps195
      go_wp2_with (first | (go_at_call 109; refine (c109 _ _ _ _).mono ?_; rintro e w' ⟨rfl, rfl⟩) | (go_at_call 158; refine (c158 _ _).mono ?_; rintro e w' ⟨rfl, rfl⟩) | (go_at_call 224; refine (c224 ps _ _ _ _ (unhide HL) (by omega) (unhide HR)).mono ?_; rintro e w' ⟨rfl, rfl⟩))
      refine (c226 ps.length ps m n old true _ _ _ _ rfl (unhide HL) hcap (by have := unhide HL; omega) h2 h2' h1' (unhide HR)).mono ?_
      rintro e w1 ⟨x, y, rfl, hx, q, rfl⟩
      have HX := hide hx
      clear hx
      rcases hu : Tm.both m n old ps true with _ | u
      · have Hu := hide hu
        clear hu
        simp only [Option.isSome_none]
        go_wp2_with fail
        go_ret
        exact ⟨ret_bool (by rw [unhide HU, unhide Hu]; rfl), q, rfl⟩
      · obtain ⟨r1, r2⟩ := unhide HX u hu
        subst r1 r2
        have Hu := hide hu
        clear hu
        simp only [Option.isSome_some]
        by_cases e1 : u.1 = old
        · have b1 : (u.1 == old) = true := by rw [beq_iff_eq]; exact e1
          have HV : Hid (decide (some u = some (old, root)) = (u.2 == root)) := by
            obtain ⟨u1, u2⟩ := u
            simp only at e1
            subst e1
            unfold Hid
            rw [Bool.eq_iff_iff]
            simp
          clear e1
          go_wp2_with fail
          go_ret
          exact ⟨ret_bool (by rw [unhide HU, unhide Hu, unhide HV]), q, rfl⟩
        · have b1 : (u.1 == old) = false := by rw [beq_eq_false_iff_ne]; exact e1
          have HV : Hid (decide (some u = some (old, root)) = false) := by
            obtain ⟨u1, u2⟩ := u
            simp only at e1
            unfold Hid
            rw [decide_eq_false_iff_not]
            intro h
            cases h
            exact e1 rfl
          clear e1
          go_wp2_with fail
          go_ret
          exact ⟨ret_bool (by rw [unhide HU, unhide Hu, unhide HV]), q, rfl⟩
    · have d2 : decide (1 ≤ m ∧ m ≤ n) = false := decide_eq_false h2
      have HU := hide (conCheck_no (m := m) (old := old) (n := n) (root := root) (ps := ps) (by intro h; exact h2 ⟨h.2.2.1, h.2.2.2.1⟩))
      clear h2 h1
      go_enter Try.func195, Try.ntmps195
      go_wp2_with (first | (go_at_call 109; refine (c109 _ _ _ _).mono ?_; rintro e w' ⟨rfl, rfl⟩) | (go_at_call 158; refine (c158 _ _).mono ?_; rintro e w' ⟨rfl, rfl⟩))
      go_ret
      exact ⟨ret_bool (unhide HU).symm, 0, rfl⟩
  · have d1 : decide (1 ≤ n ∧ n ≤ 40) = false := decide_eq_false h1
    have HU := hide (conCheck_no (m := m) (old := old) (n := n) (root := root) (ps := ps) (by intro h; exact h1 ⟨h.1, h.2.1⟩))
    clear h1
    go_enter Try.func195, Try.ntmps195
    go_wp2_with (first | (go_at_call 109; refine (c109 _ _ _ _).mono ?_; rintro e w' ⟨rfl, rfl⟩) | (go_at_call 158; refine (c158 _ _).mono ?_; rintro e w' ⟨rfl, rfl⟩))
    go_ret
    exact ⟨ret_bool (unhide HU).symm, 0, rfl⟩
end Go.Proofs.Ytmlbphmbffkdnaa
