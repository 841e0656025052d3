/-
  Texts of the proof, what it needs of them: Growc.
-/
import Derived.Test.YtmlbphmbffkdnaaGw36
import Derived.Test.YtmlbphmbffkdnaaGw37
namespace Go.Proofs.Ytmlbphmbffkdnaa
open Go.RowKit
set_option linter.unusedVariables false

/-- One step down a proof of growth, whichever side it goes to. -/
theorem Tm.both_step {m n : Nat} (h1 : 1 ≤ m) (h2 : m < n) (h3 : n ≤ 40) : ∃ (c a : Nat) (lb : Bool), stepOf n ((m : Int) - 1) = .agg #[.int .i64 (c : Int), .int .i64 (a : Int), .bool lb] ∧ a + 1 ≤ c ∧ c < n ∧
    ∀ (old p : Int) (init : List Int) (al : Bool), Tm.both m n old (init ++ [p]) al = (Tm.both ((a : Int) + 1) c old init (al && lb)).map (fun x => (if lb = true then x.1 else Tm.pair p x.1, if lb = true then Tm.pair x.2 p else Tm.pair p x.2)) := by
  have hs := Tm.split_bd (n := (n : Int)) (by omega) (by omega)
  obtain ⟨s, hse⟩ := Int.eq_ofNat_of_zero_le (show 0 ≤ Tm.split n by omega)
  by_cases hi : (m : Int) ≤ Tm.split n
  · refine ⟨s, m - 1, true, ?_, by omega, by omega, fun old p init al => ?_⟩
    · unfold stepOf; rw [if_pos (by omega), hse]; rw [show ((m - 1 : Nat) : Int) = (m : Int) - 1 by omega]
    · rw [Tm.both_left (by omega) hi, hse, show ((m - 1 : Nat) : Int) + 1 = (m : Int) by omega, Bool.and_true]; rfl
  · refine ⟨n - s, m - 1 - s, false, ?_, by omega, by omega, fun old p init al => ?_⟩
    · unfold stepOf; rw [if_neg (by omega), hse]; rw [show ((n - s : Nat) : Int) = (n : Int) - (s : Int) by omega, show ((m - 1 - s : Nat) : Int) = (m : Int) - 1 - (s : Int) by omega]
    · rw [Tm.both_right (by omega) hi, hse, show ((m - 1 - s : Nat) : Int) + 1 = (m : Int) - (s : Int) by omega, show ((n - s : Nat) : Int) = (n : Int) - (s : Int) by omega, Bool.and_false]; rfl

set_option maxHeartbeats 4000000 in
theorem c228 (k : Nat) : ∀ (ps : List Int) (m n : Nat) (old : Int) (al : Bool) (ao : Option Addr) (l cap : Nat) (w : World), ps.length = k → ps.length = l → l ≤ cap → k ≤ 40 → 1 ≤ m → m ≤ n → n ≤ 40 → Tm.okB old = true → Tm.okAll ps = true → Row w ao ps →
    Calls Try.prog 228 #[.agg #[.int .i64 old, .int .i64 old], .agg #[.int .i64 (m : Int), .int .i64 (n : Int), .bool al], .slice ao l cap] w (BothImpl m n old ps al w) := by
  induction k with
  | zero =>
    intro ps m n old al ao l cap w hk hl hcap hk2 m1 m2 n2 hold hall hr
    by_cases h2 : m = n
    · subst h2
      have HR := hide hr
      clear hr hall hold
      go_enter Try.func228, Try.ntmps228
      go_wp2_with fail
      have hb0 : Below _ _ (((w.alloc (.cells #[.int .i64 old, .int .i64 old] 227)).alloc (.cells #[.int .i64 (m : Int), .int .i64 (m : Int), .bool al] 231)).alloc (.cells #[.int .i64 0, .int .i64 0] 227)) := (below_alloc2 (below_alloc2 (below_alloc2 (Below.refl _ _))))
      have bA : Box (((w.alloc (.cells #[.int .i64 old, .int .i64 old] 227)).alloc (.cells #[.int .i64 (m : Int), .int .i64 (m : Int), .bool al] 231)).alloc (.cells #[.int .i64 0, .int .i64 0] 227)) (w.heap.size) [.int .i64 old, .int .i64 old] := by
        have h := ((box_new w [.int .i64 old, .int .i64 old] 227 (by simp [Value.oneCell'])).alloc (.cells #[.int .i64 (m : Int), .int .i64 (m : Int), .bool al] 231)).alloc (.cells #[.int .i64 0, .int .i64 0] 227)
        exact h
      have bB : Box (((w.alloc (.cells #[.int .i64 old, .int .i64 old] 227)).alloc (.cells #[.int .i64 (m : Int), .int .i64 (m : Int), .bool al] 231)).alloc (.cells #[.int .i64 0, .int .i64 0] 227)) (w.heap.size + 1) [.int .i64 (m : Int), .int .i64 (m : Int), .bool al] := by
        have h := (box_new (w.alloc (.cells #[.int .i64 old, .int .i64 old] 227)) [.int .i64 (m : Int), .int .i64 (m : Int), .bool al] 231 (by simp [Value.oneCell'])).alloc (.cells #[.int .i64 0, .int .i64 0] 227)
        rwa [World.size_alloc] at h
      have bC : Box (((w.alloc (.cells #[.int .i64 old, .int .i64 old] 227)).alloc (.cells #[.int .i64 (m : Int), .int .i64 (m : Int), .bool al] 231)).alloc (.cells #[.int .i64 0, .int .i64 0] 227)) (w.heap.size + 1 + 1) [.int .i64 0, .int .i64 0] := by
        have h := box_new ((w.alloc (.cells #[.int .i64 old, .int .i64 old] 227)).alloc (.cells #[.int .i64 (m : Int), .int .i64 (m : Int), .bool al] 231)) [.int .i64 0, .int .i64 0] 227 (by simp [Value.oneCell'])
        rwa [World.size_alloc, World.size_alloc] at h
      generalize (((w.alloc (.cells #[.int .i64 old, .int .i64 old] 227)).alloc (.cells #[.int .i64 (m : Int), .int .i64 (m : Int), .bool al] 231)).alloc (.cells #[.int .i64 0, .int .i64 0] 227)) = W0 at *
      refine (c245 _ _ _ _).mono ?_
      rintro e w1 ⟨rfl, hb1⟩
      have hw1 : w.heap.size + 1 + 1 < w1.heap.size := Nat.lt_of_lt_of_le bC.lt hb1.size
      have bA := bA.below hb1
      have bB := bB.below hb1
      have bC := bC.below hb1
      have HB1 := hide (below_then hb0 hb1)
      clear hb0 hb1
      have a0 := bA.cell 0 rfl; have a1 := bA.cell 1 rfl; have b0 := bB.cell 0 rfl; have b1 := bB.cell 1 rfl; have b2 := bB.cell 2 rfl; have c0 := bC.cell 0 rfl; have c1 := bC.cell 1 rfl; have z0 := bC.frozen 0 rfl; have z1 := bC.frozen 1 rfl
      have d0 : ((m : Int) == (m : Int)) = true := by rw [beq_iff_eq]
      have HRw := hide ((unhide HR).below (unhide HB1) (Nat.le_refl _))
      go_wp2_with fail
      refine (c246 _ old al ps _ _ _ _ hl hcap (by omega) (unhide HRw)).mono ?_
      rintro e w2 ⟨x, y, rfl, hx, hb2⟩
      have bC := bC.below hb2
      have HBc := below_then (unhide HB1) hb2
      clear hb2 a0 a1 b0 b1 b2 c0 c1 z0 z1
      have c0 := bC.cell 0 rfl; have c1 := bC.cell 1 rfl; have z0 := bC.frozen 0 rfl; have z1 := bC.frozen 1 rfl
      generalize hbo : (Tm.both (m : Int) m old ps al).isSome = bo at *
      have HBO := hide hbo
      have HX := hide hx
      clear hbo hx
      go_wp2_with fail
      clear c0 c1 z0 z1
      have hE : Box ((w2.setCell ⟨w.heap.size + 1 + 1, 0, none⟩ (.int .i64 x)).setCell ⟨w.heap.size + 1 + 1, 1, none⟩ (.int .i64 y)) (w.heap.size + 1 + 1) [.int .i64 x, .int .i64 y] := bC.store [.int .i64 x, .int .i64 y] rfl
      have hF : Below w.heap.size w ((w2.setCell ⟨w.heap.size + 1 + 1, 0, none⟩ (.int .i64 x)).setCell ⟨w.heap.size + 1 + 1, 1, none⟩ (.int .i64 y)) := below_putAll [.int .i64 x, .int .i64 y] 0 HBc (by omega)
      have t0 := hE.cell 0 rfl; have t1 := hE.cell 1 rfl
      skip
      generalize (w2.setCell ⟨w.heap.size + 1 + 1, 0, none⟩ (.int .i64 x)).setCell ⟨w.heap.size + 1 + 1, 1, none⟩ (.int .i64 y) = VV at *
      refine bodyPost_ret (v := .tuple #[.agg #[.int .i64 x, .int .i64 y], .bool bo]) (by simp [results, Try.results228, go_sem, t0, t1]) rfl ⟨x, y, ?_, ?_, hF⟩
      · rw [unhide HBO]
      · exact unhide HX
    · skip
      have hps : ps = [] := List.eq_nil_of_length_eq_zero hk
      subst hps
      have hl0 : l = 0 := by simpa using hl.symm
      subst hl0
      clear hr hk hl hall hold
      have HU := hide (Tm.both_nil_not (m := m) (n := n) (old := old) (alone := al) (fun h => by have := h.1; omega))
      have d0 : ((m : Int) == (n : Int)) = false := by rw [beq_eq_false_iff_ne]; omega
      go_enter Try.func228, Try.ntmps228
      go_wp2_with fail
      have hb0 : Below _ _ (((w.alloc (.cells #[.int .i64 old, .int .i64 old] 227)).alloc (.cells #[.int .i64 (m : Int), .int .i64 (n : Int), .bool al] 231)).alloc (.cells #[.int .i64 0, .int .i64 0] 227)) := (below_alloc2 (below_alloc2 (below_alloc2 (Below.refl _ _))))
      have bA : Box (((w.alloc (.cells #[.int .i64 old, .int .i64 old] 227)).alloc (.cells #[.int .i64 (m : Int), .int .i64 (n : Int), .bool al] 231)).alloc (.cells #[.int .i64 0, .int .i64 0] 227)) (w.heap.size) [.int .i64 old, .int .i64 old] := by
        have h := ((box_new w [.int .i64 old, .int .i64 old] 227 (by simp [Value.oneCell'])).alloc (.cells #[.int .i64 (m : Int), .int .i64 (n : Int), .bool al] 231)).alloc (.cells #[.int .i64 0, .int .i64 0] 227)
        exact h
      have bB : Box (((w.alloc (.cells #[.int .i64 old, .int .i64 old] 227)).alloc (.cells #[.int .i64 (m : Int), .int .i64 (n : Int), .bool al] 231)).alloc (.cells #[.int .i64 0, .int .i64 0] 227)) (w.heap.size + 1) [.int .i64 (m : Int), .int .i64 (n : Int), .bool al] := by
        have h := (box_new (w.alloc (.cells #[.int .i64 old, .int .i64 old] 227)) [.int .i64 (m : Int), .int .i64 (n : Int), .bool al] 231 (by simp [Value.oneCell'])).alloc (.cells #[.int .i64 0, .int .i64 0] 227)
        rwa [World.size_alloc] at h
      have bC : Box (((w.alloc (.cells #[.int .i64 old, .int .i64 old] 227)).alloc (.cells #[.int .i64 (m : Int), .int .i64 (n : Int), .bool al] 231)).alloc (.cells #[.int .i64 0, .int .i64 0] 227)) (w.heap.size + 1 + 1) [.int .i64 0, .int .i64 0] := by
        have h := box_new ((w.alloc (.cells #[.int .i64 old, .int .i64 old] 227)).alloc (.cells #[.int .i64 (m : Int), .int .i64 (n : Int), .bool al] 231)) [.int .i64 0, .int .i64 0] 227 (by simp [Value.oneCell'])
        rwa [World.size_alloc, World.size_alloc] at h
      generalize (((w.alloc (.cells #[.int .i64 old, .int .i64 old] 227)).alloc (.cells #[.int .i64 (m : Int), .int .i64 (n : Int), .bool al] 231)).alloc (.cells #[.int .i64 0, .int .i64 0] 227)) = W0 at *
      refine (c245 _ _ _ _).mono ?_
      rintro e w1 ⟨rfl, hb1⟩
      have hw1 : w.heap.size + 1 + 1 < w1.heap.size := Nat.lt_of_lt_of_le bC.lt hb1.size
      have bA := bA.below hb1
      have bB := bB.below hb1
      have bC := bC.below hb1
      have HB1 := hide (below_then hb0 hb1)
      clear hb0 hb1
      have a0 := bA.cell 0 rfl; have a1 := bA.cell 1 rfl; have b0 := bB.cell 0 rfl; have b1 := bB.cell 1 rfl; have b2 := bB.cell 2 rfl; have c0 := bC.cell 0 rfl; have c1 := bC.cell 1 rfl; have z0 := bC.frozen 0 rfl; have z1 := bC.frozen 1 rfl
      go_wp2_with fail
      have HBc := unhide HB1
      have hE : Box ((w1.setCell ⟨w.heap.size + 1 + 1, 0, none⟩ (.int .i64 0)).setCell ⟨w.heap.size + 1 + 1, 1, none⟩ (.int .i64 0)) (w.heap.size + 1 + 1) [.int .i64 0, .int .i64 0] := bC.store [.int .i64 0, .int .i64 0] rfl
      have hF : Below w.heap.size w ((w1.setCell ⟨w.heap.size + 1 + 1, 0, none⟩ (.int .i64 0)).setCell ⟨w.heap.size + 1 + 1, 1, none⟩ (.int .i64 0)) := below_putAll [.int .i64 0, .int .i64 0] 0 HBc (by omega)
      have t0 := hE.cell 0 rfl; have t1 := hE.cell 1 rfl
      clear a0 a1 b0 b1 b2 c0 c1 z0 z1
      generalize (w1.setCell ⟨w.heap.size + 1 + 1, 0, none⟩ (.int .i64 0)).setCell ⟨w.heap.size + 1 + 1, 1, none⟩ (.int .i64 0) = VV at *
      refine bodyPost_ret (v := .tuple #[.agg #[.int .i64 0, .int .i64 0], .bool false]) (by simp [results, Try.results228, go_sem, t0, t1]) rfl ⟨0, 0, ?_, ?_, hF⟩
      · rw [unhide HU]; rfl
      · intro x hx; rw [unhide HU] at hx; cases hx
  | succ k ih =>
    intro ps m n old al ao l cap w hk hl hcap hk2 m1 m2 n2 hold hall hr
    by_cases h2 : m = n
    · subst h2
      clear ih
      have HR := hide hr
      clear hr hall hold
      go_enter Try.func228, Try.ntmps228
      go_wp2_with fail
      have hb0 : Below _ _ (((w.alloc (.cells #[.int .i64 old, .int .i64 old] 227)).alloc (.cells #[.int .i64 (m : Int), .int .i64 (m : Int), .bool al] 231)).alloc (.cells #[.int .i64 0, .int .i64 0] 227)) := (below_alloc2 (below_alloc2 (below_alloc2 (Below.refl _ _))))
      have bA : Box (((w.alloc (.cells #[.int .i64 old, .int .i64 old] 227)).alloc (.cells #[.int .i64 (m : Int), .int .i64 (m : Int), .bool al] 231)).alloc (.cells #[.int .i64 0, .int .i64 0] 227)) (w.heap.size) [.int .i64 old, .int .i64 old] := by
        have h := ((box_new w [.int .i64 old, .int .i64 old] 227 (by simp [Value.oneCell'])).alloc (.cells #[.int .i64 (m : Int), .int .i64 (m : Int), .bool al] 231)).alloc (.cells #[.int .i64 0, .int .i64 0] 227)
        exact h
      have bB : Box (((w.alloc (.cells #[.int .i64 old, .int .i64 old] 227)).alloc (.cells #[.int .i64 (m : Int), .int .i64 (m : Int), .bool al] 231)).alloc (.cells #[.int .i64 0, .int .i64 0] 227)) (w.heap.size + 1) [.int .i64 (m : Int), .int .i64 (m : Int), .bool al] := by
        have h := (box_new (w.alloc (.cells #[.int .i64 old, .int .i64 old] 227)) [.int .i64 (m : Int), .int .i64 (m : Int), .bool al] 231 (by simp [Value.oneCell'])).alloc (.cells #[.int .i64 0, .int .i64 0] 227)
        rwa [World.size_alloc] at h
      have bC : Box (((w.alloc (.cells #[.int .i64 old, .int .i64 old] 227)).alloc (.cells #[.int .i64 (m : Int), .int .i64 (m : Int), .bool al] 231)).alloc (.cells #[.int .i64 0, .int .i64 0] 227)) (w.heap.size + 1 + 1) [.int .i64 0, .int .i64 0] := by
        have h := box_new ((w.alloc (.cells #[.int .i64 old, .int .i64 old] 227)).alloc (.cells #[.int .i64 (m : Int), .int .i64 (m : Int), .bool al] 231)) [.int .i64 0, .int .i64 0] 227 (by simp [Value.oneCell'])
        rwa [World.size_alloc, World.size_alloc] at h
      generalize (((w.alloc (.cells #[.int .i64 old, .int .i64 old] 227)).alloc (.cells #[.int .i64 (m : Int), .int .i64 (m : Int), .bool al] 231)).alloc (.cells #[.int .i64 0, .int .i64 0] 227)) = W0 at *
      refine (c245 _ _ _ _).mono ?_
      rintro e w1 ⟨rfl, hb1⟩
      have hw1 : w.heap.size + 1 + 1 < w1.heap.size := Nat.lt_of_lt_of_le bC.lt hb1.size
      have bA := bA.below hb1
      have bB := bB.below hb1
      have bC := bC.below hb1
      have HB1 := hide (below_then hb0 hb1)
      clear hb0 hb1
      have a0 := bA.cell 0 rfl; have a1 := bA.cell 1 rfl; have b0 := bB.cell 0 rfl; have b1 := bB.cell 1 rfl; have b2 := bB.cell 2 rfl; have c0 := bC.cell 0 rfl; have c1 := bC.cell 1 rfl; have z0 := bC.frozen 0 rfl; have z1 := bC.frozen 1 rfl
      have d0 : ((m : Int) == (m : Int)) = true := by rw [beq_iff_eq]
      have HRw := hide ((unhide HR).below (unhide HB1) (Nat.le_refl _))
      go_wp2_with fail
      refine (c246 _ old al ps _ _ _ _ hl hcap (by omega) (unhide HRw)).mono ?_
      rintro e w2 ⟨x, y, rfl, hx, hb2⟩
      have bC := bC.below hb2
      have HBc := below_then (unhide HB1) hb2
      clear hb2 a0 a1 b0 b1 b2 c0 c1 z0 z1
      have c0 := bC.cell 0 rfl; have c1 := bC.cell 1 rfl; have z0 := bC.frozen 0 rfl; have z1 := bC.frozen 1 rfl
      generalize hbo : (Tm.both (m : Int) m old ps al).isSome = bo at *
      have HBO := hide hbo
      have HX := hide hx
      clear hbo hx
      go_wp2_with fail
      clear c0 c1 z0 z1
      have hE : Box ((w2.setCell ⟨w.heap.size + 1 + 1, 0, none⟩ (.int .i64 x)).setCell ⟨w.heap.size + 1 + 1, 1, none⟩ (.int .i64 y)) (w.heap.size + 1 + 1) [.int .i64 x, .int .i64 y] := bC.store [.int .i64 x, .int .i64 y] rfl
      have hF : Below w.heap.size w ((w2.setCell ⟨w.heap.size + 1 + 1, 0, none⟩ (.int .i64 x)).setCell ⟨w.heap.size + 1 + 1, 1, none⟩ (.int .i64 y)) := below_putAll [.int .i64 x, .int .i64 y] 0 HBc (by omega)
      have t0 := hE.cell 0 rfl; have t1 := hE.cell 1 rfl
      skip
      generalize (w2.setCell ⟨w.heap.size + 1 + 1, 0, none⟩ (.int .i64 x)).setCell ⟨w.heap.size + 1 + 1, 1, none⟩ (.int .i64 y) = VV at *
      refine bodyPost_ret (v := .tuple #[.agg #[.int .i64 x, .int .i64 y], .bool bo]) (by simp [results, Try.results228, go_sem, t0, t1]) rfl ⟨x, y, ?_, ?_, hF⟩
      · rw [unhide HBO]
      · exact unhide HX
    · have IH := hide ih
      have hsn := Tm.snoc_of hk
      have hlk : l = k + 1 := by omega
      subst hlk
      obtain ⟨b, off, rfl, hc⟩ := hr.2 (by intro e; subst e; simp at hk)
      have hcell := hc k (by omega)
      have HRT := hide (hr.take k)
      have HTL := hide (show (ps.take k).length = k by rw [List.length_take]; omega)
      have HPO := hide (Tm.okAll_at hall (k := k) (by omega))
      have HAI := hide (Tm.okAll_take hall k)
      have HOld := hide hold
      obtain ⟨c, a, lb, hst, hac, hcn, hU⟩ := Tm.both_step (m := m) (n := n) m1 (by omega) n2
      have HST := hide hst
      have HU := hide hU
      generalize ps.getD k 0 = p at *
      generalize ps.take k = init at *
      subst hsn
      have HC := hide hcell
      have HBLT : Hid (b < w.heap.size) := World.block_lt_of_cell? w _ hcell
      clear hr hc hk hl ih hcell hall hold hst hU
      have hlz : (((k + 1 : Nat) : Int) == 0) = false := by rw [beq_eq_false_iff_ne]; omega
      have hlz' : ((k : Int) + 1 == 0) = false := by rw [beq_eq_false_iff_ne]; omega
      have d0 : ((m : Int) == (n : Int)) = false := by rw [beq_eq_false_iff_ne]; omega
      go_enter Try.func228, Try.ntmps228
      go_wp2_with fail
      have hb0 : Below _ _ (((w.alloc (.cells #[.int .i64 old, .int .i64 old] 227)).alloc (.cells #[.int .i64 (m : Int), .int .i64 (n : Int), .bool al] 231)).alloc (.cells #[.int .i64 0, .int .i64 0] 227)) := (below_alloc2 (below_alloc2 (below_alloc2 (Below.refl _ _))))
      have bA : Box (((w.alloc (.cells #[.int .i64 old, .int .i64 old] 227)).alloc (.cells #[.int .i64 (m : Int), .int .i64 (n : Int), .bool al] 231)).alloc (.cells #[.int .i64 0, .int .i64 0] 227)) (w.heap.size) [.int .i64 old, .int .i64 old] := by
        have h := ((box_new w [.int .i64 old, .int .i64 old] 227 (by simp [Value.oneCell'])).alloc (.cells #[.int .i64 (m : Int), .int .i64 (n : Int), .bool al] 231)).alloc (.cells #[.int .i64 0, .int .i64 0] 227)
        exact h
      have bB : Box (((w.alloc (.cells #[.int .i64 old, .int .i64 old] 227)).alloc (.cells #[.int .i64 (m : Int), .int .i64 (n : Int), .bool al] 231)).alloc (.cells #[.int .i64 0, .int .i64 0] 227)) (w.heap.size + 1) [.int .i64 (m : Int), .int .i64 (n : Int), .bool al] := by
        have h := (box_new (w.alloc (.cells #[.int .i64 old, .int .i64 old] 227)) [.int .i64 (m : Int), .int .i64 (n : Int), .bool al] 231 (by simp [Value.oneCell'])).alloc (.cells #[.int .i64 0, .int .i64 0] 227)
        rwa [World.size_alloc] at h
      have bC : Box (((w.alloc (.cells #[.int .i64 old, .int .i64 old] 227)).alloc (.cells #[.int .i64 (m : Int), .int .i64 (n : Int), .bool al] 231)).alloc (.cells #[.int .i64 0, .int .i64 0] 227)) (w.heap.size + 1 + 1) [.int .i64 0, .int .i64 0] := by
        have h := box_new ((w.alloc (.cells #[.int .i64 old, .int .i64 old] 227)).alloc (.cells #[.int .i64 (m : Int), .int .i64 (n : Int), .bool al] 231)) [.int .i64 0, .int .i64 0] 227 (by simp [Value.oneCell'])
        rwa [World.size_alloc, World.size_alloc] at h
      generalize (((w.alloc (.cells #[.int .i64 old, .int .i64 old] 227)).alloc (.cells #[.int .i64 (m : Int), .int .i64 (n : Int), .bool al] 231)).alloc (.cells #[.int .i64 0, .int .i64 0] 227)) = W0 at *
      refine (c245 _ _ _ _).mono ?_
      rintro e w1 ⟨rfl, hb1⟩
      have hw1 : w.heap.size + 1 + 1 < w1.heap.size := Nat.lt_of_lt_of_le bC.lt hb1.size
      have bA := bA.below hb1
      have bB := bB.below hb1
      have bC := bC.below hb1
      have HB1 := hide (below_then hb0 hb1)
      clear hb0 hb1
      have a0 := bA.cell 0 rfl; have a1 := bA.cell 1 rfl; have b0 := bB.cell 0 rfl; have b1 := bB.cell 1 rfl; have b2 := bB.cell 2 rfl; have c0 := bC.cell 0 rfl; have c1 := bC.cell 1 rfl; have z0 := bC.frozen 0 rfl; have z1 := bC.frozen 1 rfl
      go_wp2_with fail
      refine (c247 m n c a al lb _ m1 (by omega) n2 (by omega) (unhide HST)).mono ?_
      rintro e w3 ⟨rfl, hb3⟩
      have hw3 := Nat.lt_of_lt_of_le hw1 hb3.size
      have bA := bA.below hb3
      have bC := bC.below hb3
      have HB3 := hide (below_then (unhide HB1) hb3)
      clear a0 a1 b0 b1 b2 c0 c1 z0 z1 hb3 bB HB1
      generalize hal : (al && lb) = al' at *
      have HAL := hide hal
      clear hal
      go_wp2_with fail
      have hb3' := unhide HB3
      have bA := (bA.alloc (.cells #[.int .i64 (c : Int), .int .i64 (a : Int), .bool lb] 238)).alloc (.cells #[.int .i64 ((a : Int) + 1), .int .i64 (c : Int), .bool al'] 231)
      have bC := (bC.alloc (.cells #[.int .i64 (c : Int), .int .i64 (a : Int), .bool lb] 238)).alloc (.cells #[.int .i64 ((a : Int) + 1), .int .i64 (c : Int), .bool al'] 231)
      have hb4 : Below _ _ ((w3.alloc (.cells #[.int .i64 (c : Int), .int .i64 (a : Int), .bool lb] 238)).alloc (.cells #[.int .i64 ((a : Int) + 1), .int .i64 (c : Int), .bool al'] 231)) := (below_alloc2 (below_alloc2 hb3'))
      have bS : Box ((w3.alloc (.cells #[.int .i64 (c : Int), .int .i64 (a : Int), .bool lb] 238)).alloc (.cells #[.int .i64 ((a : Int) + 1), .int .i64 (c : Int), .bool al'] 231)) (w3.heap.size) [.int .i64 (c : Int), .int .i64 (a : Int), .bool lb] := by
        have h := (box_new w3 [.int .i64 (c : Int), .int .i64 (a : Int), .bool lb] 238 (by simp [Value.oneCell'])).alloc (.cells #[.int .i64 ((a : Int) + 1), .int .i64 (c : Int), .bool al'] 231)
        exact h
      have bT : Box ((w3.alloc (.cells #[.int .i64 (c : Int), .int .i64 (a : Int), .bool lb] 238)).alloc (.cells #[.int .i64 ((a : Int) + 1), .int .i64 (c : Int), .bool al'] 231)) (w3.heap.size + 1) [.int .i64 ((a : Int) + 1), .int .i64 (c : Int), .bool al'] := by
        have h := box_new (w3.alloc (.cells #[.int .i64 (c : Int), .int .i64 (a : Int), .bool lb] 238)) [.int .i64 ((a : Int) + 1), .int .i64 (c : Int), .bool al'] 231 (by simp [Value.oneCell'])
        rwa [World.size_alloc] at h
      generalize ((w3.alloc (.cells #[.int .i64 (c : Int), .int .i64 (a : Int), .bool lb] 238)).alloc (.cells #[.int .i64 ((a : Int) + 1), .int .i64 (c : Int), .bool al'] 231)) = W at *
      have HBW := hide hb4
      have HRW := hide ((unhide HRT).below hb4 (Nat.le_refl _))
      have HCW := hide (cell_below hb4 (unhide HC))
      clear hb4 hb3' HB3 HRT HC
      have HI : Hid (∀ w' : World, Row w' (some ⟨b, off, none⟩) init → Calls Try.prog 228 #[.agg #[.int .i64 old, .int .i64 old], .agg #[.int .i64 ((a : Int) + 1), .int .i64 (c : Int), .bool al'], .slice (some ⟨b, off, none⟩) k cap] w' (BothImpl ((a : Int) + 1) c old init al' w')) := by
        intro w' hr'
        exact (unhide IH) init (a + 1) c old al' _ k cap w' (unhide HTL) (unhide HTL) (by omega) (by omega) (by omega) hac (by omega) (unhide HOld) (unhide HAI) hr'
      clear IH
      generalize hbo : (Tm.both ((a : Int) + 1) c old init al').isSome = bo
      have HBO := hide hbo
      clear hbo
      have k0 : (0 : Int) ≤ (k : Int) := by omega
      have k1 : (k : Int) ≤ (cap : Int) := by omega
      have hkk : (k : Int) < (k : Int) + 1 := by omega
      refine wp_mid (β := Nat × Int × Int) (fun q w' => Below W.heap.size W w' ∧ Box w' q.1 [.int .i64 q.2.1, .int .i64 q.2.2] ∧ W.heap.size ≤ q.1 ∧ Hid (∀ u, Tm.both ((a : Int) + 1) c old init al' = some u → q.2.1 = u.1 ∧ q.2.2 = u.2)) (fun A q => A.put (some 34) (.agg #[.int .i64 old, .int .i64 old]) |>.put (some 35) (.agg #[.int .i64 ((a : Int) + 1), .int .i64 (c : Int), .bool al']) |>.put (some 36) (.slice (some ⟨b, off, none⟩) (k + 1) cap) |>.put (some 37) (.int .i64 (k : Int)) |>.put (some 38) (.slice (some ⟨b, off, none⟩) k cap) |>.put (some 39) (.tuple #[.agg #[.int .i64 q.2.1, .int .i64 q.2.2], .bool bo]) |>.put (some 33) (.tuple #[.agg #[.int .i64 q.2.1, .int .i64 q.2.2], .bool bo]) |>.put (some 40) (.agg #[.int .i64 q.2.1, .int .i64 q.2.2]) |>.put (some 41) (.bool bo) |>.put (some 11) (.pointer (some ⟨q.1, 0, none⟩)) |>.put (some 12) (.bool bo)) ?_ ?_
      · refine wp_region_held_drew (S := fun w' => Below W.heap.size W w') (by kernel_rfl) (below_drew W) (fun hHeld => ?_)
        refine wpAnyH_take (i := 0) (oi := { dst := some 34, op := _, type := _, pos := _, after := _, guard := _ }) (v := ?_) rfl (by kernel_rfl) (by kernel_rfl) (by kernel_rfl) (fun _ _ _ h => by cases h.1) (Or.inl ⟨by rfl, ?_⟩) (by assumption) ?_
        rotate_left
        · intro w hSw
          have hA := bA.below hSw; have hT := bT.below hSw; have q0 := hA.cell 0 rfl; have q1 := hA.cell 1 rfl; have r0 := hT.cell 0 rfl; have r1 := hT.cell 1 rfl; have r2 := hT.cell 2 rfl
          first | (go_simp; done) | (go_simp; with_reducible rfl)
        try simp only [Act.put, List.setIfInBounds_toArray, List.set_cons_zero, List.set_cons_succ]
        refine wpAnyH_take (i := 1) (oi := { dst := some 35, op := _, type := _, pos := _, after := _, guard := _ }) (v := ?_) rfl (by kernel_rfl) (by kernel_rfl) (by kernel_rfl) (fun _ _ _ h => by cases h.1) (Or.inl ⟨by rfl, ?_⟩) (by assumption) ?_
        rotate_left
        · intro w hSw
          have hA := bA.below hSw; have hT := bT.below hSw; have q0 := hA.cell 0 rfl; have q1 := hA.cell 1 rfl; have r0 := hT.cell 0 rfl; have r1 := hT.cell 1 rfl; have r2 := hT.cell 2 rfl
          first | (go_simp; done) | (go_simp; with_reducible rfl)
        try simp only [Act.put, List.setIfInBounds_toArray, List.set_cons_zero, List.set_cons_succ]
        refine wpAnyH_take (i := 2) (oi := { dst := some 36, op := _, type := _, pos := _, after := _, guard := _ }) (v := ?_) rfl (by kernel_rfl) (by kernel_rfl) (by kernel_rfl) (fun _ _ _ h => by cases h.1) (Or.inl ⟨by rfl, ?_⟩) (by assumption) ?_
        rotate_left
        · intro w hSw
          first | (go_simp; done) | (go_simp; with_reducible rfl)
        try simp only [Act.put, List.setIfInBounds_toArray, List.set_cons_zero, List.set_cons_succ]
        refine wpAnyH_take (i := 3) (oi := { dst := some 37, op := _, type := _, pos := _, after := _, guard := _ }) (v := ?_) rfl (by kernel_rfl) (by kernel_rfl) (by kernel_rfl) (fun _ _ _ h => by cases h.1) (Or.inl ⟨by rfl, ?_⟩) (by assumption) ?_
        rotate_left
        · intro w hSw
          first | (go_simp; done) | (go_simp; with_reducible rfl)
        try simp only [Act.put, List.setIfInBounds_toArray, List.set_cons_zero, List.set_cons_succ]
        refine wpAnyH_take (i := 4) (oi := { dst := some 38, op := _, type := _, pos := _, after := _, guard := _ }) (v := ?_) rfl (by kernel_rfl) (by kernel_rfl) (by kernel_rfl) (fun _ _ _ h => by cases h.1) (Or.inl ⟨by rfl, ?_⟩) (by assumption) ?_
        rotate_left
        · intro w hSw
          first | (go_simp; done) | (go_simp; with_reducible rfl)
        try simp only [Act.put, List.setIfInBounds_toArray, List.set_cons_zero, List.set_cons_succ]
        have HB := below_drew W
        generalize W.drew = V0 at *
        refine wpAnyH_ready (rs := [5, 9]) (by kernel_rfl) (by simp) ?_
        refine AllReadyH.cons (o := { dst := some 39, op := _, type := _, pos := _, after := _, guard := _ }) rfl (fun K hK => ?_) ?_
        · go_simp
          go_at_call 228
          refine (unhide HI _ ((unhide HRW).below HB (Nat.le_refl _))).mono ?_
          rintro e v1 ⟨x, y, rfl, hx, hbn⟩
          rw [unhide HBO]
          have HXY := hide hx
          clear hx
          have HB := below_then HB hbn
          clear hbn
          try go_wp2_with fail
          refine hK.out _ _ HB (fun hHeld => ?_)
          clear hK K hHeld
          try simp only [Act.put, List.setIfInBounds_toArray, List.set_cons_zero, List.set_cons_succ]
          refine wpAnyH_take (i := 6) (oi := { dst := some 33, op := _, type := _, pos := _, after := _, guard := _ }) (v := ?_) rfl (by kernel_rfl) (by kernel_rfl) (by kernel_rfl) (fun _ _ _ h => by cases h.1) (Or.inl ⟨by rfl, ?_⟩) (by assumption) ?_
          rotate_left
          · intro w hSw
            first | (go_simp; done) | (go_simp; with_reducible rfl)
          try simp only [Act.put, List.setIfInBounds_toArray, List.set_cons_zero, List.set_cons_succ]
          refine wpAnyH_take (i := 7) (oi := { dst := some 40, op := _, type := _, pos := _, after := _, guard := _ }) (v := ?_) rfl (by kernel_rfl) (by kernel_rfl) (by kernel_rfl) (fun _ _ _ h => by cases h.1) (Or.inl ⟨by rfl, ?_⟩) (by assumption) ?_
          rotate_left
          · intro w hSw
            first | (go_simp; done) | (go_simp; with_reducible rfl)
          try simp only [Act.put, List.setIfInBounds_toArray, List.set_cons_zero, List.set_cons_succ]
          refine wpAnyH_take (i := 8) (oi := { dst := some 41, op := _, type := _, pos := _, after := _, guard := _ }) (v := ?_) rfl (by kernel_rfl) (by kernel_rfl) (by kernel_rfl) (fun _ _ _ h => by cases h.1) (Or.inl ⟨by rfl, ?_⟩) (by assumption) ?_
          rotate_left
          · intro w hSw
            first | (go_simp; done) | (go_simp; with_reducible rfl)
          try simp only [Act.put, List.setIfInBounds_toArray, List.set_cons_zero, List.set_cons_succ]
          refine wpAnyH_ready (rs := [9]) (by kernel_rfl) (by simp) ?_
          refine AllReadyH.cons (o := { dst := some 11, op := _, type := _, pos := _, after := _, guard := _ }) rfl (fun K hK => ?_) ?_
          · go_simp
            refine hK.out _ _ (below_alloc2 HB) (fun hHeld => ?_)
            clear hK K hHeld
            try simp only [Act.put, List.setIfInBounds_toArray, List.set_cons_zero, List.set_cons_succ]
            have fA : Box (v1.alloc (.cells #[.int .i64 0, .int .i64 0] 227)) v1.heap.size [.int .i64 0, .int .i64 0] := box_new v1 [.int .i64 0, .int .i64 0] 227 (by simp [Value.oneCell'])
            have hga := HB.size
            have HB := below_alloc2 (o := .cells #[.int .i64 0, .int .i64 0] 227) HB
            generalize v1.alloc (.cells #[.int .i64 0, .int .i64 0] 227) = v2 at *
            generalize v1.heap.size = ga at *
            refine wpAnyH_ready (rs := [10]) (by kernel_rfl) (by simp) ?_
            have q0 := fA.cell 0 rfl; have q1 := fA.cell 1 rfl; have z0 := fA.frozen 0 rfl; have z1 := fA.frozen 1 rfl
            refine AllReadyH.cons (o := { dst := none, op := _, type := _, pos := _, after := _, guard := _ }) rfl (fun K hK => ?_) AllReadyH.nil
            go_simp
            have ef : Box ((v2.setCell ⟨ga, 0, none⟩ (.int .i64 x)).setCell ⟨ga, 1, none⟩ (.int .i64 y)) ga [.int .i64 x, .int .i64 y] := fA.store [.int .i64 x, .int .i64 y] rfl
            have eb : Below W.heap.size W ((v2.setCell ⟨ga, 0, none⟩ (.int .i64 x)).setCell ⟨ga, 1, none⟩ (.int .i64 y)) := below_putAll [.int .i64 x, .int .i64 y] 0 HB hga
            refine hK.out _ _ eb (fun hHeld => ?_)
            clear hK K hHeld
            try simp only [Act.put, List.setIfInBounds_toArray, List.set_cons_zero, List.set_cons_succ]
            refine wpAnyH_take (i := 11) (oi := { dst := some 12, op := _, type := _, pos := _, after := _, guard := _ }) (v := ?_) rfl (by kernel_rfl) (by kernel_rfl) (by kernel_rfl) (fun _ _ _ h => by cases h.1) (Or.inl ⟨by rfl, ?_⟩) (by assumption) ?_
            rotate_left
            · intro w hSw
              first | (go_simp; done) | (go_simp; with_reducible rfl)
            try simp only [Act.put, List.setIfInBounds_toArray, List.set_cons_zero, List.set_cons_succ]
            exact wpAnyH_done (by kernel_rfl) ⟨rfl, (ga, x, y), rfl, eb, ef, hga, HXY⟩ _
          exact AllReadyH.nil
        refine AllReadyH.cons (o := { dst := some 11, op := _, type := _, pos := _, after := _, guard := _ }) rfl (fun K hK => ?_) ?_
        · go_simp
          refine hK.out _ _ (below_alloc2 HB) (fun hHeld => ?_)
          clear hK K hHeld
          try simp only [Act.put, List.setIfInBounds_toArray, List.set_cons_zero, List.set_cons_succ]
          have fA : Box (V0.alloc (.cells #[.int .i64 0, .int .i64 0] 227)) V0.heap.size [.int .i64 0, .int .i64 0] := box_new V0 [.int .i64 0, .int .i64 0] 227 (by simp [Value.oneCell'])
          have hga := HB.size
          have HB := below_alloc2 (o := .cells #[.int .i64 0, .int .i64 0] 227) HB
          generalize V0.alloc (.cells #[.int .i64 0, .int .i64 0] 227) = v3 at *
          generalize V0.heap.size = ga at *
          refine wpAnyH_ready (rs := [5]) (by kernel_rfl) (by simp) ?_
          refine AllReadyH.cons (o := { dst := some 39, op := _, type := _, pos := _, after := _, guard := _ }) rfl (fun K hK => ?_) ?_
          · go_simp
            go_at_call 228
            refine (unhide HI _ ((unhide HRW).below HB (Nat.le_refl _))).mono ?_
            rintro e v4 ⟨x, y, rfl, hx, hbn⟩
            rw [unhide HBO]
            have HXY := hide hx
            clear hx
            have HB := below_then HB hbn
            have fA := fA.below hbn
            clear hbn
            try go_wp2_with fail
            refine hK.out _ _ HB (fun hHeld => ?_)
            clear hK K hHeld
            try simp only [Act.put, List.setIfInBounds_toArray, List.set_cons_zero, List.set_cons_succ]
            refine wpAnyH_take (i := 6) (oi := { dst := some 33, op := _, type := _, pos := _, after := _, guard := _ }) (v := ?_) rfl (by kernel_rfl) (by kernel_rfl) (by kernel_rfl) (fun _ _ _ h => by cases h.1) (Or.inl ⟨by rfl, ?_⟩) (by assumption) ?_
            rotate_left
            · intro w hSw
              first | (go_simp; done) | (go_simp; with_reducible rfl)
            try simp only [Act.put, List.setIfInBounds_toArray, List.set_cons_zero, List.set_cons_succ]
            refine wpAnyH_take (i := 7) (oi := { dst := some 40, op := _, type := _, pos := _, after := _, guard := _ }) (v := ?_) rfl (by kernel_rfl) (by kernel_rfl) (by kernel_rfl) (fun _ _ _ h => by cases h.1) (Or.inl ⟨by rfl, ?_⟩) (by assumption) ?_
            rotate_left
            · intro w hSw
              first | (go_simp; done) | (go_simp; with_reducible rfl)
            try simp only [Act.put, List.setIfInBounds_toArray, List.set_cons_zero, List.set_cons_succ]
            refine wpAnyH_take (i := 8) (oi := { dst := some 41, op := _, type := _, pos := _, after := _, guard := _ }) (v := ?_) rfl (by kernel_rfl) (by kernel_rfl) (by kernel_rfl) (fun _ _ _ h => by cases h.1) (Or.inl ⟨by rfl, ?_⟩) (by assumption) ?_
            rotate_left
            · intro w hSw
              first | (go_simp; done) | (go_simp; with_reducible rfl)
            try simp only [Act.put, List.setIfInBounds_toArray, List.set_cons_zero, List.set_cons_succ]
            refine wpAnyH_ready (rs := [10]) (by kernel_rfl) (by simp) ?_
            have q0 := fA.cell 0 rfl; have q1 := fA.cell 1 rfl; have z0 := fA.frozen 0 rfl; have z1 := fA.frozen 1 rfl
            refine AllReadyH.cons (o := { dst := none, op := _, type := _, pos := _, after := _, guard := _ }) rfl (fun K hK => ?_) AllReadyH.nil
            go_simp
            have ef : Box ((v4.setCell ⟨ga, 0, none⟩ (.int .i64 x)).setCell ⟨ga, 1, none⟩ (.int .i64 y)) ga [.int .i64 x, .int .i64 y] := fA.store [.int .i64 x, .int .i64 y] rfl
            have eb : Below W.heap.size W ((v4.setCell ⟨ga, 0, none⟩ (.int .i64 x)).setCell ⟨ga, 1, none⟩ (.int .i64 y)) := below_putAll [.int .i64 x, .int .i64 y] 0 HB hga
            refine hK.out _ _ eb (fun hHeld => ?_)
            clear hK K hHeld
            try simp only [Act.put, List.setIfInBounds_toArray, List.set_cons_zero, List.set_cons_succ]
            refine wpAnyH_take (i := 11) (oi := { dst := some 12, op := _, type := _, pos := _, after := _, guard := _ }) (v := ?_) rfl (by kernel_rfl) (by kernel_rfl) (by kernel_rfl) (fun _ _ _ h => by cases h.1) (Or.inl ⟨by rfl, ?_⟩) (by assumption) ?_
            rotate_left
            · intro w hSw
              first | (go_simp; done) | (go_simp; with_reducible rfl)
            try simp only [Act.put, List.setIfInBounds_toArray, List.set_cons_zero, List.set_cons_succ]
            exact wpAnyH_done (by kernel_rfl) ⟨rfl, (ga, x, y), rfl, eb, ef, hga, HXY⟩ _
          exact AllReadyH.nil
        exact AllReadyH.nil
      · rintro ⟨ga, x, y⟩ w4 ⟨hb4, fA, hga, HXY⟩
        simp only at fA hga HXY
        simp only [Act.put, List.setIfInBounds_toArray, List.set_cons_zero, List.set_cons_succ, Exit.then]
        have hltC := bC.lt
        have hltS := bS.lt
        have bC := bC.below hb4
        have bS := bS.below hb4
        have HBc := below_then (unhide HBW) hb4
        have hcp := cell_below hb4 (unhide HCW)
        clear hb4 bA bT HBW HRW HCW HI
        have hss : w.heap.size + 1 + 1 < w3.heap.size := hw3
        rcases hu : Tm.both ((a : Int) + 1) c old init al' with _ | u
        · have hbo := unhide HBO
          rw [hu] at hbo
          simp only [Option.isSome_none] at hbo
          subst hbo
          have HN : Hid (Tm.both m n old (init ++ [p]) al = none) := by
            unfold Hid; rw [unhide HU, unhide HAL, hu]; rfl
          have c0 := bC.cell 0 rfl; have c1 := bC.cell 1 rfl; have z0 := bC.frozen 0 rfl; have z1 := bC.frozen 1 rfl
          clear hu hcp HXY
          go_wp2_with fail
          clear c0 c1 z0 z1
          have hE : Box ((w4.setCell ⟨w.heap.size + 1 + 1, 0, none⟩ (.int .i64 0)).setCell ⟨w.heap.size + 1 + 1, 1, none⟩ (.int .i64 0)) (w.heap.size + 1 + 1) [.int .i64 0, .int .i64 0] := bC.store [.int .i64 0, .int .i64 0] rfl
          have hF : Below w.heap.size w ((w4.setCell ⟨w.heap.size + 1 + 1, 0, none⟩ (.int .i64 0)).setCell ⟨w.heap.size + 1 + 1, 1, none⟩ (.int .i64 0)) := below_putAll [.int .i64 0, .int .i64 0] 0 HBc (by omega)
          have t0 := hE.cell 0 rfl; have t1 := hE.cell 1 rfl
          skip
          generalize (w4.setCell ⟨w.heap.size + 1 + 1, 0, none⟩ (.int .i64 0)).setCell ⟨w.heap.size + 1 + 1, 1, none⟩ (.int .i64 0) = VV at *
          refine bodyPost_ret (v := .tuple #[.agg #[.int .i64 0, .int .i64 0], .bool false]) (by simp [results, Try.results228, go_sem, t0, t1]) rfl ⟨0, 0, ?_, ?_, hF⟩
          · rw [unhide HN]; rfl
          · intro x hx; rw [unhide HN] at hx; cases hx
        · have hbo := unhide HBO
          rw [hu] at hbo
          simp only [Option.isSome_some] at hbo
          subst hbo
          obtain ⟨e1, e2⟩ := unhide HXY u hu
          have hok := Tm.both_ok (unhide HOld) (unhide HAI) hu
          rw [← e1, ← e2] at hok
          have HN : Hid (Tm.both m n old (init ++ [p]) al = some (if lb = true then x else Tm.pair p x, if lb = true then Tm.pair y p else Tm.pair p y)) := by
            unfold Hid; rw [unhide HU, unhide HAL, hu, e1, e2]; rfl
          have HOK := hide hok
          clear hu hok e1 e2 HXY u HBO
          generalize hxr : (if lb = true then x else Tm.pair p x) = xr at *
          generalize hyr : (if lb = true then Tm.pair y p else Tm.pair p y) = yr at *
          have HXR := hide (And.intro hxr hyr)
          clear hxr hyr
          go_wp2_with fail
          refine wp_region_held_drew (S := fun w' => Box w' ga [.int .i64 x, .int .i64 y] ∧ Box w' w3.heap.size [.int .i64 (c : Int), .int .i64 (a : Int), .bool lb] ∧ w'.cell? ⟨b, off + k, none⟩ = some (.int .i64 p)) (by kernel_rfl) ⟨fA.drew, bS.drew, hcp⟩ (fun hHeld => ?_)
          refine tk 0 (some 45) (v := ?_) ?_ ?_
          rotate_left
          · intro w hSw
            obtain ⟨hA, hS, hC⟩ := hSw; have q0 := hA.cell 0 rfl; have q1 := hA.cell 1 rfl; have r0 := hS.cell 0 rfl; have r1 := hS.cell 1 rfl; have r2 := hS.cell 2 rfl
            first | (go_simp; done) | (go_simp; with_reducible rfl)
          try simp only [Act.put, List.setIfInBounds_toArray, List.set_cons_zero, List.set_cons_succ]
          refine tk 1 (some 46) (v := ?_) ?_ ?_
          rotate_left
          · intro w hSw
            obtain ⟨hA, hS, hC⟩ := hSw; have q0 := hA.cell 0 rfl; have q1 := hA.cell 1 rfl; have r0 := hS.cell 0 rfl; have r1 := hS.cell 1 rfl; have r2 := hS.cell 2 rfl
            first | (go_simp; done) | (go_simp; with_reducible rfl)
          try simp only [Act.put, List.setIfInBounds_toArray, List.set_cons_zero, List.set_cons_succ]
          refine tk 2 (some 47) (v := ?_) ?_ ?_
          rotate_left
          · intro w hSw
            first | (go_simp; done) | (go_simp; with_reducible rfl)
          try simp only [Act.put, List.setIfInBounds_toArray, List.set_cons_zero, List.set_cons_succ]
          refine tk 3 (some 48) (v := ?_) ?_ ?_
          rotate_left
          · intro w hSw
            first | (go_simp; done) | (go_simp; with_reducible rfl)
          try simp only [Act.put, List.setIfInBounds_toArray, List.set_cons_zero, List.set_cons_succ]
          refine tk 4 (some 49) (v := ?_) ?_ ?_
          rotate_left
          · intro w hSw
            first | (go_simp; done) | (go_simp; with_reducible rfl)
          try simp only [Act.put, List.setIfInBounds_toArray, List.set_cons_zero, List.set_cons_succ]
          refine tk 5 (some 50) (v := ?_) ?_ ?_
          rotate_left
          · intro w hSw
            obtain ⟨hA, hS, hC⟩ := hSw; have q0 := hA.cell 0 rfl; have q1 := hA.cell 1 rfl; have r0 := hS.cell 0 rfl; have r1 := hS.cell 1 rfl; have r2 := hS.cell 2 rfl
            first | (go_simp; done) | (go_simp; with_reducible rfl)
          try simp only [Act.put, List.setIfInBounds_toArray, List.set_cons_zero, List.set_cons_succ]
          have fA := fA.drew
          have bS := bS.drew
          have bC := bC.drew
          have HBc := HBc.drew
          have hcp : w4.drew.cell? ⟨b, off + k, none⟩ = some (.int .i64 p) := hcp
          have hbw : b < w.heap.size := unhide HBLT
          generalize w4.drew = V0 at *
          refine wpAnyH_ready (rs := [6]) (by kernel_rfl) (by simp) ?_
          refine AllReadyH.cons (o := { dst := some 51, op := _, type := _, pos := _, after := _, guard := _ }) rfl (fun K hK => ?_) AllReadyH.nil
          go_simp
          go_at_call 248
          refine (c248 _ _ _ _ _ _ _ (unhide HOK).1 (unhide HOK).2 (unhide HPO)).mono ?_
          rintro e v9 ⟨rfl, hbn⟩
          rw [(unhide HXR).1, (unhide HXR).2]
          have fA := fA.below hbn
          have bS := bS.below hbn
          have bC := bC.below hbn
          have HBc := below_then HBc hbn
          have hcp := cell_below hbn hcp
          clear hbn
          try go_wp2_with fail
          refine hK.out _ _ ⟨fA, bS, hcp⟩ (fun hHeld => ?_)
          clear hK K hHeld
          try simp only [Act.put, List.setIfInBounds_toArray, List.set_cons_zero, List.set_cons_succ]
          refine wpAnyH_ready (rs := [7]) (by kernel_rfl) (by simp) ?_
          have q0 := bC.cell 0 rfl; have q1 := bC.cell 1 rfl; have z0 := bC.frozen 0 rfl; have z1 := bC.frozen 1 rfl
          refine AllReadyH.cons (o := { dst := none, op := _, type := _, pos := _, after := _, guard := _ }) rfl (fun K hK => ?_) AllReadyH.nil
          go_simp
          have e1 : Box ((v9.setCell ⟨(w.heap.size + 1 + 1), 0, none⟩ (.int .i64 xr)).setCell ⟨(w.heap.size + 1 + 1), 1, none⟩ (.int .i64 yr)) ga [.int .i64 x, .int .i64 y] := fA.other (g' := (w.heap.size + 1 + 1)) (by omega) [.int .i64 xr, .int .i64 yr]
          have e2 : Box ((v9.setCell ⟨(w.heap.size + 1 + 1), 0, none⟩ (.int .i64 xr)).setCell ⟨(w.heap.size + 1 + 1), 1, none⟩ (.int .i64 yr)) w3.heap.size [.int .i64 (c : Int), .int .i64 (a : Int), .bool lb] := bS.other (g' := (w.heap.size + 1 + 1)) (by omega) [.int .i64 xr, .int .i64 yr]
          have e3 : ((v9.setCell ⟨(w.heap.size + 1 + 1), 0, none⟩ (.int .i64 xr)).setCell ⟨(w.heap.size + 1 + 1), 1, none⟩ (.int .i64 yr)).cell? ⟨b, off + k, none⟩ = some (.int .i64 p) := (cell_putAll (g := (w.heap.size + 1 + 1)) [.int .i64 xr, .int .i64 yr] (by simp; omega)).trans hcp
          have hE : Box ((v9.setCell ⟨(w.heap.size + 1 + 1), 0, none⟩ (.int .i64 xr)).setCell ⟨(w.heap.size + 1 + 1), 1, none⟩ (.int .i64 yr)) (w.heap.size + 1 + 1) [.int .i64 xr, .int .i64 yr] := bC.store [.int .i64 xr, .int .i64 yr] rfl
          have hF : Below w.heap.size w ((v9.setCell ⟨(w.heap.size + 1 + 1), 0, none⟩ (.int .i64 xr)).setCell ⟨(w.heap.size + 1 + 1), 1, none⟩ (.int .i64 yr)) := below_putAll [.int .i64 xr, .int .i64 yr] 0 HBc (by omega)
          refine hK.out _ _ ⟨e1, e2, e3⟩ (fun hHeld => ?_)
          clear hK K hHeld
          try simp only [Act.put, List.setIfInBounds_toArray, List.set_cons_zero, List.set_cons_succ]
          generalize ((v9.setCell ⟨(w.heap.size + 1 + 1), 0, none⟩ (.int .i64 xr)).setCell ⟨(w.heap.size + 1 + 1), 1, none⟩ (.int .i64 yr)) = VV at *
          have hS9 := And.intro e1 (And.intro e2 e3)
          refine tk 8 (some 7) (v := ?_) ?_ ?_
          rotate_left
          · intro w hSw
            first | (go_simp; done) | (go_simp; with_reducible rfl)
          try simp only [Act.put, List.setIfInBounds_toArray, List.set_cons_zero, List.set_cons_succ]
          refine wpAnyH_done (by kernel_rfl) ?_ _
          clear q0 q1 z0 z1
          go_wp2_with fail
          have t0 := hE.cell 0 rfl; have t1 := hE.cell 1 rfl
          refine bodyPost_ret (v := .tuple #[.agg #[.int .i64 xr, .int .i64 yr], .bool true]) (by simp [results, Try.results228, go_sem, t0, t1]) rfl ⟨xr, yr, ?_, ?_, hF⟩
          · rw [unhide HN]; rfl
          · intro u hu; rw [unhide HN] at hu; cases hu; exact ⟨rfl, rfl⟩
end Go.Proofs.Ytmlbphmbffkdnaa
