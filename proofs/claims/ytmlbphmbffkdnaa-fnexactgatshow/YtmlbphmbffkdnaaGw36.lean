/-
  Texts of the proof, what it needs of them: Growa.
-/
import Derived.Test.YtmlbphmbffkdnaaGw10
import Derived.Test.YtmlbphmbffkdnaaGw20
namespace Go.Proofs.Ytmlbphmbffkdnaa
open Go.RowKit
set_option linter.unusedVariables false

set_option maxHeartbeats 400000 in
theorem c245 (f c : Int) (al : Bool) (w : World) :
    Calls Try.prog 245 #[.agg #[.int .i64 f, .int .i64 c, .bool al]] w fun e w' => e = .returned (.bool (f == c)) ∧ Below w.heap.size w w' := by
  go_enter Try.func245, Try.ntmps245
  go_wp2_with fail
  go_ret
  exact ⟨rfl, (Below.refl _ _).alloc (Nat.le_refl _) _⟩

set_option maxHeartbeats 1000000 in
theorem c247 (f n c a : Nat) (al lb : Bool) (w : World) (hf : 1 ≤ f) (hn : f < n) (h40 : n ≤ 40) (ha : a ≤ 40) (hst : stepOf n ((f : Int) - 1) = .agg #[.int .i64 (c : Int), .int .i64 (a : Int), .bool lb]) :
    Calls Try.prog 247 #[.agg #[.int .i64 (f : Int), .int .i64 (n : Int), .bool al]] w fun e w' => e = .returned (.tuple #[.agg #[.int .i64 (c : Int), .int .i64 (a : Int), .bool lb], .agg #[.int .i64 ((a : Int) + 1), .int .i64 (c : Int), .bool (al && lb)]]) ∧ Below w.heap.size w w' := by
  have HS := hide hst
  clear hst
  go_enter Try.func247, Try.ntmps247
  go_wp2_with fail
  have hb0 : Below w.heap.size w (((w.alloc (.cells #[.int .i64 (f : Int), .int .i64 (n : Int), .bool al] 231)).alloc (.cells #[.int .i64 0, .int .i64 0, .bool false] 238)).alloc (.cells #[.int .i64 0, .int .i64 0, .bool false] 231)) := below_alloc2 (below_alloc2 (below_alloc2 (Below.refl _ _)))
  have bP : Box (((w.alloc (.cells #[.int .i64 (f : Int), .int .i64 (n : Int), .bool al] 231)).alloc (.cells #[.int .i64 0, .int .i64 0, .bool false] 238)).alloc (.cells #[.int .i64 0, .int .i64 0, .bool false] 231)) w.heap.size [.int .i64 (f : Int), .int .i64 (n : Int), .bool al] := ((box_new w [.int .i64 (f : Int), .int .i64 (n : Int), .bool al] 231 (by simp [Value.oneCell'])).alloc _).alloc _
  have bS : Box (((w.alloc (.cells #[.int .i64 (f : Int), .int .i64 (n : Int), .bool al] 231)).alloc (.cells #[.int .i64 0, .int .i64 0, .bool false] 238)).alloc (.cells #[.int .i64 0, .int .i64 0, .bool false] 231)) (w.heap.size + 1) [.int .i64 0, .int .i64 0, .bool false] := by
    have h := (box_new (w.alloc (.cells #[.int .i64 (f : Int), .int .i64 (n : Int), .bool al] 231)) [.int .i64 0, .int .i64 0, .bool false] 238 (by simp [Value.oneCell'])).alloc (.cells #[.int .i64 0, .int .i64 0, .bool false] 231)
    rwa [World.size_alloc] at h
  have bR : Box (((w.alloc (.cells #[.int .i64 (f : Int), .int .i64 (n : Int), .bool al] 231)).alloc (.cells #[.int .i64 0, .int .i64 0, .bool false] 238)).alloc (.cells #[.int .i64 0, .int .i64 0, .bool false] 231)) (w.heap.size + 1 + 1) [.int .i64 0, .int .i64 0, .bool false] := by
    have h := box_new ((w.alloc (.cells #[.int .i64 (f : Int), .int .i64 (n : Int), .bool al] 231)).alloc (.cells #[.int .i64 0, .int .i64 0, .bool false] 238)) [.int .i64 0, .int .i64 0, .bool false] 231 (by simp [Value.oneCell'])
    rwa [World.size_alloc, World.size_alloc] at h
  generalize (((w.alloc (.cells #[.int .i64 (f : Int), .int .i64 (n : Int), .bool al] 231)).alloc (.cells #[.int .i64 0, .int .i64 0, .bool false] 238)).alloc (.cells #[.int .i64 0, .int .i64 0, .bool false] 231)) = W0 at *
  refine (c260 _ _ _ (by omega) (by omega) (by omega) (by omega)).mono ?_
  rintro e w1 ⟨rfl, hb1⟩
  rw [unhide HS]
  have hlt : w.heap.size + 1 + 1 < w1.heap.size := Nat.lt_of_lt_of_le bR.lt hb1.size
  have bP := (bP.below hb1).alloc (.cells #[.int .i64 (c : Int), .int .i64 (a : Int), .bool lb] 238)
  have bS := (bS.below hb1).alloc (.cells #[.int .i64 (c : Int), .int .i64 (a : Int), .bool lb] 238)
  have bR := (bR.below hb1).alloc (.cells #[.int .i64 (c : Int), .int .i64 (a : Int), .bool lb] 238)
  have b4 : Box (w1.alloc (.cells #[.int .i64 (c : Int), .int .i64 (a : Int), .bool lb] 238)) w1.heap.size [.int .i64 (c : Int), .int .i64 (a : Int), .bool lb] := box_new w1 [.int .i64 (c : Int), .int .i64 (a : Int), .bool lb] 238 (by simp [Value.oneCell'])
  have hb2 := below_alloc2 (o := .cells #[.int .i64 (c : Int), .int .i64 (a : Int), .bool lb] 238) (below_then hb0 hb1)
  clear hb0 hb1
  have HX := hide (And.intro bP (And.intro bS (And.intro bR (And.intro b4 hb2))))
  clear bP bS bR b4 hb2
  have hwr : IntKind.i64.wrap ((a : Int) + 1) = (a : Int) + 1 := wrap_sub (by omega) (by omega)
  cases al
  · go_wp2_with fail
    obtain ⟨bP, bS, bR, b4, hb2⟩ := unhide HX
    generalize (w1.alloc (.cells #[.int .i64 (c : Int), .int .i64 (a : Int), .bool lb] 238)) = W at *
    have bP := bP.drew
    have bS := bS.drew
    have bR := bR.drew
    have b4 := b4.drew
    have hb2 := hb2.drew
    clear HX
    refine wp_region_held_drew (S := fun w' => Box w' w.heap.size [.int .i64 (f : Int), .int .i64 (n : Int), .bool false] ∧ Box w' w1.heap.size [.int .i64 (c : Int), .int .i64 (a : Int), .bool lb]) (by kernel_rfl) ⟨bP, b4⟩ (fun hHeld => ?_)
    refine tk 0 (some 11) (v := ?_) ?_ ?_
    rotate_left
    · intro w hSw
      obtain ⟨hP, h4⟩ := hSw; have q0 := hP.cell 0 rfl; have q1 := hP.cell 1 rfl; have q2 := hP.cell 2 rfl; have r0 := h4.cell 0 rfl; have r1 := h4.cell 1 rfl; have r2 := h4.cell 2 rfl
      first | (go_simp; done) | (go_simp; with_reducible rfl)
    try simp only [Act.put, List.setIfInBounds_toArray, List.set_cons_zero, List.set_cons_succ]
    refine tk 1 (some 12) (v := ?_) ?_ ?_
    rotate_left
    · intro w hSw
      first | (go_simp; done) | (go_simp; with_reducible rfl)
    try simp only [Act.put, List.setIfInBounds_toArray, List.set_cons_zero, List.set_cons_succ]
    refine tk 2 (some 13) (v := ?_) ?_ ?_
    rotate_left
    · intro w hSw
      obtain ⟨hP, h4⟩ := hSw; have q0 := hP.cell 0 rfl; have q1 := hP.cell 1 rfl; have q2 := hP.cell 2 rfl; have r0 := h4.cell 0 rfl; have r1 := h4.cell 1 rfl; have r2 := h4.cell 2 rfl
      first | (go_simp; done) | (go_simp; with_reducible rfl)
    try simp only [Act.put, List.setIfInBounds_toArray, List.set_cons_zero, List.set_cons_succ]
    refine tk 3 (some 14) (v := ?_) ?_ ?_
    rotate_left
    · intro w hSw
      first | (go_simp; done) | (go_simp; with_reducible rfl)
    try simp only [Act.put, List.setIfInBounds_toArray, List.set_cons_zero, List.set_cons_succ]
    refine tk 4 (some 15) (v := ?_) ?_ ?_
    rotate_left
    · intro w hSw
      first | (go_simp; done) | (go_simp; with_reducible rfl)
    try simp only [Act.put, List.setIfInBounds_toArray, List.set_cons_zero, List.set_cons_succ]
    refine tk 5 (some 16) (v := ?_) ?_ ?_
    rotate_left
    · intro w hSw
      obtain ⟨hP, h4⟩ := hSw; have q0 := hP.cell 0 rfl; have q1 := hP.cell 1 rfl; have q2 := hP.cell 2 rfl; have r0 := h4.cell 0 rfl; have r1 := h4.cell 1 rfl; have r2 := h4.cell 2 rfl
      first | (go_simp; done) | (go_simp; with_reducible rfl)
    try simp only [Act.put, List.setIfInBounds_toArray, List.set_cons_zero, List.set_cons_succ]
    refine tk 6 (some 17) (v := ?_) ?_ ?_
    rotate_left
    · intro w hSw
      first | (go_simp; done) | (go_simp; with_reducible rfl)
    try simp only [Act.put, List.setIfInBounds_toArray, List.set_cons_zero, List.set_cons_succ]
    refine tk 7 (some 18) (v := ?_) ?_ ?_
    rotate_left
    · intro w hSw
      obtain ⟨hP, h4⟩ := hSw; have q0 := hP.cell 0 rfl; have q1 := hP.cell 1 rfl; have q2 := hP.cell 2 rfl; have r0 := h4.cell 0 rfl; have r1 := h4.cell 1 rfl; have r2 := h4.cell 2 rfl
      first | (go_simp; done) | (go_simp; with_reducible rfl)
    try simp only [Act.put, List.setIfInBounds_toArray, List.set_cons_zero, List.set_cons_succ]
    refine tk 8 (some 19) (v := ?_) ?_ ?_
    rotate_left
    · intro w hSw
      first | (go_simp; done) | (go_simp; with_reducible rfl)
    try simp only [Act.put, List.setIfInBounds_toArray, List.set_cons_zero, List.set_cons_succ]
    refine sk 9 (some 20) ?_
    try simp only [Act.put, List.setIfInBounds_toArray, List.set_cons_zero, List.set_cons_succ]
    refine sk 10 (some 21) ?_
    try simp only [Act.put, List.setIfInBounds_toArray, List.set_cons_zero, List.set_cons_succ]
    refine tk 11 (some 22) (v := ?_) ?_ ?_
    rotate_left
    · intro w hSw
      first | (go_simp; done) | (go_simp; with_reducible rfl)
    try simp only [Act.put, List.setIfInBounds_toArray, List.set_cons_zero, List.set_cons_succ]
    refine tk 12 (some 23) (v := ?_) ?_ ?_
    rotate_left
    · intro w hSw
      first | (go_simp; done) | (go_simp; with_reducible rfl)
    try simp only [Act.put, List.setIfInBounds_toArray, List.set_cons_zero, List.set_cons_succ]
    generalize W.drew = V0 at *
    refine wpAnyH_ready (rs := [13]) (by kernel_rfl) (by simp) ?_
    have q0 := bS.cell 0 rfl; have q1 := bS.cell 1 rfl; have q2 := bS.cell 2 rfl; have z0 := bS.frozen 0 rfl; have z1 := bS.frozen 1 rfl; have z2 := bS.frozen 2 rfl
    refine AllReadyH.cons (o := { dst := none, op := _, type := _, pos := _, after := _, guard := _ }) rfl (fun K hK => ?_) AllReadyH.nil
    go_simp
    have e1 : Box (((V0.setCell ⟨(w.heap.size + 1), 0, none⟩ (.int .i64 (c : Int))).setCell ⟨(w.heap.size + 1), 1, none⟩ (.int .i64 (a : Int))).setCell ⟨(w.heap.size + 1), 2, none⟩ (.bool lb)) w.heap.size [.int .i64 (f : Int), .int .i64 (n : Int), .bool false] := bP.other (g' := (w.heap.size + 1)) (by omega) [.int .i64 (c : Int), .int .i64 (a : Int), .bool lb]
    have e4 : Box (((V0.setCell ⟨(w.heap.size + 1), 0, none⟩ (.int .i64 (c : Int))).setCell ⟨(w.heap.size + 1), 1, none⟩ (.int .i64 (a : Int))).setCell ⟨(w.heap.size + 1), 2, none⟩ (.bool lb)) w1.heap.size [.int .i64 (c : Int), .int .i64 (a : Int), .bool lb] := b4.other (g' := (w.heap.size + 1)) (by omega) [.int .i64 (c : Int), .int .i64 (a : Int), .bool lb]
    have eo : Box (((V0.setCell ⟨(w.heap.size + 1), 0, none⟩ (.int .i64 (c : Int))).setCell ⟨(w.heap.size + 1), 1, none⟩ (.int .i64 (a : Int))).setCell ⟨(w.heap.size + 1), 2, none⟩ (.bool lb)) (w.heap.size + 1 + 1) [.int .i64 0, .int .i64 0, .bool false] := bR.other (g' := (w.heap.size + 1)) (by omega) [.int .i64 (c : Int), .int .i64 (a : Int), .bool lb]
    have ef : Box (((V0.setCell ⟨(w.heap.size + 1), 0, none⟩ (.int .i64 (c : Int))).setCell ⟨(w.heap.size + 1), 1, none⟩ (.int .i64 (a : Int))).setCell ⟨(w.heap.size + 1), 2, none⟩ (.bool lb)) (w.heap.size + 1) [.int .i64 (c : Int), .int .i64 (a : Int), .bool lb] := bS.store [.int .i64 (c : Int), .int .i64 (a : Int), .bool lb] rfl
    have eb : Below w.heap.size w (((V0.setCell ⟨(w.heap.size + 1), 0, none⟩ (.int .i64 (c : Int))).setCell ⟨(w.heap.size + 1), 1, none⟩ (.int .i64 (a : Int))).setCell ⟨(w.heap.size + 1), 2, none⟩ (.bool lb)) := below_putAll [.int .i64 (c : Int), .int .i64 (a : Int), .bool lb] 0 hb2 (by omega)
    refine hK.out _ _ ⟨e1, e4⟩ (fun hHeld => ?_)
    clear hK K hHeld
    try simp only [Act.put, List.setIfInBounds_toArray, List.set_cons_zero, List.set_cons_succ]
    clear q0 q1 q2 z0 z1 z2 bP b4 bS bR hb2
    generalize (((V0.setCell ⟨(w.heap.size + 1), 0, none⟩ (.int .i64 (c : Int))).setCell ⟨(w.heap.size + 1), 1, none⟩ (.int .i64 (a : Int))).setCell ⟨(w.heap.size + 1), 2, none⟩ (.bool lb)) = V13 at *
    have bP := e1; have b4 := e4; have bR := eo; have bS := ef; have hb2 := eb
    clear e1 e4 eo ef eb
    refine wpAnyH_ready (rs := [14]) (by kernel_rfl) (by simp) ?_
    have q0 := bR.cell 0 rfl; have q1 := bR.cell 1 rfl; have q2 := bR.cell 2 rfl; have z0 := bR.frozen 0 rfl; have z1 := bR.frozen 1 rfl; have z2 := bR.frozen 2 rfl
    refine AllReadyH.cons (o := { dst := none, op := _, type := _, pos := _, after := _, guard := _ }) rfl (fun K hK => ?_) AllReadyH.nil
    go_simp
    have e1 : Box (((V13.setCell ⟨(w.heap.size + 1 + 1), 0, none⟩ (.int .i64 ((a : Int) + 1))).setCell ⟨(w.heap.size + 1 + 1), 1, none⟩ (.int .i64 (c : Int))).setCell ⟨(w.heap.size + 1 + 1), 2, none⟩ (.bool false)) w.heap.size [.int .i64 (f : Int), .int .i64 (n : Int), .bool false] := bP.other (g' := (w.heap.size + 1 + 1)) (by omega) [.int .i64 ((a : Int) + 1), .int .i64 (c : Int), .bool false]
    have e4 : Box (((V13.setCell ⟨(w.heap.size + 1 + 1), 0, none⟩ (.int .i64 ((a : Int) + 1))).setCell ⟨(w.heap.size + 1 + 1), 1, none⟩ (.int .i64 (c : Int))).setCell ⟨(w.heap.size + 1 + 1), 2, none⟩ (.bool false)) w1.heap.size [.int .i64 (c : Int), .int .i64 (a : Int), .bool lb] := b4.other (g' := (w.heap.size + 1 + 1)) (by omega) [.int .i64 ((a : Int) + 1), .int .i64 (c : Int), .bool false]
    have eo : Box (((V13.setCell ⟨(w.heap.size + 1 + 1), 0, none⟩ (.int .i64 ((a : Int) + 1))).setCell ⟨(w.heap.size + 1 + 1), 1, none⟩ (.int .i64 (c : Int))).setCell ⟨(w.heap.size + 1 + 1), 2, none⟩ (.bool false)) (w.heap.size + 1) [.int .i64 (c : Int), .int .i64 (a : Int), .bool lb] := bS.other (g' := (w.heap.size + 1 + 1)) (by omega) [.int .i64 ((a : Int) + 1), .int .i64 (c : Int), .bool false]
    have ef : Box (((V13.setCell ⟨(w.heap.size + 1 + 1), 0, none⟩ (.int .i64 ((a : Int) + 1))).setCell ⟨(w.heap.size + 1 + 1), 1, none⟩ (.int .i64 (c : Int))).setCell ⟨(w.heap.size + 1 + 1), 2, none⟩ (.bool false)) (w.heap.size + 1 + 1) [.int .i64 ((a : Int) + 1), .int .i64 (c : Int), .bool false] := bR.store [.int .i64 ((a : Int) + 1), .int .i64 (c : Int), .bool false] rfl
    have eb : Below w.heap.size w (((V13.setCell ⟨(w.heap.size + 1 + 1), 0, none⟩ (.int .i64 ((a : Int) + 1))).setCell ⟨(w.heap.size + 1 + 1), 1, none⟩ (.int .i64 (c : Int))).setCell ⟨(w.heap.size + 1 + 1), 2, none⟩ (.bool false)) := below_putAll [.int .i64 ((a : Int) + 1), .int .i64 (c : Int), .bool false] 0 hb2 (by omega)
    refine hK.out _ _ ⟨e1, e4⟩ (fun hHeld => ?_)
    clear hK K hHeld
    try simp only [Act.put, List.setIfInBounds_toArray, List.set_cons_zero, List.set_cons_succ]
    clear q0 q1 q2 z0 z1 z2 bP b4 bR bS hb2
    generalize (((V13.setCell ⟨(w.heap.size + 1 + 1), 0, none⟩ (.int .i64 ((a : Int) + 1))).setCell ⟨(w.heap.size + 1 + 1), 1, none⟩ (.int .i64 (c : Int))).setCell ⟨(w.heap.size + 1 + 1), 2, none⟩ (.bool false)) = V14 at *
    have bP := e1; have b4 := e4; have bS := eo; have bR := ef; have hb2 := eb
    clear e1 e4 eo ef eb
    refine wpAnyH_done (by kernel_rfl) ?_ _
    go_wp2_with fail
    have q0 := bS.cell 0 rfl; have q1 := bS.cell 1 rfl; have q2 := bS.cell 2 rfl; have r0 := bR.cell 0 rfl; have r1 := bR.cell 1 rfl; have r2 := bR.cell 2 rfl
    refine bodyPost_ret (v := .tuple #[.agg #[.int .i64 (c : Int), .int .i64 (a : Int), .bool lb], .agg #[.int .i64 ((a : Int) + 1), .int .i64 (c : Int), .bool false]]) (by simp [results, Try.results247, go_sem, q0, q1, q2, r0, r1, r2]) rfl ⟨rfl, hb2⟩
  · go_wp2_with fail
    obtain ⟨bP, bS, bR, b4, hb2⟩ := unhide HX
    generalize (w1.alloc (.cells #[.int .i64 (c : Int), .int .i64 (a : Int), .bool lb] 238)) = W at *
    have bP := bP.drew
    have bS := bS.drew
    have bR := bR.drew
    have b4 := b4.drew
    have hb2 := hb2.drew
    clear HX
    refine wp_region_held_drew (S := fun w' => Box w' w.heap.size [.int .i64 (f : Int), .int .i64 (n : Int), .bool true] ∧ Box w' w1.heap.size [.int .i64 (c : Int), .int .i64 (a : Int), .bool lb]) (by kernel_rfl) ⟨bP, b4⟩ (fun hHeld => ?_)
    refine tk 0 (some 11) (v := ?_) ?_ ?_
    rotate_left
    · intro w hSw
      obtain ⟨hP, h4⟩ := hSw; have q0 := hP.cell 0 rfl; have q1 := hP.cell 1 rfl; have q2 := hP.cell 2 rfl; have r0 := h4.cell 0 rfl; have r1 := h4.cell 1 rfl; have r2 := h4.cell 2 rfl
      first | (go_simp; done) | (go_simp; with_reducible rfl)
    try simp only [Act.put, List.setIfInBounds_toArray, List.set_cons_zero, List.set_cons_succ]
    refine tk 1 (some 12) (v := ?_) ?_ ?_
    rotate_left
    · intro w hSw
      first | (go_simp; done) | (go_simp; with_reducible rfl)
    try simp only [Act.put, List.setIfInBounds_toArray, List.set_cons_zero, List.set_cons_succ]
    refine tk 2 (some 13) (v := ?_) ?_ ?_
    rotate_left
    · intro w hSw
      obtain ⟨hP, h4⟩ := hSw; have q0 := hP.cell 0 rfl; have q1 := hP.cell 1 rfl; have q2 := hP.cell 2 rfl; have r0 := h4.cell 0 rfl; have r1 := h4.cell 1 rfl; have r2 := h4.cell 2 rfl
      first | (go_simp; done) | (go_simp; with_reducible rfl)
    try simp only [Act.put, List.setIfInBounds_toArray, List.set_cons_zero, List.set_cons_succ]
    refine tk 3 (some 14) (v := ?_) ?_ ?_
    rotate_left
    · intro w hSw
      first | (go_simp; done) | (go_simp; with_reducible rfl)
    try simp only [Act.put, List.setIfInBounds_toArray, List.set_cons_zero, List.set_cons_succ]
    refine tk 4 (some 15) (v := ?_) ?_ ?_
    rotate_left
    · intro w hSw
      first | (go_simp; done) | (go_simp; with_reducible rfl)
    try simp only [Act.put, List.setIfInBounds_toArray, List.set_cons_zero, List.set_cons_succ]
    refine tk 5 (some 16) (v := ?_) ?_ ?_
    rotate_left
    · intro w hSw
      obtain ⟨hP, h4⟩ := hSw; have q0 := hP.cell 0 rfl; have q1 := hP.cell 1 rfl; have q2 := hP.cell 2 rfl; have r0 := h4.cell 0 rfl; have r1 := h4.cell 1 rfl; have r2 := h4.cell 2 rfl
      first | (go_simp; done) | (go_simp; with_reducible rfl)
    try simp only [Act.put, List.setIfInBounds_toArray, List.set_cons_zero, List.set_cons_succ]
    refine tk 6 (some 17) (v := ?_) ?_ ?_
    rotate_left
    · intro w hSw
      first | (go_simp; done) | (go_simp; with_reducible rfl)
    try simp only [Act.put, List.setIfInBounds_toArray, List.set_cons_zero, List.set_cons_succ]
    refine tk 7 (some 18) (v := ?_) ?_ ?_
    rotate_left
    · intro w hSw
      obtain ⟨hP, h4⟩ := hSw; have q0 := hP.cell 0 rfl; have q1 := hP.cell 1 rfl; have q2 := hP.cell 2 rfl; have r0 := h4.cell 0 rfl; have r1 := h4.cell 1 rfl; have r2 := h4.cell 2 rfl
      first | (go_simp; done) | (go_simp; with_reducible rfl)
    try simp only [Act.put, List.setIfInBounds_toArray, List.set_cons_zero, List.set_cons_succ]
    refine tk 8 (some 19) (v := ?_) ?_ ?_
    rotate_left
    · intro w hSw
      first | (go_simp; done) | (go_simp; with_reducible rfl)
    try simp only [Act.put, List.setIfInBounds_toArray, List.set_cons_zero, List.set_cons_succ]
    refine tk 9 (some 20) (v := ?_) ?_ ?_
    rotate_left
    · intro w hSw
      first | (go_simp; done) | (go_simp; with_reducible rfl)
    try simp only [Act.put, List.setIfInBounds_toArray, List.set_cons_zero, List.set_cons_succ]
    refine tk 10 (some 21) (v := ?_) ?_ ?_
    rotate_left
    · intro w hSw
      obtain ⟨hP, h4⟩ := hSw; have q0 := hP.cell 0 rfl; have q1 := hP.cell 1 rfl; have q2 := hP.cell 2 rfl; have r0 := h4.cell 0 rfl; have r1 := h4.cell 1 rfl; have r2 := h4.cell 2 rfl
      first | (go_simp; done) | (go_simp; with_reducible rfl)
    try simp only [Act.put, List.setIfInBounds_toArray, List.set_cons_zero, List.set_cons_succ]
    refine tk 11 (some 22) (v := ?_) ?_ ?_
    rotate_left
    · intro w hSw
      first | (go_simp; done) | (go_simp; with_reducible rfl)
    try simp only [Act.put, List.setIfInBounds_toArray, List.set_cons_zero, List.set_cons_succ]
    refine tk 12 (some 23) (v := ?_) ?_ ?_
    rotate_left
    · intro w hSw
      first | (go_simp; done) | (go_simp; with_reducible rfl)
    try simp only [Act.put, List.setIfInBounds_toArray, List.set_cons_zero, List.set_cons_succ]
    generalize W.drew = V0 at *
    refine wpAnyH_ready (rs := [13]) (by kernel_rfl) (by simp) ?_
    have q0 := bS.cell 0 rfl; have q1 := bS.cell 1 rfl; have q2 := bS.cell 2 rfl; have z0 := bS.frozen 0 rfl; have z1 := bS.frozen 1 rfl; have z2 := bS.frozen 2 rfl
    refine AllReadyH.cons (o := { dst := none, op := _, type := _, pos := _, after := _, guard := _ }) rfl (fun K hK => ?_) AllReadyH.nil
    go_simp
    have e1 : Box (((V0.setCell ⟨(w.heap.size + 1), 0, none⟩ (.int .i64 (c : Int))).setCell ⟨(w.heap.size + 1), 1, none⟩ (.int .i64 (a : Int))).setCell ⟨(w.heap.size + 1), 2, none⟩ (.bool lb)) w.heap.size [.int .i64 (f : Int), .int .i64 (n : Int), .bool true] := bP.other (g' := (w.heap.size + 1)) (by omega) [.int .i64 (c : Int), .int .i64 (a : Int), .bool lb]
    have e4 : Box (((V0.setCell ⟨(w.heap.size + 1), 0, none⟩ (.int .i64 (c : Int))).setCell ⟨(w.heap.size + 1), 1, none⟩ (.int .i64 (a : Int))).setCell ⟨(w.heap.size + 1), 2, none⟩ (.bool lb)) w1.heap.size [.int .i64 (c : Int), .int .i64 (a : Int), .bool lb] := b4.other (g' := (w.heap.size + 1)) (by omega) [.int .i64 (c : Int), .int .i64 (a : Int), .bool lb]
    have eo : Box (((V0.setCell ⟨(w.heap.size + 1), 0, none⟩ (.int .i64 (c : Int))).setCell ⟨(w.heap.size + 1), 1, none⟩ (.int .i64 (a : Int))).setCell ⟨(w.heap.size + 1), 2, none⟩ (.bool lb)) (w.heap.size + 1 + 1) [.int .i64 0, .int .i64 0, .bool false] := bR.other (g' := (w.heap.size + 1)) (by omega) [.int .i64 (c : Int), .int .i64 (a : Int), .bool lb]
    have ef : Box (((V0.setCell ⟨(w.heap.size + 1), 0, none⟩ (.int .i64 (c : Int))).setCell ⟨(w.heap.size + 1), 1, none⟩ (.int .i64 (a : Int))).setCell ⟨(w.heap.size + 1), 2, none⟩ (.bool lb)) (w.heap.size + 1) [.int .i64 (c : Int), .int .i64 (a : Int), .bool lb] := bS.store [.int .i64 (c : Int), .int .i64 (a : Int), .bool lb] rfl
    have eb : Below w.heap.size w (((V0.setCell ⟨(w.heap.size + 1), 0, none⟩ (.int .i64 (c : Int))).setCell ⟨(w.heap.size + 1), 1, none⟩ (.int .i64 (a : Int))).setCell ⟨(w.heap.size + 1), 2, none⟩ (.bool lb)) := below_putAll [.int .i64 (c : Int), .int .i64 (a : Int), .bool lb] 0 hb2 (by omega)
    refine hK.out _ _ ⟨e1, e4⟩ (fun hHeld => ?_)
    clear hK K hHeld
    try simp only [Act.put, List.setIfInBounds_toArray, List.set_cons_zero, List.set_cons_succ]
    clear q0 q1 q2 z0 z1 z2 bP b4 bS bR hb2
    generalize (((V0.setCell ⟨(w.heap.size + 1), 0, none⟩ (.int .i64 (c : Int))).setCell ⟨(w.heap.size + 1), 1, none⟩ (.int .i64 (a : Int))).setCell ⟨(w.heap.size + 1), 2, none⟩ (.bool lb)) = V13 at *
    have bP := e1; have b4 := e4; have bR := eo; have bS := ef; have hb2 := eb
    clear e1 e4 eo ef eb
    refine wpAnyH_ready (rs := [14]) (by kernel_rfl) (by simp) ?_
    have q0 := bR.cell 0 rfl; have q1 := bR.cell 1 rfl; have q2 := bR.cell 2 rfl; have z0 := bR.frozen 0 rfl; have z1 := bR.frozen 1 rfl; have z2 := bR.frozen 2 rfl
    refine AllReadyH.cons (o := { dst := none, op := _, type := _, pos := _, after := _, guard := _ }) rfl (fun K hK => ?_) AllReadyH.nil
    go_simp
    have e1 : Box (((V13.setCell ⟨(w.heap.size + 1 + 1), 0, none⟩ (.int .i64 ((a : Int) + 1))).setCell ⟨(w.heap.size + 1 + 1), 1, none⟩ (.int .i64 (c : Int))).setCell ⟨(w.heap.size + 1 + 1), 2, none⟩ (.bool lb)) w.heap.size [.int .i64 (f : Int), .int .i64 (n : Int), .bool true] := bP.other (g' := (w.heap.size + 1 + 1)) (by omega) [.int .i64 ((a : Int) + 1), .int .i64 (c : Int), .bool lb]
    have e4 : Box (((V13.setCell ⟨(w.heap.size + 1 + 1), 0, none⟩ (.int .i64 ((a : Int) + 1))).setCell ⟨(w.heap.size + 1 + 1), 1, none⟩ (.int .i64 (c : Int))).setCell ⟨(w.heap.size + 1 + 1), 2, none⟩ (.bool lb)) w1.heap.size [.int .i64 (c : Int), .int .i64 (a : Int), .bool lb] := b4.other (g' := (w.heap.size + 1 + 1)) (by omega) [.int .i64 ((a : Int) + 1), .int .i64 (c : Int), .bool lb]
    have eo : Box (((V13.setCell ⟨(w.heap.size + 1 + 1), 0, none⟩ (.int .i64 ((a : Int) + 1))).setCell ⟨(w.heap.size + 1 + 1), 1, none⟩ (.int .i64 (c : Int))).setCell ⟨(w.heap.size + 1 + 1), 2, none⟩ (.bool lb)) (w.heap.size + 1) [.int .i64 (c : Int), .int .i64 (a : Int), .bool lb] := bS.other (g' := (w.heap.size + 1 + 1)) (by omega) [.int .i64 ((a : Int) + 1), .int .i64 (c : Int), .bool lb]
    have ef : Box (((V13.setCell ⟨(w.heap.size + 1 + 1), 0, none⟩ (.int .i64 ((a : Int) + 1))).setCell ⟨(w.heap.size + 1 + 1), 1, none⟩ (.int .i64 (c : Int))).setCell ⟨(w.heap.size + 1 + 1), 2, none⟩ (.bool lb)) (w.heap.size + 1 + 1) [.int .i64 ((a : Int) + 1), .int .i64 (c : Int), .bool lb] := bR.store [.int .i64 ((a : Int) + 1), .int .i64 (c : Int), .bool lb] rfl
    have eb : Below w.heap.size w (((V13.setCell ⟨(w.heap.size + 1 + 1), 0, none⟩ (.int .i64 ((a : Int) + 1))).setCell ⟨(w.heap.size + 1 + 1), 1, none⟩ (.int .i64 (c : Int))).setCell ⟨(w.heap.size + 1 + 1), 2, none⟩ (.bool lb)) := below_putAll [.int .i64 ((a : Int) + 1), .int .i64 (c : Int), .bool lb] 0 hb2 (by omega)
    refine hK.out _ _ ⟨e1, e4⟩ (fun hHeld => ?_)
    clear hK K hHeld
    try simp only [Act.put, List.setIfInBounds_toArray, List.set_cons_zero, List.set_cons_succ]
    clear q0 q1 q2 z0 z1 z2 bP b4 bR bS hb2
    generalize (((V13.setCell ⟨(w.heap.size + 1 + 1), 0, none⟩ (.int .i64 ((a : Int) + 1))).setCell ⟨(w.heap.size + 1 + 1), 1, none⟩ (.int .i64 (c : Int))).setCell ⟨(w.heap.size + 1 + 1), 2, none⟩ (.bool lb)) = V14 at *
    have bP := e1; have b4 := e4; have bS := eo; have bR := ef; have hb2 := eb
    clear e1 e4 eo ef eb
    refine wpAnyH_done (by kernel_rfl) ?_ _
    go_wp2_with fail
    have q0 := bS.cell 0 rfl; have q1 := bS.cell 1 rfl; have q2 := bS.cell 2 rfl; have r0 := bR.cell 0 rfl; have r1 := bR.cell 1 rfl; have r2 := bR.cell 2 rfl
    refine bodyPost_ret (v := .tuple #[.agg #[.int .i64 (c : Int), .int .i64 (a : Int), .bool lb], .agg #[.int .i64 ((a : Int) + 1), .int .i64 (c : Int), .bool lb]]) (by simp [results, Try.results247, go_sem, q0, q1, q2, r0, r1, r2]) rfl ⟨rfl, hb2⟩
end Go.Proofs.Ytmlbphmbffkdnaa
