/-
  Texts of the proof, what it needs of them: Growb.
-/
import Derived.Test.YtmlbphmbffkdnaaGw10
import Derived.Test.YtmlbphmbffkdnaaGw20
namespace Go.Proofs.Ytmlbphmbffkdnaa
open Go.RowKit
set_option linter.unusedVariables false

/-- the program's answer: both roots are told only where the proof leads to them -/
def BothImpl (m n old : Int) (ps : List Int) (al : Bool) (w : World) (e : Ending) (w' : World) : Prop :=
  ∃ a b : Int, e = .returned (.tuple #[.agg #[.int .i64 a, .int .i64 b], .bool (Tm.both m n old ps al).isSome]) ∧ (∀ x, Tm.both m n old ps al = some x → a = x.1 ∧ b = x.2) ∧ Below w.heap.size w w'

set_option maxHeartbeats 1000000 in
theorem c246 (m old : Int) (al : Bool) (ps : List Int) (ao : Option Addr) (l cap : Nat) (w : World) (hl : ps.length = l) (hcap : l ≤ cap) (hb : l ≤ 40) (hr : Row w ao ps) :
    Calls Try.prog 246 #[.agg #[.int .i64 old, .int .i64 old], .agg #[.int .i64 m, .int .i64 m, .bool al], .slice ao l cap] w (BothImpl m m old ps al w) := by
  cases al
  · by_cases h1 : l = 1
    · subst h1
      obtain ⟨b, off, rfl, hc⟩ := hr.2 (by intro e; subst e; simp at hl)
      have hcell := hc 0 (by omega)
      have hps : ps = [ps.getD 0 0] := by
        match ps, hl with
        | [x], _ => rfl
      generalize ps.getD 0 0 = p at *
      subst hps
      simp only [Nat.add_zero] at hcell
      have HU := hide (Tm.both_one (m := m) (n := m) (old := old) (p := p) rfl)
      have hbw := World.block_lt_of_cell? w _ hcell
      simp only at hbw
      clear hr hc hl
      go_enter Try.func246, Try.ntmps246
      go_wp2_with fail
      have hb0 : Below _ _ (((w.alloc (.cells #[.int .i64 old, .int .i64 old] 227)).alloc (.cells #[.int .i64 m, .int .i64 m, .bool false] 231)).alloc (.cells #[.int .i64 0, .int .i64 0] 227)) := (below_alloc2 (below_alloc2 (below_alloc2 (Below.refl _ _))))
      have bR : Box (((w.alloc (.cells #[.int .i64 old, .int .i64 old] 227)).alloc (.cells #[.int .i64 m, .int .i64 m, .bool false] 231)).alloc (.cells #[.int .i64 0, .int .i64 0] 227)) (w.heap.size + 1 + 1) [.int .i64 0, .int .i64 0] := by
        have h := box_new ((w.alloc (.cells #[.int .i64 old, .int .i64 old] 227)).alloc (.cells #[.int .i64 m, .int .i64 m, .bool false] 231)) [.int .i64 0, .int .i64 0] 227 (by simp [Value.oneCell'])
        rwa [World.size_alloc, World.size_alloc] at h
      generalize (((w.alloc (.cells #[.int .i64 old, .int .i64 old] 227)).alloc (.cells #[.int .i64 m, .int .i64 m, .bool false] 231)).alloc (.cells #[.int .i64 0, .int .i64 0] 227)) = W0 at *
      have hcw := cell_below hb0 hcell
      refine wp_region_held_drew (S := fun w' => w'.cell? ⟨b, off, none⟩ = some (.int .i64 p)) (by kernel_rfl) hcw (fun hHeld => ?_)
      refine tk 0 (some 18) (v := ?_) ?_ ?_
      rotate_left
      · intro w hSw
        first | (go_simp; done) | (go_simp; with_reducible rfl)
      try simp only [Act.put, List.setIfInBounds_toArray, List.set_cons_zero, List.set_cons_succ]
      refine tk 1 (some 19) (v := ?_) ?_ ?_
      rotate_left
      · intro w hSw
        first | (go_simp; done) | (go_simp; with_reducible rfl)
      try simp only [Act.put, List.setIfInBounds_toArray, List.set_cons_zero, List.set_cons_succ]
      refine tk 2 (some 20) (v := ?_) ?_ ?_
      rotate_left
      · intro w hSw
        first | (go_simp; done) | (go_simp; with_reducible rfl)
      try simp only [Act.put, List.setIfInBounds_toArray, List.set_cons_zero, List.set_cons_succ]
      refine tk 3 (some 21) (v := ?_) ?_ ?_
      rotate_left
      · intro w hSw
        first | (go_simp; done) | (go_simp; with_reducible rfl)
      try simp only [Act.put, List.setIfInBounds_toArray, List.set_cons_zero, List.set_cons_succ]
      refine tk 4 (some 22) (v := ?_) ?_ ?_
      rotate_left
      · intro w hSw
        first | (go_simp; done) | (go_simp; with_reducible rfl)
      try simp only [Act.put, List.setIfInBounds_toArray, List.set_cons_zero, List.set_cons_succ]
      refine tk 5 (some 23) (v := ?_) ?_ ?_
      rotate_left
      · intro w hSw
        first | (go_simp; done) | (go_simp; with_reducible rfl)
      try simp only [Act.put, List.setIfInBounds_toArray, List.set_cons_zero, List.set_cons_succ]
      refine tk 6 (some 24) (v := ?_) ?_ ?_
      rotate_left
      · intro w hSw
        first | (go_simp; done) | (go_simp; with_reducible rfl)
      try simp only [Act.put, List.setIfInBounds_toArray, List.set_cons_zero, List.set_cons_succ]
      have bR := bR.drew
      have hb0 := hb0.drew
      have hcw : W0.drew.cell? ⟨b, off, none⟩ = some (.int .i64 p) := hcw
      generalize W0.drew = V0 at *
      refine wpAnyH_ready (rs := [7]) (by kernel_rfl) (by simp) ?_
      have q0 := bR.cell 0 rfl; have q1 := bR.cell 1 rfl; have z0 := bR.frozen 0 rfl; have z1 := bR.frozen 1 rfl
      refine AllReadyH.cons (o := { dst := none, op := _, type := _, pos := _, after := _, guard := _ }) rfl (fun K hK => ?_) AllReadyH.nil
      go_simp
      have e1 : ((V0.setCell ⟨(w.heap.size + 1 + 1), 0, none⟩ (.int .i64 p)).setCell ⟨(w.heap.size + 1 + 1), 1, none⟩ (.int .i64 p)).cell? ⟨b, off, none⟩ = some (.int .i64 p) := (cell_putAll (g := (w.heap.size + 1 + 1)) [.int .i64 p, .int .i64 p] (by simp; omega)).trans hcw
      have ef : Box ((V0.setCell ⟨(w.heap.size + 1 + 1), 0, none⟩ (.int .i64 p)).setCell ⟨(w.heap.size + 1 + 1), 1, none⟩ (.int .i64 p)) (w.heap.size + 1 + 1) [.int .i64 p, .int .i64 p] := bR.store [.int .i64 p, .int .i64 p] rfl
      have eb : Below w.heap.size w ((V0.setCell ⟨(w.heap.size + 1 + 1), 0, none⟩ (.int .i64 p)).setCell ⟨(w.heap.size + 1 + 1), 1, none⟩ (.int .i64 p)) := below_putAll [.int .i64 p, .int .i64 p] 0 hb0 (by omega)
      refine hK.out _ _ e1 (fun hHeld => ?_)
      clear hK K hHeld
      try simp only [Act.put, List.setIfInBounds_toArray, List.set_cons_zero, List.set_cons_succ]
      generalize ((V0.setCell ⟨(w.heap.size + 1 + 1), 0, none⟩ (.int .i64 p)).setCell ⟨(w.heap.size + 1 + 1), 1, none⟩ (.int .i64 p)) = V1 at *
      refine tk 8 (some 7) (v := ?_) ?_ ?_
      rotate_left
      · intro w hSw
        first | (go_simp; done) | (go_simp; with_reducible rfl)
      try simp only [Act.put, List.setIfInBounds_toArray, List.set_cons_zero, List.set_cons_succ]
      refine wpAnyH_done (by kernel_rfl) ?_ _
      clear q0 q1 z0 z1 bR hcw hb0
      go_wp2_with fail
      have q0 := ef.cell 0 rfl; have q1 := ef.cell 1 rfl
      refine bodyPost_ret (v := .tuple #[.agg #[.int .i64 p, .int .i64 p], .bool true]) (by simp [results, Try.results246, go_sem, q0, q1]) rfl ⟨p, p, ?_, fun x hx => ?_, eb⟩
      · rw [unhide HU]; rfl
      · rw [unhide HU] at hx; cases hx; exact ⟨rfl, rfl⟩
    · have d1 : ((l : Int) != 1) = true := by rw [bne_iff_ne]; omega
      have hno : Tm.both m m old ps false = none := by
        rcases hps : ps with _ | ⟨x, r⟩
        · exact Tm.both_nil_not (by simp)
        · obtain ⟨k, hk⟩ : ∃ k, ps.length = k + 1 := ⟨r.length, by rw [hps]; simp⟩
          rw [← hps, Tm.snoc_of hk]
          refine Tm.both_all_not rfl ?_
          rintro ⟨-, h⟩
          have h2 : (ps.take k).length = k := by rw [List.length_take]; omega
          rw [h] at h2
          simp at h2
          omega
      have HU := hide hno
      clear hr hno
      go_enter Try.func246, Try.ntmps246
      go_wp2_with fail
      refine bodyPost_ret (v := .tuple #[.agg #[.int .i64 0, .int .i64 0], .bool false]) (by simp [results, Try.results246, go_sem]) rfl ⟨0, 0, ?_, fun x hx => ?_, ?_⟩
      · rw [unhide HU]; rfl
      · rw [unhide HU] at hx; cases hx
      · exact below_alloc2 (below_alloc2 (below_alloc2 (Below.refl _ _)))
  · have hU : (Tm.both m m old ps true).isSome = ((l : Int) == 0) ∧ ∀ x, Tm.both m m old ps true = some x → x = (old, old) := by
      rcases hps : ps with _ | ⟨x, r⟩
      · rw [Tm.both_nil_all rfl]
        rw [hps] at hl
        subst hl
        exact ⟨rfl, fun x hx => by cases hx; rfl⟩
      · obtain ⟨k, hk⟩ : ∃ k, ps.length = k + 1 := ⟨r.length, by rw [hps]; simp⟩
        rw [← hps, Tm.snoc_of hk, Tm.both_all_not rfl (by simp)]
        refine ⟨?_, fun x hx => by cases hx⟩
        rw [← hl, hk]
        symm
        rw [Option.isSome_none, beq_eq_false_iff_ne]
        omega
    have HU := hide hU
    clear hr hU
    go_enter Try.func246, Try.ntmps246
    go_wp2_with fail
    refine bodyPost_ret (v := .tuple #[.agg #[.int .i64 old, .int .i64 old], .bool ((l : Int) == 0)]) (by simp [results, Try.results246, go_sem]) rfl ⟨old, old, ?_, fun x hx => ?_, ?_⟩
    · rw [(unhide HU).1]
    · rw [(unhide HU).2 x hx]; exact ⟨rfl, rfl⟩
    · exact below_alloc2 (below_alloc2 (below_alloc2 (Below.refl _ _)))

set_option maxHeartbeats 2000000 in
theorem c248 (a b c d o : Int) (lb : Bool) (w : World) (ha : Tm.okB a = true) (hb : Tm.okB b = true) (ho : Tm.okB o = true) :
    Calls Try.prog 248 #[.agg #[.int .i64 a, .int .i64 b], .agg #[.int .i64 c, .int .i64 d, .bool lb], .int .i64 o] w fun e w' => e = .returned (.agg #[.int .i64 (if lb = true then a else Tm.pair o a), .int .i64 (if lb = true then Tm.pair b o else Tm.pair o b)]) ∧ Below w.heap.size w w' := by
  have HO := hide (And.intro ha (And.intro hb ho))
  clear ha hb ho
  generalize hy : (if lb = true then Tm.pair b o else Tm.pair o b) = y
  generalize hx : (if lb = true then a else Tm.pair o a) = x
  have HY := hide hy
  have HX := hide hx
  clear hx hy
  go_enter Try.func248, Try.ntmps248
  go_wp2_with fail
  have hb0 : Below _ _ (((w.alloc (.cells #[.int .i64 a, .int .i64 b] 227)).alloc (.cells #[.int .i64 c, .int .i64 d, .bool lb] 238)).alloc (.cells #[.int .i64 0, .int .i64 0] 227)) := (below_alloc2 (below_alloc2 (below_alloc2 (Below.refl _ _))))
  have bA : Box (((w.alloc (.cells #[.int .i64 a, .int .i64 b] 227)).alloc (.cells #[.int .i64 c, .int .i64 d, .bool lb] 238)).alloc (.cells #[.int .i64 0, .int .i64 0] 227)) (w.heap.size) [.int .i64 a, .int .i64 b] := by
    have h := ((box_new w [.int .i64 a, .int .i64 b] 227 (by simp [Value.oneCell'])).alloc (.cells #[.int .i64 c, .int .i64 d, .bool lb] 238)).alloc (.cells #[.int .i64 0, .int .i64 0] 227)
    exact h
  have bB : Box (((w.alloc (.cells #[.int .i64 a, .int .i64 b] 227)).alloc (.cells #[.int .i64 c, .int .i64 d, .bool lb] 238)).alloc (.cells #[.int .i64 0, .int .i64 0] 227)) (w.heap.size + 1) [.int .i64 c, .int .i64 d, .bool lb] := by
    have h := (box_new (w.alloc (.cells #[.int .i64 a, .int .i64 b] 227)) [.int .i64 c, .int .i64 d, .bool lb] 238 (by simp [Value.oneCell'])).alloc (.cells #[.int .i64 0, .int .i64 0] 227)
    rwa [World.size_alloc] at h
  have bC : Box (((w.alloc (.cells #[.int .i64 a, .int .i64 b] 227)).alloc (.cells #[.int .i64 c, .int .i64 d, .bool lb] 238)).alloc (.cells #[.int .i64 0, .int .i64 0] 227)) (w.heap.size + 1 + 1) [.int .i64 0, .int .i64 0] := by
    have h := box_new ((w.alloc (.cells #[.int .i64 a, .int .i64 b] 227)).alloc (.cells #[.int .i64 c, .int .i64 d, .bool lb] 238)) [.int .i64 0, .int .i64 0] 227 (by simp [Value.oneCell'])
    rwa [World.size_alloc, World.size_alloc] at h
  generalize (((w.alloc (.cells #[.int .i64 a, .int .i64 b] 227)).alloc (.cells #[.int .i64 c, .int .i64 d, .bool lb] 238)).alloc (.cells #[.int .i64 0, .int .i64 0] 227)) = W at *
  have HOK : Hid (∀ u v : Int, (if lb = true then b else o) = u → (if lb = true then o else b) = v → Tm.okB u = true ∧ Tm.okB v = true ∧ Tm.pair u v = y) := by
    intro u v hu hv
    have hy := unhide HY
    obtain ⟨o1, o2, o3⟩ := unhide HO
    cases lb
    · simp at hu hv hy; subst hu hv; exact ⟨o3, o2, hy⟩
    · simp at hu hv hy; subst hu hv; exact ⟨o2, o3, hy⟩
  generalize hu : (if lb = true then b else o) = u at *
  generalize hv : (if lb = true then o else b) = v at *
  obtain ⟨ou, ov, huv⟩ := unhide HOK u v rfl rfl
  have HU := hide (And.intro hu hv)
  have HUV := hide (And.intro ou (And.intro ov huv))
  clear hu hv ou ov huv HOK
  have HB0 := hide hb0
  clear hb0
  refine wp_mid1 (fun ga w' => Below W.heap.size W w' ∧ Box w' ga [.int .i64 a, .int .i64 y] ∧ W.heap.size ≤ ga) (fun A ga => A.put (some 8) (.pointer (some ⟨w.heap.size, 0, none⟩)) |>.put (some 9) (.int .i64 a) |>.put (some 10) (.agg #[.int .i64 c, .int .i64 d, .bool lb]) |>.put (some 11) (.pointer (some ⟨w.heap.size, 1, none⟩)) |>.put (some 12) (.int .i64 b) |>.put (some 13) (.int .i64 o) |>.put (some 14) (.agg #[.int .i64 u, .int .i64 v]) |>.put (some 15) (.int .i64 y) |>.put (some 16) (.agg #[.int .i64 a, .int .i64 y]) |>.put (some 7) (.pointer (some ⟨ga, 0, none⟩))) ?_ ?_
  · refine wp_region_held_drew (S := fun w' => Below W.heap.size W w') (by kernel_rfl) (below_drew W) (fun hHeld => ?_)
    refine wpAnyH_take (i := 0) (oi := { dst := some 8, op := _, type := _, pos := _, after := _, guard := _ }) (v := ?_) rfl (by kernel_rfl) (by kernel_rfl) (by kernel_rfl) (fun _ _ _ h => by cases h.1) (Or.inl ⟨by rfl, ?_⟩) (by assumption) ?_
    rotate_left
    · intro w hSw
      first | (go_simp; done) | (go_simp; with_reducible rfl)
    try simp only [Act.put, List.setIfInBounds_toArray, List.set_cons_zero, List.set_cons_succ]
    refine wpAnyH_take (i := 1) (oi := { dst := some 9, op := _, type := _, pos := _, after := _, guard := _ }) (v := ?_) rfl (by kernel_rfl) (by kernel_rfl) (by kernel_rfl) (fun _ _ _ h => by cases h.1) (Or.inl ⟨by rfl, ?_⟩) (by assumption) ?_
    rotate_left
    · intro w hSw
      have hA := bA.below hSw; have hB := bB.below hSw; have q0 := hA.cell 0 rfl; have q1 := hA.cell 1 rfl; have r0 := hB.cell 0 rfl; have r1 := hB.cell 1 rfl; have r2 := hB.cell 2 rfl
      first | (go_simp; done) | (go_simp; with_reducible rfl)
    try simp only [Act.put, List.setIfInBounds_toArray, List.set_cons_zero, List.set_cons_succ]
    refine wpAnyH_take (i := 2) (oi := { dst := some 10, op := _, type := _, pos := _, after := _, guard := _ }) (v := ?_) rfl (by kernel_rfl) (by kernel_rfl) (by kernel_rfl) (fun _ _ _ h => by cases h.1) (Or.inl ⟨by rfl, ?_⟩) (by assumption) ?_
    rotate_left
    · intro w hSw
      have hA := bA.below hSw; have hB := bB.below hSw; have q0 := hA.cell 0 rfl; have q1 := hA.cell 1 rfl; have r0 := hB.cell 0 rfl; have r1 := hB.cell 1 rfl; have r2 := hB.cell 2 rfl
      first | (go_simp; done) | (go_simp; with_reducible rfl)
    try simp only [Act.put, List.setIfInBounds_toArray, List.set_cons_zero, List.set_cons_succ]
    refine wpAnyH_take (i := 3) (oi := { dst := some 11, op := _, type := _, pos := _, after := _, guard := _ }) (v := ?_) rfl (by kernel_rfl) (by kernel_rfl) (by kernel_rfl) (fun _ _ _ h => by cases h.1) (Or.inl ⟨by rfl, ?_⟩) (by assumption) ?_
    rotate_left
    · intro w hSw
      first | (go_simp; done) | (go_simp; with_reducible rfl)
    try simp only [Act.put, List.setIfInBounds_toArray, List.set_cons_zero, List.set_cons_succ]
    refine wpAnyH_take (i := 4) (oi := { dst := some 12, op := _, type := _, pos := _, after := _, guard := _ }) (v := ?_) rfl (by kernel_rfl) (by kernel_rfl) (by kernel_rfl) (fun _ _ _ h => by cases h.1) (Or.inl ⟨by rfl, ?_⟩) (by assumption) ?_
    rotate_left
    · intro w hSw
      have hA := bA.below hSw; have hB := bB.below hSw; have q0 := hA.cell 0 rfl; have q1 := hA.cell 1 rfl; have r0 := hB.cell 0 rfl; have r1 := hB.cell 1 rfl; have r2 := hB.cell 2 rfl
      first | (go_simp; done) | (go_simp; with_reducible rfl)
    try simp only [Act.put, List.setIfInBounds_toArray, List.set_cons_zero, List.set_cons_succ]
    refine wpAnyH_take (i := 5) (oi := { dst := some 13, op := _, type := _, pos := _, after := _, guard := _ }) (v := ?_) rfl (by kernel_rfl) (by kernel_rfl) (by kernel_rfl) (fun _ _ _ h => by cases h.1) (Or.inl ⟨by rfl, ?_⟩) (by assumption) ?_
    rotate_left
    · intro w hSw
      first | (go_simp; done) | (go_simp; with_reducible rfl)
    try simp only [Act.put, List.setIfInBounds_toArray, List.set_cons_zero, List.set_cons_succ]
    have HB := below_drew W
    generalize W.drew = V0 at *
    refine wpAnyH_ready (rs := [6, 9]) (by kernel_rfl) (by simp) ?_
    refine AllReadyH.cons (o := { dst := some 14, op := _, type := _, pos := _, after := _, guard := _ }) rfl (fun K hK => ?_) ?_
    · go_simp
      go_at_call 261
      refine (c261 _ _ _ _ _ _).mono ?_
      rintro e v1 ⟨rfl, hbn⟩
      rw [(unhide HU).1, (unhide HU).2]
      have HB := below_then HB hbn
      clear hbn
      try go_wp2_with fail
      refine hK.out _ _ HB (fun hHeld => ?_)
      clear hK K hHeld
      try simp only [Act.put, List.setIfInBounds_toArray, List.set_cons_zero, List.set_cons_succ]
      refine wpAnyH_ready (rs := [7, 9]) (by kernel_rfl) (by simp) ?_
      refine AllReadyH.cons (o := { dst := some 15, op := _, type := _, pos := _, after := _, guard := _ }) rfl (fun K hK => ?_) ?_
      · go_simp
        go_at_call 262
        refine (c262 _ _ _ (unhide HUV).1 (unhide HUV).2.1).mono ?_
        rintro e v2 ⟨rfl, hbn⟩
        rw [(unhide HUV).2.2]
        have HB := below_then HB hbn
        clear hbn
        try go_wp2_with fail
        refine hK.out _ _ HB (fun hHeld => ?_)
        clear hK K hHeld
        try simp only [Act.put, List.setIfInBounds_toArray, List.set_cons_zero, List.set_cons_succ]
        refine wpAnyH_take (i := 8) (oi := { dst := some 16, op := _, type := _, pos := _, after := _, guard := _ }) (v := ?_) rfl (by kernel_rfl) (by kernel_rfl) (by kernel_rfl) (fun _ _ _ h => by cases h.1) (Or.inl ⟨by rfl, ?_⟩) (by assumption) ?_
        rotate_left
        · intro w hSw
          first | (go_simp; done) | (go_simp; with_reducible rfl)
        try simp only [Act.put, List.setIfInBounds_toArray, List.set_cons_zero, List.set_cons_succ]
        refine wpAnyH_ready (rs := [9]) (by kernel_rfl) (by simp) ?_
        refine AllReadyH.cons (o := { dst := some 7, op := _, type := _, pos := _, after := _, guard := _ }) rfl (fun K hK => ?_) ?_
        · go_simp
          refine hK.out _ _ (below_alloc2 HB) (fun hHeld => ?_)
          clear hK K hHeld
          try simp only [Act.put, List.setIfInBounds_toArray, List.set_cons_zero, List.set_cons_succ]
          have fA : Box (v2.alloc (.cells #[.int .i64 0, .int .i64 0] 227)) v2.heap.size [.int .i64 0, .int .i64 0] := box_new v2 [.int .i64 0, .int .i64 0] 227 (by simp [Value.oneCell'])
          have hga := HB.size
          have HB := below_alloc2 (o := .cells #[.int .i64 0, .int .i64 0] 227) HB
          generalize v2.alloc (.cells #[.int .i64 0, .int .i64 0] 227) = v3 at *
          generalize v2.heap.size = ga at *
          refine wpAnyH_ready (rs := [10]) (by kernel_rfl) (by simp) ?_
          have q0 := fA.cell 0 rfl; have q1 := fA.cell 1 rfl; have z0 := fA.frozen 0 rfl; have z1 := fA.frozen 1 rfl
          refine AllReadyH.cons (o := { dst := none, op := _, type := _, pos := _, after := _, guard := _ }) rfl (fun K hK => ?_) AllReadyH.nil
          go_simp
          have ef : Box ((v3.setCell ⟨ga, 0, none⟩ (.int .i64 a)).setCell ⟨ga, 1, none⟩ (.int .i64 y)) ga [.int .i64 a, .int .i64 y] := fA.store [.int .i64 a, .int .i64 y] rfl
          have eb : Below W.heap.size W ((v3.setCell ⟨ga, 0, none⟩ (.int .i64 a)).setCell ⟨ga, 1, none⟩ (.int .i64 y)) := below_putAll [.int .i64 a, .int .i64 y] 0 HB hga
          refine hK.out _ _ eb (fun hHeld => ?_)
          clear hK K hHeld
          try simp only [Act.put, List.setIfInBounds_toArray, List.set_cons_zero, List.set_cons_succ]
          exact wpAnyH_done (by kernel_rfl) ⟨rfl, ga, rfl, eb, ef, hga⟩ _
        exact AllReadyH.nil
      refine AllReadyH.cons (o := { dst := some 7, op := _, type := _, pos := _, after := _, guard := _ }) rfl (fun K hK => ?_) ?_
      · go_simp
        refine hK.out _ _ (below_alloc2 HB) (fun hHeld => ?_)
        clear hK K hHeld
        try simp only [Act.put, List.setIfInBounds_toArray, List.set_cons_zero, List.set_cons_succ]
        have fA : Box (v1.alloc (.cells #[.int .i64 0, .int .i64 0] 227)) v1.heap.size [.int .i64 0, .int .i64 0] := box_new v1 [.int .i64 0, .int .i64 0] 227 (by simp [Value.oneCell'])
        have hga := HB.size
        have HB := below_alloc2 (o := .cells #[.int .i64 0, .int .i64 0] 227) HB
        generalize v1.alloc (.cells #[.int .i64 0, .int .i64 0] 227) = v4 at *
        generalize v1.heap.size = ga at *
        refine wpAnyH_ready (rs := [7]) (by kernel_rfl) (by simp) ?_
        refine AllReadyH.cons (o := { dst := some 15, op := _, type := _, pos := _, after := _, guard := _ }) rfl (fun K hK => ?_) ?_
        · go_simp
          go_at_call 262
          refine (c262 _ _ _ (unhide HUV).1 (unhide HUV).2.1).mono ?_
          rintro e v5 ⟨rfl, hbn⟩
          rw [(unhide HUV).2.2]
          have HB := below_then HB hbn
          have fA := fA.below hbn
          clear hbn
          try go_wp2_with fail
          refine hK.out _ _ HB (fun hHeld => ?_)
          clear hK K hHeld
          try simp only [Act.put, List.setIfInBounds_toArray, List.set_cons_zero, List.set_cons_succ]
          refine wpAnyH_take (i := 8) (oi := { dst := some 16, op := _, type := _, pos := _, after := _, guard := _ }) (v := ?_) rfl (by kernel_rfl) (by kernel_rfl) (by kernel_rfl) (fun _ _ _ h => by cases h.1) (Or.inl ⟨by rfl, ?_⟩) (by assumption) ?_
          rotate_left
          · intro w hSw
            first | (go_simp; done) | (go_simp; with_reducible rfl)
          try simp only [Act.put, List.setIfInBounds_toArray, List.set_cons_zero, List.set_cons_succ]
          refine wpAnyH_ready (rs := [10]) (by kernel_rfl) (by simp) ?_
          have q0 := fA.cell 0 rfl; have q1 := fA.cell 1 rfl; have z0 := fA.frozen 0 rfl; have z1 := fA.frozen 1 rfl
          refine AllReadyH.cons (o := { dst := none, op := _, type := _, pos := _, after := _, guard := _ }) rfl (fun K hK => ?_) AllReadyH.nil
          go_simp
          have ef : Box ((v5.setCell ⟨ga, 0, none⟩ (.int .i64 a)).setCell ⟨ga, 1, none⟩ (.int .i64 y)) ga [.int .i64 a, .int .i64 y] := fA.store [.int .i64 a, .int .i64 y] rfl
          have eb : Below W.heap.size W ((v5.setCell ⟨ga, 0, none⟩ (.int .i64 a)).setCell ⟨ga, 1, none⟩ (.int .i64 y)) := below_putAll [.int .i64 a, .int .i64 y] 0 HB hga
          refine hK.out _ _ eb (fun hHeld => ?_)
          clear hK K hHeld
          try simp only [Act.put, List.setIfInBounds_toArray, List.set_cons_zero, List.set_cons_succ]
          exact wpAnyH_done (by kernel_rfl) ⟨rfl, ga, rfl, eb, ef, hga⟩ _
        exact AllReadyH.nil
      exact AllReadyH.nil
    refine AllReadyH.cons (o := { dst := some 7, op := _, type := _, pos := _, after := _, guard := _ }) rfl (fun K hK => ?_) ?_
    · go_simp
      refine hK.out _ _ (below_alloc2 HB) (fun hHeld => ?_)
      clear hK K hHeld
      try simp only [Act.put, List.setIfInBounds_toArray, List.set_cons_zero, List.set_cons_succ]
      have fA : Box (V0.alloc (.cells #[.int .i64 0, .int .i64 0] 227)) V0.heap.size [.int .i64 0, .int .i64 0] := box_new V0 [.int .i64 0, .int .i64 0] 227 (by simp [Value.oneCell'])
      have hga := HB.size
      have HB := below_alloc2 (o := .cells #[.int .i64 0, .int .i64 0] 227) HB
      generalize V0.alloc (.cells #[.int .i64 0, .int .i64 0] 227) = v6 at *
      generalize V0.heap.size = ga at *
      refine wpAnyH_ready (rs := [6]) (by kernel_rfl) (by simp) ?_
      refine AllReadyH.cons (o := { dst := some 14, op := _, type := _, pos := _, after := _, guard := _ }) rfl (fun K hK => ?_) ?_
      · go_simp
        go_at_call 261
        refine (c261 _ _ _ _ _ _).mono ?_
        rintro e v7 ⟨rfl, hbn⟩
        rw [(unhide HU).1, (unhide HU).2]
        have HB := below_then HB hbn
        have fA := fA.below hbn
        clear hbn
        try go_wp2_with fail
        refine hK.out _ _ HB (fun hHeld => ?_)
        clear hK K hHeld
        try simp only [Act.put, List.setIfInBounds_toArray, List.set_cons_zero, List.set_cons_succ]
        refine wpAnyH_ready (rs := [7]) (by kernel_rfl) (by simp) ?_
        refine AllReadyH.cons (o := { dst := some 15, op := _, type := _, pos := _, after := _, guard := _ }) rfl (fun K hK => ?_) ?_
        · go_simp
          go_at_call 262
          refine (c262 _ _ _ (unhide HUV).1 (unhide HUV).2.1).mono ?_
          rintro e v8 ⟨rfl, hbn⟩
          rw [(unhide HUV).2.2]
          have HB := below_then HB hbn
          have fA := fA.below hbn
          clear hbn
          try go_wp2_with fail
          refine hK.out _ _ HB (fun hHeld => ?_)
          clear hK K hHeld
          try simp only [Act.put, List.setIfInBounds_toArray, List.set_cons_zero, List.set_cons_succ]
          refine wpAnyH_take (i := 8) (oi := { dst := some 16, op := _, type := _, pos := _, after := _, guard := _ }) (v := ?_) rfl (by kernel_rfl) (by kernel_rfl) (by kernel_rfl) (fun _ _ _ h => by cases h.1) (Or.inl ⟨by rfl, ?_⟩) (by assumption) ?_
          rotate_left
          · intro w hSw
            first | (go_simp; done) | (go_simp; with_reducible rfl)
          try simp only [Act.put, List.setIfInBounds_toArray, List.set_cons_zero, List.set_cons_succ]
          refine wpAnyH_ready (rs := [10]) (by kernel_rfl) (by simp) ?_
          have q0 := fA.cell 0 rfl; have q1 := fA.cell 1 rfl; have z0 := fA.frozen 0 rfl; have z1 := fA.frozen 1 rfl
          refine AllReadyH.cons (o := { dst := none, op := _, type := _, pos := _, after := _, guard := _ }) rfl (fun K hK => ?_) AllReadyH.nil
          go_simp
          have ef : Box ((v8.setCell ⟨ga, 0, none⟩ (.int .i64 a)).setCell ⟨ga, 1, none⟩ (.int .i64 y)) ga [.int .i64 a, .int .i64 y] := fA.store [.int .i64 a, .int .i64 y] rfl
          have eb : Below W.heap.size W ((v8.setCell ⟨ga, 0, none⟩ (.int .i64 a)).setCell ⟨ga, 1, none⟩ (.int .i64 y)) := below_putAll [.int .i64 a, .int .i64 y] 0 HB hga
          refine hK.out _ _ eb (fun hHeld => ?_)
          clear hK K hHeld
          try simp only [Act.put, List.setIfInBounds_toArray, List.set_cons_zero, List.set_cons_succ]
          exact wpAnyH_done (by kernel_rfl) ⟨rfl, ga, rfl, eb, ef, hga⟩ _
        exact AllReadyH.nil
      exact AllReadyH.nil
    exact AllReadyH.nil
  · rintro ga w3 ⟨hb3, fA, hga⟩
    simp only [Act.put, List.setIfInBounds_toArray, List.set_cons_zero, List.set_cons_succ, Exit.then]
    have bA := bA.below hb3
    have hltC := bC.lt
    have bC := bC.below hb3
    have bB := bB.below hb3
    have HB3 := hide (below_then (unhide HB0) hb3)
    clear hb3
    cases lb
    · have q0 := bA.cell 0 rfl; have q1 := bA.cell 1 rfl; have r0 := bB.cell 0 rfl; have r1 := bB.cell 1 rfl; have r2 := bB.cell 2 rfl
      have hx := unhide HX
      simp only [Bool.false_eq_true, if_false] at hx
      go_wp2_with fail
      refine (c261 _ _ _ _ _ _).mono ?_
      rintro e w4 ⟨rfl, hb4⟩
      simp only [Bool.false_eq_true, if_false]
      have bC := bC.below hb4
      have fA := fA.below hb4
      have HB4 := hide (below_then (unhide HB3) hb4)
      clear hb4 q0 q1 r0 r1 r2 bA bB HB3
      go_wp2_with fail
      refine (c262 _ _ _ (unhide HO).2.2 (unhide HO).1).mono ?_
      rintro e w5 ⟨rfl, hb5⟩
      rw [hx]
      have bC := bC.below hb5
      have fA := fA.below hb5
      have HB5 := hide (below_then (unhide HB4) hb5)
      clear hb5 HB4 hx
      have q0 := fA.cell 0 rfl; have q1 := fA.cell 1 rfl; have y0 := fA.frozen 0 rfl; have s0 := bC.cell 0 rfl; have s1 := bC.cell 1 rfl; have z0 := bC.frozen 0 rfl; have z1 := bC.frozen 1 rfl
      have e0 : (w5.setCell ⟨ga, 0, none⟩ (.int .i64 x)).cell? ⟨ga, 0, none⟩ = some (.int .i64 x) := World.cell?_setCell_same _ _ _ q0
      have e1 : (w5.setCell ⟨ga, 0, none⟩ (.int .i64 x)).cell? ⟨ga, 1, none⟩ = some (.int .i64 y) := (World.cell?_setCell_other _ _ _ _ (by simp)).trans q1
      have bC2 : Box (w5.setCell ⟨ga, 0, none⟩ (.int .i64 x)) (w.heap.size + 1 + 1) [.int .i64 0, .int .i64 0] := bC.other (g' := ga) (by omega) [.int .i64 x]
      have HB6 := hide ((unhide HB5).setCell (p := ⟨ga, 0, none⟩) (by have := (unhide HB0).size; simp only; omega) (.int .i64 x))
      clear s0 s1 z0 z1 bC
      have s0 := bC2.cell 0 rfl; have s1 := bC2.cell 1 rfl; have z0 := bC2.frozen 0 rfl; have z1 := bC2.frozen 1 rfl
      go_wp2_with fail
      have hE : Box (((w5.setCell ⟨ga, 0, none⟩ (.int .i64 x)).setCell ⟨w.heap.size + 1 + 1, 0, none⟩ (.int .i64 x)).setCell ⟨w.heap.size + 1 + 1, 1, none⟩ (.int .i64 y)) (w.heap.size + 1 + 1) [.int .i64 x, .int .i64 y] := bC2.store [.int .i64 x, .int .i64 y] rfl
      have hF : Below w.heap.size w (((w5.setCell ⟨ga, 0, none⟩ (.int .i64 x)).setCell ⟨w.heap.size + 1 + 1, 0, none⟩ (.int .i64 x)).setCell ⟨w.heap.size + 1 + 1, 1, none⟩ (.int .i64 y)) := below_putAll [.int .i64 x, .int .i64 y] 0 (unhide HB6) (by omega)
      have t0 := hE.cell 0 rfl; have t1 := hE.cell 1 rfl
      clear s0 s1 z0 z1 q0 q1 y0 e0 e1
      generalize ((w5.setCell ⟨ga, 0, none⟩ (.int .i64 x)).setCell ⟨w.heap.size + 1 + 1, 0, none⟩ (.int .i64 x)).setCell ⟨w.heap.size + 1 + 1, 1, none⟩ (.int .i64 y) = VV at *
      exact bodyPost_ret (v := .agg #[.int .i64 x, .int .i64 y]) (by simp [results, Try.results248, go_sem, t0, t1]) rfl ⟨rfl, hF⟩
    · have r2 := bB.cell 2 rfl; have q0 := fA.cell 0 rfl; have q1 := fA.cell 1 rfl; have s0 := bC.cell 0 rfl; have s1 := bC.cell 1 rfl; have z0 := bC.frozen 0 rfl; have z1 := bC.frozen 1 rfl
      have hx := unhide HX
      simp only [if_true] at hx
      subst hx
      go_wp2_with fail
      have hE : Box ((w3.setCell ⟨w.heap.size + 1 + 1, 0, none⟩ (.int .i64 a)).setCell ⟨w.heap.size + 1 + 1, 1, none⟩ (.int .i64 y)) (w.heap.size + 1 + 1) [.int .i64 a, .int .i64 y] := bC.store [.int .i64 a, .int .i64 y] rfl
      have hF : Below w.heap.size w ((w3.setCell ⟨w.heap.size + 1 + 1, 0, none⟩ (.int .i64 a)).setCell ⟨w.heap.size + 1 + 1, 1, none⟩ (.int .i64 y)) := below_putAll [.int .i64 a, .int .i64 y] 0 (unhide HB3) (by omega)
      have t0 := hE.cell 0 rfl; have t1 := hE.cell 1 rfl
      clear s0 s1 z0 z1 q0 q1 r2
      generalize (w3.setCell ⟨w.heap.size + 1 + 1, 0, none⟩ (.int .i64 a)).setCell ⟨w.heap.size + 1 + 1, 1, none⟩ (.int .i64 y) = VV at *
      exact bodyPost_ret (v := .agg #[.int .i64 a, .int .i64 y]) (by simp [results, Try.results248, go_sem, t0, t1]) rfl ⟨rfl, hF⟩
end Go.Proofs.Ytmlbphmbffkdnaa
