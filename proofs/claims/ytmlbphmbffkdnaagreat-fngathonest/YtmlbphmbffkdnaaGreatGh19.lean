/-
  Texts of the proof, what it needs of them: Drw.
-/
import Derived.Test.YtmlbphmbffkdnaaGreatGh16
import Derived.Test.YtmlbphmbffkdnaaGreatGh18
namespace Go.Proofs.YtmlbphmbffkdnaaGreat
open Go.RowKit
set_option linter.unusedVariables false
set_option maxRecDepth 100000

/-- what a draw of a row leaves -/
def RowD (w : World) (r k : Nat) (e : Ending) (w' : World) : Prop :=
  ∃ (a c : Int) (d : Bool), e = .returned (rowV a c d) ∧ (-1 ≤ a ∧ a ≤ 5) ∧ c ∈ [0, 10, 50, 51, -1] ∧ Rd w' r k ∧ w.grownBy w' (some r)
theorem grown_three (w : World) (g : Nat) (a b c : Value) : w.grownBy (((w.setCell ⟨g, 0, none⟩ a).setCell ⟨g, 1, none⟩ b).setCell ⟨g, 2, none⟩ c) (some g) :=
  grown_trans (grown_trans (grown_cel _ _ _ _) (grown_cel _ _ _ _)) (grown_cel _ _ _ _)
/-- what was read of numbers that are written out is read of them wherever they lie so -/
theorem lit_any {w : World} {g j : Nat} {y : Int} {l : List Int} (h : w.cell? ⟨g, j, none⟩ = some (.int .i64 y)) (hl : Lits w g l) (hj : j < l.length) (W : World) (hW : Lits W g l) : W.cell? ⟨g, j, none⟩ = some (.int .i64 y) := by
  have e : ((l.map (Value.int .i64)).toArray)[j]? = some (.int .i64 l[j]) := by simp [hj]
  rw [hl j _ e] at h
  rw [hW j _ e]
  exact h

set_option maxHeartbeats 4000000 in
theorem c30 (r k : Nat) (w : World) (hk : k ≤ 1000000) (h : Rd w r k) :
    Calls Tryz.prog 30 #[.pointer (some ⟨r, 0, none⟩)] w (RowD w r (k + 3)) := by
  have hrl := h.lt
  have HX := box_new w [.int .i64 0, .int .i64 0, .bool false] 29 (by simp [Value.oneCell'])
  have HR := h.alloc (.cells #[.int .i64 0, .int .i64 0, .bool false] 29)
  have HG := World.grownBy_alloc w (.cells #[.int .i64 0, .int .i64 0, .bool false] 29) (some r)
  have HX' := hide HX
  have HR' := hide HR
  have HG' := hide HG
  clear h HX HR HG
  go_enter Tryz.func30, Tryz.ntmps30
  go_wp2_with fail
  have HX := (unhide HX').drew
  have HR := (unhide HR').kept (grown_drew _ none) (fun b hb => by cases hb)
  have HG := grown_trans (unhide HG') (grown_drew _ (some r))
  clear HX' HR' HG'
  refine wp_region_held_drew (S := fun _ => True) (by kernel_rfl) trivial (fun hHeld => ?_)
  generalize (w.alloc (.cells #[.int .i64 0, .int .i64 0, .bool false] 29)).drew = V0 at *
  have hSn : (fun _ : World => True) V0 := trivial
  refine tk 0 (some 3) (v := ?_) ?_ ?_
  rotate_left
  · intro w hSw
    first | (go_simp; done) | (go_simp; with_reducible rfl)
  try simp only [Act.put, List.setIfInBounds_toArray, List.set_cons_zero, List.set_cons_succ]
  clear hSn
  have hSn : (fun _ : World => True) V0 := trivial
  refine tk 4 (some 7) (v := ?_) ?_ ?_
  rotate_left
  · intro w hSw
    first | (go_simp; done) | (go_simp; with_reducible rfl)
  try simp only [Act.put, List.setIfInBounds_toArray, List.set_cons_zero, List.set_cons_succ]
  clear hSn
  have hSn : (fun _ : World => True) V0 := trivial
  refine tk 8 (some 11) (v := ?_) ?_ ?_
  rotate_left
  · intro w hSw
    first | (go_simp; done) | (go_simp; with_reducible rfl)
  try simp only [Act.put, List.setIfInBounds_toArray, List.set_cons_zero, List.set_cons_succ]
  clear hSn
  refine wpAnyH_ready (rs := [1, 3]) (by kernel_rfl) (by simp) ?_
  refine AllReadyH.cons (o := { dst := some 4, op := _, type := _, pos := _, after := _, guard := _ }) rfl (fun K hK => ?_) ?_
  · go_simp
    go_at_call 26
    refine (c26 _ (k) 7 _ (by omega) HR).mono ?_
    rintro e v1 ⟨x1, rfl, x1a, x1b, hr, hg⟩
    have x1b := x1b (by omega)
    have HR := hr
    have HG := grown_trans HG hg
    have HX := HX.kpt hg (fun e => by simp only [Option.some.injEq] at e; omega)
    skip
    clear hr hg
    try go_wp2_with fail
    refine hK.out _ _ trivial (fun hHeld => ?_)
    clear hK K hHeld
    try simp only [Act.put, List.setIfInBounds_toArray, List.set_cons_zero, List.set_cons_succ]
    have hwr : IntKind.i64.wrap (x1 - 1) = x1 - 1 := wrap_sub (by omega) (by omega)
    have hSn : (fun _ : World => True) v1 := trivial
    refine tk 2 (some 5) (v := ?_) ?_ ?_
    rotate_left
    · intro w hSw
      first | (go_simp; done) | (go_simp; with_reducible rfl)
    try simp only [Act.put, List.setIfInBounds_toArray, List.set_cons_zero, List.set_cons_succ]
    clear hSn
    refine wpAnyH_ready (rs := [3, 5]) (by kernel_rfl) (by simp) ?_
    refine AllReadyH.cons (o := { dst := some 6, op := _, type := _, pos := _, after := _, guard := _ }) rfl (fun K hK => ?_) ?_
    · go_simp
      refine hK.out _ _ trivial (fun hHeld => ?_)
      clear hK K hHeld
      try simp only [Act.put, List.setIfInBounds_toArray, List.set_cons_zero, List.set_cons_succ]
      have HL : Lits (v1.alloc (.cells #[.int .i64 (0), .int .i64 (10), .int .i64 (50), .int .i64 (51), .int .i64 (-1)] 3)) v1.heap.size [0, 10, 50, 51, -1] := lits_new v1 [0, 10, 50, 51, -1]
      have hgb : r < v1.heap.size := Nat.lt_of_lt_of_le hrl (Nat.le_trans (Nat.le_refl _) HG.size)
      have hga := World.grownBy_alloc v1 (.cells #[.int .i64 (0), .int .i64 (10), .int .i64 (50), .int .i64 (51), .int .i64 (-1)] 3) (some r)
      have HR := HR.alloc (.cells #[.int .i64 (0), .int .i64 (10), .int .i64 (50), .int .i64 (51), .int .i64 (-1)] 3)
      have HG := grown_trans HG hga
      have HX := HX.alloc (.cells #[.int .i64 (0), .int .i64 (10), .int .i64 (50), .int .i64 (51), .int .i64 (-1)] 3)
      clear hga
      generalize v1.alloc (.cells #[.int .i64 (0), .int .i64 (10), .int .i64 (50), .int .i64 (51), .int .i64 (-1)] 3) = v2 at *
      generalize v1.heap.size = gb at *
      refine wpAnyH_ready (rs := [5]) (by kernel_rfl) (by simp) ?_
      refine AllReadyH.cons (o := { dst := some 8, op := _, type := _, pos := _, after := _, guard := _ }) rfl (fun K hK => ?_) ?_
      · go_simp
        go_at_call 26
        refine (c26 _ (k + 1) 5 _ (by omega) HR).mono ?_
        rintro e v3 ⟨x2, rfl, x2a, x2b, hr, hg⟩
        have x2b := x2b (by omega)
        have HR := hr
        have HG := grown_trans HG hg
        have HX := HX.kpt hg (fun e => by simp only [Option.some.injEq] at e; omega)
        have HL := HL.kept hg hgb
        skip
        clear hr hg
        try go_wp2_with fail
        refine hK.out _ _ trivial (fun hHeld => ?_)
        clear hK K hHeld
        try simp only [Act.put, List.setIfInBounds_toArray, List.set_cons_zero, List.set_cons_succ]
        obtain ⟨jN, y, rfl, hjN, hy, hcy0⟩ := lit_val (l := [0, 10, 50, 51, -1]) HL x2a (by simpa using x2b)
        have hj9 : jN < 5 := by simpa using hjN
        have hjI : (jN : Int) < 5 := by omega
        have hjP : (0 : Int) ≤ (jN : Int) := by omega
        have hyG : ∀ W : World, Lits W gb [0, 10, 50, 51, -1] → W.cell? ⟨gb, jN, none⟩ = some (.int .i64 y) := lit_any hcy0 HL hjN
        clear hcy0
        have hSn : (fun _ : World => True) v3 := trivial
        refine tk 6 (some 9) (v := ?_) ?_ ?_
        rotate_left
        · intro w hSw
          first | (go_simp; done) | (go_simp; with_reducible rfl)
        try simp only [Act.put, List.setIfInBounds_toArray, List.set_cons_zero, List.set_cons_succ]
        clear hSn
        refine wpAnyH_ready (rs := [7, 9]) (by kernel_rfl) (by simp) ?_
        refine AllReadyH.cons (o := { dst := some 10, op := _, type := _, pos := _, after := _, guard := _ }) rfl (fun K hK => ?_) ?_
        · have hcy := hyG v3 HL
          go_simp
          try go_wp2_with fail
          refine hK.out _ _ trivial (fun hHeld => ?_)
          clear hK K hHeld
          try simp only [Act.put, List.setIfInBounds_toArray, List.set_cons_zero, List.set_cons_succ]
          refine wpAnyH_ready (rs := [9]) (by kernel_rfl) (by simp) ?_
          refine AllReadyH.cons (o := { dst := some 12, op := _, type := _, pos := _, after := _, guard := _ }) rfl (fun K hK => ?_) ?_
          · go_simp
            go_at_call 26
            refine (c26 _ (k + 1 + 1) 2 _ (by omega) HR).mono ?_
            rintro e v5 ⟨x3, rfl, x3a, x3b, hr, hg⟩
            have x3b := x3b (by omega)
            have HR := hr
            have HG := grown_trans HG hg
            have HX := HX.kpt hg (fun e => by simp only [Option.some.injEq] at e; omega)
            have HL := HL.kept hg hgb
            skip
            clear hr hg
            try go_wp2_with fail
            refine hK.out _ _ trivial (fun hHeld => ?_)
            clear hK K hHeld
            try simp only [Act.put, List.setIfInBounds_toArray, List.set_cons_zero, List.set_cons_succ]
            have hSn : (fun _ : World => True) v5 := trivial
            refine tk 10 (some 13) (v := ?_) ?_ ?_
            rotate_left
            · intro w hSw
              first | (go_simp; done) | (go_simp; with_reducible rfl)
            try simp only [Act.put, List.setIfInBounds_toArray, List.set_cons_zero, List.set_cons_succ]
            clear hSn
            have hSn : (fun _ : World => True) v5 := trivial
            refine tk 11 (some 14) (v := ?_) ?_ ?_
            rotate_left
            · intro w hSw
              first | (go_simp; done) | (go_simp; with_reducible rfl)
            try simp only [Act.put, List.setIfInBounds_toArray, List.set_cons_zero, List.set_cons_succ]
            clear hSn
            refine wpAnyH_ready (rs := [12]) (by kernel_rfl) (by simp) ?_
            refine AllReadyH.cons (o := { dst := none, op := _, type := _, pos := _, after := _, guard := _ }) rfl (fun K hK => ?_) ?_
            · have q0 := HX.cell 0 rfl
              have q1 := HX.cell 1 rfl
              have q2 := HX.cell 2 rfl
              have p0 := HX.frozen 0 rfl
              have p1 := HX.frozen 1 rfl
              have p2 := HX.frozen 2 rfl
              go_simp
              try go_wp2_with fail
              have hgs := grown_three v5 w.heap.size (.int .i64 (x1 - 1)) (.int .i64 y) (.bool (x3 == 0))
              have HB1 := ((box_put (box_put (box_put HX 0 (.int .i64 (x1 - 1)) (by simp)) 1 (.int .i64 y) (by simp)) 2 (.bool (x3 == 0)) (by simp)))
              have HR := HR.kept hgs (fun b hb => by cases hb; omega)
              have HG := grown_new HG hgs (Nat.le_refl _)
              have e0 := HB1.cell 0 rfl
              have e1 := HB1.cell 1 rfl
              have e2 := HB1.cell 2 rfl
              clear hgs HB1 HX q0 q1 q2 p0 p1 p2
              refine hK.out _ _ trivial (fun hHeld => ?_)
              clear hK K hHeld
              try simp only [Act.put, List.setIfInBounds_toArray, List.set_cons_zero, List.set_cons_succ]
              generalize ((v5.setCell ⟨w.heap.size, 0, none⟩ (.int .i64 (x1 - 1))).setCell ⟨w.heap.size, 1, none⟩ (.int .i64 y)).setCell ⟨w.heap.size, 2, none⟩ (.bool (x3 == 0)) = v6 at *
              refine wpAnyH_done (by kernel_rfl) ?_ _
              have HRH := hide HR
              have HGH := hide HG
              clear HR HG HL
              go_wp2_with fail
              exact bodyPost_ret (v := rowV (x1 - 1) y (x3 == 0)) (by simp [results, Tryz.results30, go_sem, e0, e1, e2]) rfl ⟨x1 - 1, y, (x3 == 0), rfl, by omega, hy, unhide HRH, unhide HGH⟩
            exact AllReadyH.nil
          exact AllReadyH.nil
        refine AllReadyH.cons (o := { dst := some 12, op := _, type := _, pos := _, after := _, guard := _ }) rfl (fun K hK => ?_) ?_
        · go_simp
          go_at_call 26
          refine (c26 _ (k + 1 + 1) 2 _ (by omega) HR).mono ?_
          rintro e v7 ⟨x3, rfl, x3a, x3b, hr, hg⟩
          have x3b := x3b (by omega)
          have HR := hr
          have HG := grown_trans HG hg
          have HX := HX.kpt hg (fun e => by simp only [Option.some.injEq] at e; omega)
          have HL := HL.kept hg hgb
          skip
          clear hr hg
          try go_wp2_with fail
          refine hK.out _ _ trivial (fun hHeld => ?_)
          clear hK K hHeld
          try simp only [Act.put, List.setIfInBounds_toArray, List.set_cons_zero, List.set_cons_succ]
          have hSn : (fun _ : World => True) v7 := trivial
          refine tk 10 (some 13) (v := ?_) ?_ ?_
          rotate_left
          · intro w hSw
            first | (go_simp; done) | (go_simp; with_reducible rfl)
          try simp only [Act.put, List.setIfInBounds_toArray, List.set_cons_zero, List.set_cons_succ]
          clear hSn
          refine wpAnyH_ready (rs := [7]) (by kernel_rfl) (by simp) ?_
          refine AllReadyH.cons (o := { dst := some 10, op := _, type := _, pos := _, after := _, guard := _ }) rfl (fun K hK => ?_) ?_
          · have hcy := hyG v7 HL
            go_simp
            try go_wp2_with fail
            refine hK.out _ _ trivial (fun hHeld => ?_)
            clear hK K hHeld
            try simp only [Act.put, List.setIfInBounds_toArray, List.set_cons_zero, List.set_cons_succ]
            have hSn : (fun _ : World => True) v7 := trivial
            refine tk 11 (some 14) (v := ?_) ?_ ?_
            rotate_left
            · intro w hSw
              first | (go_simp; done) | (go_simp; with_reducible rfl)
            try simp only [Act.put, List.setIfInBounds_toArray, List.set_cons_zero, List.set_cons_succ]
            clear hSn
            refine wpAnyH_ready (rs := [12]) (by kernel_rfl) (by simp) ?_
            refine AllReadyH.cons (o := { dst := none, op := _, type := _, pos := _, after := _, guard := _ }) rfl (fun K hK => ?_) ?_
            · have q0 := HX.cell 0 rfl
              have q1 := HX.cell 1 rfl
              have q2 := HX.cell 2 rfl
              have p0 := HX.frozen 0 rfl
              have p1 := HX.frozen 1 rfl
              have p2 := HX.frozen 2 rfl
              go_simp
              try go_wp2_with fail
              have hgs := grown_three v7 w.heap.size (.int .i64 (x1 - 1)) (.int .i64 y) (.bool (x3 == 0))
              have HB1 := ((box_put (box_put (box_put HX 0 (.int .i64 (x1 - 1)) (by simp)) 1 (.int .i64 y) (by simp)) 2 (.bool (x3 == 0)) (by simp)))
              have HR := HR.kept hgs (fun b hb => by cases hb; omega)
              have HG := grown_new HG hgs (Nat.le_refl _)
              have e0 := HB1.cell 0 rfl
              have e1 := HB1.cell 1 rfl
              have e2 := HB1.cell 2 rfl
              clear hgs HB1 HX q0 q1 q2 p0 p1 p2
              refine hK.out _ _ trivial (fun hHeld => ?_)
              clear hK K hHeld
              try simp only [Act.put, List.setIfInBounds_toArray, List.set_cons_zero, List.set_cons_succ]
              generalize ((v7.setCell ⟨w.heap.size, 0, none⟩ (.int .i64 (x1 - 1))).setCell ⟨w.heap.size, 1, none⟩ (.int .i64 y)).setCell ⟨w.heap.size, 2, none⟩ (.bool (x3 == 0)) = v9 at *
              refine wpAnyH_done (by kernel_rfl) ?_ _
              have HRH := hide HR
              have HGH := hide HG
              clear HR HG HL
              go_wp2_with fail
              exact bodyPost_ret (v := rowV (x1 - 1) y (x3 == 0)) (by simp [results, Tryz.results30, go_sem, e0, e1, e2]) rfl ⟨x1 - 1, y, (x3 == 0), rfl, by omega, hy, unhide HRH, unhide HGH⟩
            exact AllReadyH.nil
          exact AllReadyH.nil
        exact AllReadyH.nil
      exact AllReadyH.nil
    refine AllReadyH.cons (o := { dst := some 8, op := _, type := _, pos := _, after := _, guard := _ }) rfl (fun K hK => ?_) ?_
    · go_simp
      go_at_call 26
      refine (c26 _ (k + 1) 5 _ (by omega) HR).mono ?_
      rintro e v10 ⟨x2, rfl, x2a, x2b, hr, hg⟩
      have x2b := x2b (by omega)
      have HR := hr
      have HG := grown_trans HG hg
      have HX := HX.kpt hg (fun e => by simp only [Option.some.injEq] at e; omega)
      skip
      clear hr hg
      try go_wp2_with fail
      refine hK.out _ _ trivial (fun hHeld => ?_)
      clear hK K hHeld
      try simp only [Act.put, List.setIfInBounds_toArray, List.set_cons_zero, List.set_cons_succ]
      refine wpAnyH_ready (rs := [3, 9]) (by kernel_rfl) (by simp) ?_
      refine AllReadyH.cons (o := { dst := some 6, op := _, type := _, pos := _, after := _, guard := _ }) rfl (fun K hK => ?_) ?_
      · go_simp
        refine hK.out _ _ trivial (fun hHeld => ?_)
        clear hK K hHeld
        try simp only [Act.put, List.setIfInBounds_toArray, List.set_cons_zero, List.set_cons_succ]
        have HL : Lits (v10.alloc (.cells #[.int .i64 (0), .int .i64 (10), .int .i64 (50), .int .i64 (51), .int .i64 (-1)] 3)) v10.heap.size [0, 10, 50, 51, -1] := lits_new v10 [0, 10, 50, 51, -1]
        have hgb : r < v10.heap.size := Nat.lt_of_lt_of_le hrl (Nat.le_trans (Nat.le_refl _) HG.size)
        have hga := World.grownBy_alloc v10 (.cells #[.int .i64 (0), .int .i64 (10), .int .i64 (50), .int .i64 (51), .int .i64 (-1)] 3) (some r)
        have HR := HR.alloc (.cells #[.int .i64 (0), .int .i64 (10), .int .i64 (50), .int .i64 (51), .int .i64 (-1)] 3)
        have HG := grown_trans HG hga
        have HX := HX.alloc (.cells #[.int .i64 (0), .int .i64 (10), .int .i64 (50), .int .i64 (51), .int .i64 (-1)] 3)
        clear hga
        generalize v10.alloc (.cells #[.int .i64 (0), .int .i64 (10), .int .i64 (50), .int .i64 (51), .int .i64 (-1)] 3) = v11 at *
        generalize v10.heap.size = gb at *
        obtain ⟨jN, y, rfl, hjN, hy, hcy0⟩ := lit_val (l := [0, 10, 50, 51, -1]) HL x2a (by simpa using x2b)
        have hj9 : jN < 5 := by simpa using hjN
        have hjI : (jN : Int) < 5 := by omega
        have hjP : (0 : Int) ≤ (jN : Int) := by omega
        have hyG : ∀ W : World, Lits W gb [0, 10, 50, 51, -1] → W.cell? ⟨gb, jN, none⟩ = some (.int .i64 y) := lit_any hcy0 HL hjN
        clear hcy0
        have hSn : (fun _ : World => True) v11 := trivial
        refine tk 6 (some 9) (v := ?_) ?_ ?_
        rotate_left
        · intro w hSw
          first | (go_simp; done) | (go_simp; with_reducible rfl)
        try simp only [Act.put, List.setIfInBounds_toArray, List.set_cons_zero, List.set_cons_succ]
        clear hSn
        refine wpAnyH_ready (rs := [7, 9]) (by kernel_rfl) (by simp) ?_
        refine AllReadyH.cons (o := { dst := some 10, op := _, type := _, pos := _, after := _, guard := _ }) rfl (fun K hK => ?_) ?_
        · have hcy := hyG v11 HL
          go_simp
          try go_wp2_with fail
          refine hK.out _ _ trivial (fun hHeld => ?_)
          clear hK K hHeld
          try simp only [Act.put, List.setIfInBounds_toArray, List.set_cons_zero, List.set_cons_succ]
          refine wpAnyH_ready (rs := [9]) (by kernel_rfl) (by simp) ?_
          refine AllReadyH.cons (o := { dst := some 12, op := _, type := _, pos := _, after := _, guard := _ }) rfl (fun K hK => ?_) ?_
          · go_simp
            go_at_call 26
            refine (c26 _ (k + 1 + 1) 2 _ (by omega) HR).mono ?_
            rintro e v13 ⟨x3, rfl, x3a, x3b, hr, hg⟩
            have x3b := x3b (by omega)
            have HR := hr
            have HG := grown_trans HG hg
            have HX := HX.kpt hg (fun e => by simp only [Option.some.injEq] at e; omega)
            have HL := HL.kept hg hgb
            skip
            clear hr hg
            try go_wp2_with fail
            refine hK.out _ _ trivial (fun hHeld => ?_)
            clear hK K hHeld
            try simp only [Act.put, List.setIfInBounds_toArray, List.set_cons_zero, List.set_cons_succ]
            have hSn : (fun _ : World => True) v13 := trivial
            refine tk 10 (some 13) (v := ?_) ?_ ?_
            rotate_left
            · intro w hSw
              first | (go_simp; done) | (go_simp; with_reducible rfl)
            try simp only [Act.put, List.setIfInBounds_toArray, List.set_cons_zero, List.set_cons_succ]
            clear hSn
            have hSn : (fun _ : World => True) v13 := trivial
            refine tk 11 (some 14) (v := ?_) ?_ ?_
            rotate_left
            · intro w hSw
              first | (go_simp; done) | (go_simp; with_reducible rfl)
            try simp only [Act.put, List.setIfInBounds_toArray, List.set_cons_zero, List.set_cons_succ]
            clear hSn
            refine wpAnyH_ready (rs := [12]) (by kernel_rfl) (by simp) ?_
            refine AllReadyH.cons (o := { dst := none, op := _, type := _, pos := _, after := _, guard := _ }) rfl (fun K hK => ?_) ?_
            · have q0 := HX.cell 0 rfl
              have q1 := HX.cell 1 rfl
              have q2 := HX.cell 2 rfl
              have p0 := HX.frozen 0 rfl
              have p1 := HX.frozen 1 rfl
              have p2 := HX.frozen 2 rfl
              go_simp
              try go_wp2_with fail
              have hgs := grown_three v13 w.heap.size (.int .i64 (x1 - 1)) (.int .i64 y) (.bool (x3 == 0))
              have HB1 := ((box_put (box_put (box_put HX 0 (.int .i64 (x1 - 1)) (by simp)) 1 (.int .i64 y) (by simp)) 2 (.bool (x3 == 0)) (by simp)))
              have HR := HR.kept hgs (fun b hb => by cases hb; omega)
              have HG := grown_new HG hgs (Nat.le_refl _)
              have e0 := HB1.cell 0 rfl
              have e1 := HB1.cell 1 rfl
              have e2 := HB1.cell 2 rfl
              clear hgs HB1 HX q0 q1 q2 p0 p1 p2
              refine hK.out _ _ trivial (fun hHeld => ?_)
              clear hK K hHeld
              try simp only [Act.put, List.setIfInBounds_toArray, List.set_cons_zero, List.set_cons_succ]
              generalize ((v13.setCell ⟨w.heap.size, 0, none⟩ (.int .i64 (x1 - 1))).setCell ⟨w.heap.size, 1, none⟩ (.int .i64 y)).setCell ⟨w.heap.size, 2, none⟩ (.bool (x3 == 0)) = v14 at *
              refine wpAnyH_done (by kernel_rfl) ?_ _
              have HRH := hide HR
              have HGH := hide HG
              clear HR HG HL
              go_wp2_with fail
              exact bodyPost_ret (v := rowV (x1 - 1) y (x3 == 0)) (by simp [results, Tryz.results30, go_sem, e0, e1, e2]) rfl ⟨x1 - 1, y, (x3 == 0), rfl, by omega, hy, unhide HRH, unhide HGH⟩
            exact AllReadyH.nil
          exact AllReadyH.nil
        refine AllReadyH.cons (o := { dst := some 12, op := _, type := _, pos := _, after := _, guard := _ }) rfl (fun K hK => ?_) ?_
        · go_simp
          go_at_call 26
          refine (c26 _ (k + 1 + 1) 2 _ (by omega) HR).mono ?_
          rintro e v15 ⟨x3, rfl, x3a, x3b, hr, hg⟩
          have x3b := x3b (by omega)
          have HR := hr
          have HG := grown_trans HG hg
          have HX := HX.kpt hg (fun e => by simp only [Option.some.injEq] at e; omega)
          have HL := HL.kept hg hgb
          skip
          clear hr hg
          try go_wp2_with fail
          refine hK.out _ _ trivial (fun hHeld => ?_)
          clear hK K hHeld
          try simp only [Act.put, List.setIfInBounds_toArray, List.set_cons_zero, List.set_cons_succ]
          have hSn : (fun _ : World => True) v15 := trivial
          refine tk 10 (some 13) (v := ?_) ?_ ?_
          rotate_left
          · intro w hSw
            first | (go_simp; done) | (go_simp; with_reducible rfl)
          try simp only [Act.put, List.setIfInBounds_toArray, List.set_cons_zero, List.set_cons_succ]
          clear hSn
          refine wpAnyH_ready (rs := [7]) (by kernel_rfl) (by simp) ?_
          refine AllReadyH.cons (o := { dst := some 10, op := _, type := _, pos := _, after := _, guard := _ }) rfl (fun K hK => ?_) ?_
          · have hcy := hyG v15 HL
            go_simp
            try go_wp2_with fail
            refine hK.out _ _ trivial (fun hHeld => ?_)
            clear hK K hHeld
            try simp only [Act.put, List.setIfInBounds_toArray, List.set_cons_zero, List.set_cons_succ]
            have hSn : (fun _ : World => True) v15 := trivial
            refine tk 11 (some 14) (v := ?_) ?_ ?_
            rotate_left
            · intro w hSw
              first | (go_simp; done) | (go_simp; with_reducible rfl)
            try simp only [Act.put, List.setIfInBounds_toArray, List.set_cons_zero, List.set_cons_succ]
            clear hSn
            refine wpAnyH_ready (rs := [12]) (by kernel_rfl) (by simp) ?_
            refine AllReadyH.cons (o := { dst := none, op := _, type := _, pos := _, after := _, guard := _ }) rfl (fun K hK => ?_) ?_
            · have q0 := HX.cell 0 rfl
              have q1 := HX.cell 1 rfl
              have q2 := HX.cell 2 rfl
              have p0 := HX.frozen 0 rfl
              have p1 := HX.frozen 1 rfl
              have p2 := HX.frozen 2 rfl
              go_simp
              try go_wp2_with fail
              have hgs := grown_three v15 w.heap.size (.int .i64 (x1 - 1)) (.int .i64 y) (.bool (x3 == 0))
              have HB1 := ((box_put (box_put (box_put HX 0 (.int .i64 (x1 - 1)) (by simp)) 1 (.int .i64 y) (by simp)) 2 (.bool (x3 == 0)) (by simp)))
              have HR := HR.kept hgs (fun b hb => by cases hb; omega)
              have HG := grown_new HG hgs (Nat.le_refl _)
              have e0 := HB1.cell 0 rfl
              have e1 := HB1.cell 1 rfl
              have e2 := HB1.cell 2 rfl
              clear hgs HB1 HX q0 q1 q2 p0 p1 p2
              refine hK.out _ _ trivial (fun hHeld => ?_)
              clear hK K hHeld
              try simp only [Act.put, List.setIfInBounds_toArray, List.set_cons_zero, List.set_cons_succ]
              generalize ((v15.setCell ⟨w.heap.size, 0, none⟩ (.int .i64 (x1 - 1))).setCell ⟨w.heap.size, 1, none⟩ (.int .i64 y)).setCell ⟨w.heap.size, 2, none⟩ (.bool (x3 == 0)) = v17 at *
              refine wpAnyH_done (by kernel_rfl) ?_ _
              have HRH := hide HR
              have HGH := hide HG
              clear HR HG HL
              go_wp2_with fail
              exact bodyPost_ret (v := rowV (x1 - 1) y (x3 == 0)) (by simp [results, Tryz.results30, go_sem, e0, e1, e2]) rfl ⟨x1 - 1, y, (x3 == 0), rfl, by omega, hy, unhide HRH, unhide HGH⟩
            exact AllReadyH.nil
          exact AllReadyH.nil
        exact AllReadyH.nil
      refine AllReadyH.cons (o := { dst := some 12, op := _, type := _, pos := _, after := _, guard := _ }) rfl (fun K hK => ?_) ?_
      · go_simp
        go_at_call 26
        refine (c26 _ (k + 1 + 1) 2 _ (by omega) HR).mono ?_
        rintro e v18 ⟨x3, rfl, x3a, x3b, hr, hg⟩
        have x3b := x3b (by omega)
        have HR := hr
        have HG := grown_trans HG hg
        have HX := HX.kpt hg (fun e => by simp only [Option.some.injEq] at e; omega)
        skip
        clear hr hg
        try go_wp2_with fail
        refine hK.out _ _ trivial (fun hHeld => ?_)
        clear hK K hHeld
        try simp only [Act.put, List.setIfInBounds_toArray, List.set_cons_zero, List.set_cons_succ]
        have hSn : (fun _ : World => True) v18 := trivial
        refine tk 10 (some 13) (v := ?_) ?_ ?_
        rotate_left
        · intro w hSw
          first | (go_simp; done) | (go_simp; with_reducible rfl)
        try simp only [Act.put, List.setIfInBounds_toArray, List.set_cons_zero, List.set_cons_succ]
        clear hSn
        refine wpAnyH_ready (rs := [3]) (by kernel_rfl) (by simp) ?_
        refine AllReadyH.cons (o := { dst := some 6, op := _, type := _, pos := _, after := _, guard := _ }) rfl (fun K hK => ?_) ?_
        · go_simp
          refine hK.out _ _ trivial (fun hHeld => ?_)
          clear hK K hHeld
          try simp only [Act.put, List.setIfInBounds_toArray, List.set_cons_zero, List.set_cons_succ]
          have HL : Lits (v18.alloc (.cells #[.int .i64 (0), .int .i64 (10), .int .i64 (50), .int .i64 (51), .int .i64 (-1)] 3)) v18.heap.size [0, 10, 50, 51, -1] := lits_new v18 [0, 10, 50, 51, -1]
          have hgb : r < v18.heap.size := Nat.lt_of_lt_of_le hrl (Nat.le_trans (Nat.le_refl _) HG.size)
          have hga := World.grownBy_alloc v18 (.cells #[.int .i64 (0), .int .i64 (10), .int .i64 (50), .int .i64 (51), .int .i64 (-1)] 3) (some r)
          have HR := HR.alloc (.cells #[.int .i64 (0), .int .i64 (10), .int .i64 (50), .int .i64 (51), .int .i64 (-1)] 3)
          have HG := grown_trans HG hga
          have HX := HX.alloc (.cells #[.int .i64 (0), .int .i64 (10), .int .i64 (50), .int .i64 (51), .int .i64 (-1)] 3)
          clear hga
          generalize v18.alloc (.cells #[.int .i64 (0), .int .i64 (10), .int .i64 (50), .int .i64 (51), .int .i64 (-1)] 3) = v19 at *
          generalize v18.heap.size = gb at *
          obtain ⟨jN, y, rfl, hjN, hy, hcy0⟩ := lit_val (l := [0, 10, 50, 51, -1]) HL x2a (by simpa using x2b)
          have hj9 : jN < 5 := by simpa using hjN
          have hjI : (jN : Int) < 5 := by omega
          have hjP : (0 : Int) ≤ (jN : Int) := by omega
          have hyG : ∀ W : World, Lits W gb [0, 10, 50, 51, -1] → W.cell? ⟨gb, jN, none⟩ = some (.int .i64 y) := lit_any hcy0 HL hjN
          clear hcy0
          have hSn : (fun _ : World => True) v19 := trivial
          refine tk 6 (some 9) (v := ?_) ?_ ?_
          rotate_left
          · intro w hSw
            first | (go_simp; done) | (go_simp; with_reducible rfl)
          try simp only [Act.put, List.setIfInBounds_toArray, List.set_cons_zero, List.set_cons_succ]
          clear hSn
          refine wpAnyH_ready (rs := [7]) (by kernel_rfl) (by simp) ?_
          refine AllReadyH.cons (o := { dst := some 10, op := _, type := _, pos := _, after := _, guard := _ }) rfl (fun K hK => ?_) ?_
          · have hcy := hyG v19 HL
            go_simp
            try go_wp2_with fail
            refine hK.out _ _ trivial (fun hHeld => ?_)
            clear hK K hHeld
            try simp only [Act.put, List.setIfInBounds_toArray, List.set_cons_zero, List.set_cons_succ]
            have hSn : (fun _ : World => True) v19 := trivial
            refine tk 11 (some 14) (v := ?_) ?_ ?_
            rotate_left
            · intro w hSw
              first | (go_simp; done) | (go_simp; with_reducible rfl)
            try simp only [Act.put, List.setIfInBounds_toArray, List.set_cons_zero, List.set_cons_succ]
            clear hSn
            refine wpAnyH_ready (rs := [12]) (by kernel_rfl) (by simp) ?_
            refine AllReadyH.cons (o := { dst := none, op := _, type := _, pos := _, after := _, guard := _ }) rfl (fun K hK => ?_) ?_
            · have q0 := HX.cell 0 rfl
              have q1 := HX.cell 1 rfl
              have q2 := HX.cell 2 rfl
              have p0 := HX.frozen 0 rfl
              have p1 := HX.frozen 1 rfl
              have p2 := HX.frozen 2 rfl
              go_simp
              try go_wp2_with fail
              have hgs := grown_three v19 w.heap.size (.int .i64 (x1 - 1)) (.int .i64 y) (.bool (x3 == 0))
              have HB1 := ((box_put (box_put (box_put HX 0 (.int .i64 (x1 - 1)) (by simp)) 1 (.int .i64 y) (by simp)) 2 (.bool (x3 == 0)) (by simp)))
              have HR := HR.kept hgs (fun b hb => by cases hb; omega)
              have HG := grown_new HG hgs (Nat.le_refl _)
              have e0 := HB1.cell 0 rfl
              have e1 := HB1.cell 1 rfl
              have e2 := HB1.cell 2 rfl
              clear hgs HB1 HX q0 q1 q2 p0 p1 p2
              refine hK.out _ _ trivial (fun hHeld => ?_)
              clear hK K hHeld
              try simp only [Act.put, List.setIfInBounds_toArray, List.set_cons_zero, List.set_cons_succ]
              generalize ((v19.setCell ⟨w.heap.size, 0, none⟩ (.int .i64 (x1 - 1))).setCell ⟨w.heap.size, 1, none⟩ (.int .i64 y)).setCell ⟨w.heap.size, 2, none⟩ (.bool (x3 == 0)) = v21 at *
              refine wpAnyH_done (by kernel_rfl) ?_ _
              have HRH := hide HR
              have HGH := hide HG
              clear HR HG HL
              go_wp2_with fail
              exact bodyPost_ret (v := rowV (x1 - 1) y (x3 == 0)) (by simp [results, Tryz.results30, go_sem, e0, e1, e2]) rfl ⟨x1 - 1, y, (x3 == 0), rfl, by omega, hy, unhide HRH, unhide HGH⟩
            exact AllReadyH.nil
          exact AllReadyH.nil
        exact AllReadyH.nil
      exact AllReadyH.nil
    exact AllReadyH.nil
  refine AllReadyH.cons (o := { dst := some 6, op := _, type := _, pos := _, after := _, guard := _ }) rfl (fun K hK => ?_) ?_
  · go_simp
    refine hK.out _ _ trivial (fun hHeld => ?_)
    clear hK K hHeld
    try simp only [Act.put, List.setIfInBounds_toArray, List.set_cons_zero, List.set_cons_succ]
    have HL : Lits (V0.alloc (.cells #[.int .i64 (0), .int .i64 (10), .int .i64 (50), .int .i64 (51), .int .i64 (-1)] 3)) V0.heap.size [0, 10, 50, 51, -1] := lits_new V0 [0, 10, 50, 51, -1]
    have hgb : r < V0.heap.size := Nat.lt_of_lt_of_le hrl (Nat.le_trans (Nat.le_refl _) HG.size)
    have hga := World.grownBy_alloc V0 (.cells #[.int .i64 (0), .int .i64 (10), .int .i64 (50), .int .i64 (51), .int .i64 (-1)] 3) (some r)
    have HR := HR.alloc (.cells #[.int .i64 (0), .int .i64 (10), .int .i64 (50), .int .i64 (51), .int .i64 (-1)] 3)
    have HG := grown_trans HG hga
    have HX := HX.alloc (.cells #[.int .i64 (0), .int .i64 (10), .int .i64 (50), .int .i64 (51), .int .i64 (-1)] 3)
    clear hga
    generalize V0.alloc (.cells #[.int .i64 (0), .int .i64 (10), .int .i64 (50), .int .i64 (51), .int .i64 (-1)] 3) = v22 at *
    generalize V0.heap.size = gb at *
    refine wpAnyH_ready (rs := [1]) (by kernel_rfl) (by simp) ?_
    refine AllReadyH.cons (o := { dst := some 4, op := _, type := _, pos := _, after := _, guard := _ }) rfl (fun K hK => ?_) ?_
    · go_simp
      go_at_call 26
      refine (c26 _ (k) 7 _ (by omega) HR).mono ?_
      rintro e v23 ⟨x1, rfl, x1a, x1b, hr, hg⟩
      have x1b := x1b (by omega)
      have HR := hr
      have HG := grown_trans HG hg
      have HX := HX.kpt hg (fun e => by simp only [Option.some.injEq] at e; omega)
      have HL := HL.kept hg hgb
      skip
      clear hr hg
      try go_wp2_with fail
      refine hK.out _ _ trivial (fun hHeld => ?_)
      clear hK K hHeld
      try simp only [Act.put, List.setIfInBounds_toArray, List.set_cons_zero, List.set_cons_succ]
      have hwr : IntKind.i64.wrap (x1 - 1) = x1 - 1 := wrap_sub (by omega) (by omega)
      have hSn : (fun _ : World => True) v23 := trivial
      refine tk 2 (some 5) (v := ?_) ?_ ?_
      rotate_left
      · intro w hSw
        first | (go_simp; done) | (go_simp; with_reducible rfl)
      try simp only [Act.put, List.setIfInBounds_toArray, List.set_cons_zero, List.set_cons_succ]
      clear hSn
      refine wpAnyH_ready (rs := [5]) (by kernel_rfl) (by simp) ?_
      refine AllReadyH.cons (o := { dst := some 8, op := _, type := _, pos := _, after := _, guard := _ }) rfl (fun K hK => ?_) ?_
      · go_simp
        go_at_call 26
        refine (c26 _ (k + 1) 5 _ (by omega) HR).mono ?_
        rintro e v24 ⟨x2, rfl, x2a, x2b, hr, hg⟩
        have x2b := x2b (by omega)
        have HR := hr
        have HG := grown_trans HG hg
        have HX := HX.kpt hg (fun e => by simp only [Option.some.injEq] at e; omega)
        have HL := HL.kept hg hgb
        skip
        clear hr hg
        try go_wp2_with fail
        refine hK.out _ _ trivial (fun hHeld => ?_)
        clear hK K hHeld
        try simp only [Act.put, List.setIfInBounds_toArray, List.set_cons_zero, List.set_cons_succ]
        obtain ⟨jN, y, rfl, hjN, hy, hcy0⟩ := lit_val (l := [0, 10, 50, 51, -1]) HL x2a (by simpa using x2b)
        have hj9 : jN < 5 := by simpa using hjN
        have hjI : (jN : Int) < 5 := by omega
        have hjP : (0 : Int) ≤ (jN : Int) := by omega
        have hyG : ∀ W : World, Lits W gb [0, 10, 50, 51, -1] → W.cell? ⟨gb, jN, none⟩ = some (.int .i64 y) := lit_any hcy0 HL hjN
        clear hcy0
        have hSn : (fun _ : World => True) v24 := trivial
        refine tk 6 (some 9) (v := ?_) ?_ ?_
        rotate_left
        · intro w hSw
          first | (go_simp; done) | (go_simp; with_reducible rfl)
        try simp only [Act.put, List.setIfInBounds_toArray, List.set_cons_zero, List.set_cons_succ]
        clear hSn
        refine wpAnyH_ready (rs := [7, 9]) (by kernel_rfl) (by simp) ?_
        refine AllReadyH.cons (o := { dst := some 10, op := _, type := _, pos := _, after := _, guard := _ }) rfl (fun K hK => ?_) ?_
        · have hcy := hyG v24 HL
          go_simp
          try go_wp2_with fail
          refine hK.out _ _ trivial (fun hHeld => ?_)
          clear hK K hHeld
          try simp only [Act.put, List.setIfInBounds_toArray, List.set_cons_zero, List.set_cons_succ]
          refine wpAnyH_ready (rs := [9]) (by kernel_rfl) (by simp) ?_
          refine AllReadyH.cons (o := { dst := some 12, op := _, type := _, pos := _, after := _, guard := _ }) rfl (fun K hK => ?_) ?_
          · go_simp
            go_at_call 26
            refine (c26 _ (k + 1 + 1) 2 _ (by omega) HR).mono ?_
            rintro e v26 ⟨x3, rfl, x3a, x3b, hr, hg⟩
            have x3b := x3b (by omega)
            have HR := hr
            have HG := grown_trans HG hg
            have HX := HX.kpt hg (fun e => by simp only [Option.some.injEq] at e; omega)
            have HL := HL.kept hg hgb
            skip
            clear hr hg
            try go_wp2_with fail
            refine hK.out _ _ trivial (fun hHeld => ?_)
            clear hK K hHeld
            try simp only [Act.put, List.setIfInBounds_toArray, List.set_cons_zero, List.set_cons_succ]
            have hSn : (fun _ : World => True) v26 := trivial
            refine tk 10 (some 13) (v := ?_) ?_ ?_
            rotate_left
            · intro w hSw
              first | (go_simp; done) | (go_simp; with_reducible rfl)
            try simp only [Act.put, List.setIfInBounds_toArray, List.set_cons_zero, List.set_cons_succ]
            clear hSn
            have hSn : (fun _ : World => True) v26 := trivial
            refine tk 11 (some 14) (v := ?_) ?_ ?_
            rotate_left
            · intro w hSw
              first | (go_simp; done) | (go_simp; with_reducible rfl)
            try simp only [Act.put, List.setIfInBounds_toArray, List.set_cons_zero, List.set_cons_succ]
            clear hSn
            refine wpAnyH_ready (rs := [12]) (by kernel_rfl) (by simp) ?_
            refine AllReadyH.cons (o := { dst := none, op := _, type := _, pos := _, after := _, guard := _ }) rfl (fun K hK => ?_) ?_
            · have q0 := HX.cell 0 rfl
              have q1 := HX.cell 1 rfl
              have q2 := HX.cell 2 rfl
              have p0 := HX.frozen 0 rfl
              have p1 := HX.frozen 1 rfl
              have p2 := HX.frozen 2 rfl
              go_simp
              try go_wp2_with fail
              have hgs := grown_three v26 w.heap.size (.int .i64 (x1 - 1)) (.int .i64 y) (.bool (x3 == 0))
              have HB1 := ((box_put (box_put (box_put HX 0 (.int .i64 (x1 - 1)) (by simp)) 1 (.int .i64 y) (by simp)) 2 (.bool (x3 == 0)) (by simp)))
              have HR := HR.kept hgs (fun b hb => by cases hb; omega)
              have HG := grown_new HG hgs (Nat.le_refl _)
              have e0 := HB1.cell 0 rfl
              have e1 := HB1.cell 1 rfl
              have e2 := HB1.cell 2 rfl
              clear hgs HB1 HX q0 q1 q2 p0 p1 p2
              refine hK.out _ _ trivial (fun hHeld => ?_)
              clear hK K hHeld
              try simp only [Act.put, List.setIfInBounds_toArray, List.set_cons_zero, List.set_cons_succ]
              generalize ((v26.setCell ⟨w.heap.size, 0, none⟩ (.int .i64 (x1 - 1))).setCell ⟨w.heap.size, 1, none⟩ (.int .i64 y)).setCell ⟨w.heap.size, 2, none⟩ (.bool (x3 == 0)) = v27 at *
              refine wpAnyH_done (by kernel_rfl) ?_ _
              have HRH := hide HR
              have HGH := hide HG
              clear HR HG HL
              go_wp2_with fail
              exact bodyPost_ret (v := rowV (x1 - 1) y (x3 == 0)) (by simp [results, Tryz.results30, go_sem, e0, e1, e2]) rfl ⟨x1 - 1, y, (x3 == 0), rfl, by omega, hy, unhide HRH, unhide HGH⟩
            exact AllReadyH.nil
          exact AllReadyH.nil
        refine AllReadyH.cons (o := { dst := some 12, op := _, type := _, pos := _, after := _, guard := _ }) rfl (fun K hK => ?_) ?_
        · go_simp
          go_at_call 26
          refine (c26 _ (k + 1 + 1) 2 _ (by omega) HR).mono ?_
          rintro e v28 ⟨x3, rfl, x3a, x3b, hr, hg⟩
          have x3b := x3b (by omega)
          have HR := hr
          have HG := grown_trans HG hg
          have HX := HX.kpt hg (fun e => by simp only [Option.some.injEq] at e; omega)
          have HL := HL.kept hg hgb
          skip
          clear hr hg
          try go_wp2_with fail
          refine hK.out _ _ trivial (fun hHeld => ?_)
          clear hK K hHeld
          try simp only [Act.put, List.setIfInBounds_toArray, List.set_cons_zero, List.set_cons_succ]
          have hSn : (fun _ : World => True) v28 := trivial
          refine tk 10 (some 13) (v := ?_) ?_ ?_
          rotate_left
          · intro w hSw
            first | (go_simp; done) | (go_simp; with_reducible rfl)
          try simp only [Act.put, List.setIfInBounds_toArray, List.set_cons_zero, List.set_cons_succ]
          clear hSn
          refine wpAnyH_ready (rs := [7]) (by kernel_rfl) (by simp) ?_
          refine AllReadyH.cons (o := { dst := some 10, op := _, type := _, pos := _, after := _, guard := _ }) rfl (fun K hK => ?_) ?_
          · have hcy := hyG v28 HL
            go_simp
            try go_wp2_with fail
            refine hK.out _ _ trivial (fun hHeld => ?_)
            clear hK K hHeld
            try simp only [Act.put, List.setIfInBounds_toArray, List.set_cons_zero, List.set_cons_succ]
            have hSn : (fun _ : World => True) v28 := trivial
            refine tk 11 (some 14) (v := ?_) ?_ ?_
            rotate_left
            · intro w hSw
              first | (go_simp; done) | (go_simp; with_reducible rfl)
            try simp only [Act.put, List.setIfInBounds_toArray, List.set_cons_zero, List.set_cons_succ]
            clear hSn
            refine wpAnyH_ready (rs := [12]) (by kernel_rfl) (by simp) ?_
            refine AllReadyH.cons (o := { dst := none, op := _, type := _, pos := _, after := _, guard := _ }) rfl (fun K hK => ?_) ?_
            · have q0 := HX.cell 0 rfl
              have q1 := HX.cell 1 rfl
              have q2 := HX.cell 2 rfl
              have p0 := HX.frozen 0 rfl
              have p1 := HX.frozen 1 rfl
              have p2 := HX.frozen 2 rfl
              go_simp
              try go_wp2_with fail
              have hgs := grown_three v28 w.heap.size (.int .i64 (x1 - 1)) (.int .i64 y) (.bool (x3 == 0))
              have HB1 := ((box_put (box_put (box_put HX 0 (.int .i64 (x1 - 1)) (by simp)) 1 (.int .i64 y) (by simp)) 2 (.bool (x3 == 0)) (by simp)))
              have HR := HR.kept hgs (fun b hb => by cases hb; omega)
              have HG := grown_new HG hgs (Nat.le_refl _)
              have e0 := HB1.cell 0 rfl
              have e1 := HB1.cell 1 rfl
              have e2 := HB1.cell 2 rfl
              clear hgs HB1 HX q0 q1 q2 p0 p1 p2
              refine hK.out _ _ trivial (fun hHeld => ?_)
              clear hK K hHeld
              try simp only [Act.put, List.setIfInBounds_toArray, List.set_cons_zero, List.set_cons_succ]
              generalize ((v28.setCell ⟨w.heap.size, 0, none⟩ (.int .i64 (x1 - 1))).setCell ⟨w.heap.size, 1, none⟩ (.int .i64 y)).setCell ⟨w.heap.size, 2, none⟩ (.bool (x3 == 0)) = v30 at *
              refine wpAnyH_done (by kernel_rfl) ?_ _
              have HRH := hide HR
              have HGH := hide HG
              clear HR HG HL
              go_wp2_with fail
              exact bodyPost_ret (v := rowV (x1 - 1) y (x3 == 0)) (by simp [results, Tryz.results30, go_sem, e0, e1, e2]) rfl ⟨x1 - 1, y, (x3 == 0), rfl, by omega, hy, unhide HRH, unhide HGH⟩
            exact AllReadyH.nil
          exact AllReadyH.nil
        exact AllReadyH.nil
      exact AllReadyH.nil
    exact AllReadyH.nil
  exact AllReadyH.nil

end Go.Proofs.YtmlbphmbffkdnaaGreat
