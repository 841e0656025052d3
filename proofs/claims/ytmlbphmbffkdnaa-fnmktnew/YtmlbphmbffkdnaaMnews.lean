/-
  A new market: the model.
-/
import Derived.Test.YtmlbphmbffkdnaaMnew
import Derived.Deep.AppendLies
namespace Go.Proofs.Ytmlbphmbffkdnaa
open Go.RowKit
set_option linter.unusedVariables false
set_option maxRecDepth 100000
theorem apt_app {w : World} {base g n k : Nat} {vE u : Value} {zs : List Int} (h4 : Own w base u zs) (hE : Apt vE u) (hat : vE.ownBlock = some g ∨ g = w.heap.size) : Apt (.slice (some ⟨g, 0, none⟩) n k) u := fun b hb e => by
  simp [Value.ownBlock] at hb
  subst hb
  rcases hat with h | h
  · exact hE _ h e
  · have := (h4.2.lt _ e.symm).2; omega

set_option maxHeartbeats 2000000 in
theorem c23 (p : List Int) (ao : Option Addr) (n cap : Nat) (w : World) (hn : p.length = n) (hm : n ≤ 1048576) (hz : ao = none → cap = 0) (hr : Row w ao p) :
    Calls Try.prog 23 #[.slice ao n cap] w (HTold w (newH p)) := by
  subst hn
  by_cases h1 : Tm.monOk p = true
  case neg =>
    have h1' : Tm.monOk p = false := by simpa using h1
    have HR := hide hr
    have hH : newH p = ⟨[], [], [], 0, [], []⟩ := if_neg (fun h => h1 h.1)
    rw [hH]
    clear hr hH h1
    go_enter Try.func23, Try.ntmps23
    go_wp2_with (first | (go_at_call 24; refine (c24 p _ _ _ _ rfl (by omega) ((unhide HR).bel (below_a _))).mono ?_; rintro e w' ⟨rfl, rfl⟩) | (go_at_call 108; refine (c108 p _ _ _ _ rfl (by omega) ((unhide HR).bel (below_a _))).mono ?_; rintro e w' ⟨rfl, rfl⟩))
    exact bodyPost_ret (v := .agg #[.slice none 0 0, .slice none 0 0, .slice none 0 0, .int .i64 0, .slice none 0 0, .slice none 0 0]) (by simp [results, Try.results23, go_sem]) rfl ⟨⟨none, 0, none, 0, none, 0, none, 0, none, 0⟩, rfl, ⟨eown_nil _ _ (by simp), own_nilM _ _ (by simp), down_nil _ _ (by simp), own_nilM _ _ (by simp), own_nilM _ _ (by simp), apt_nil _, apt_nil _, apt_nil _, apt_nil _, apt_nil _, apt_nil _, apt_nil _, apt_nil _, apt_nil _, apt_nil _⟩, by first | exact below_a _ | exact below_al (below_a _)⟩
  by_cases h2 : monSum p ≤ 100000
  case neg =>
    have h2' : 100000 < monSum p := by omega
    have HR := hide hr
    have hH : newH p = ⟨[], [], [], 0, [], []⟩ := if_neg (fun h => h2 h.2)
    rw [hH]
    clear hr hH h2
    go_enter Try.func23, Try.ntmps23
    go_wp2_with (first | (go_at_call 24; refine (c24 p _ _ _ _ rfl (by omega) ((unhide HR).bel (below_a _))).mono ?_; rintro e w' ⟨rfl, rfl⟩) | (go_at_call 108; refine (c108 p _ _ _ _ rfl (by omega) ((unhide HR).bel (below_a _))).mono ?_; rintro e w' ⟨rfl, rfl⟩))
    exact bodyPost_ret (v := .agg #[.slice none 0 0, .slice none 0 0, .slice none 0 0, .int .i64 0, .slice none 0 0, .slice none 0 0]) (by simp [results, Try.results23, go_sem]) rfl ⟨⟨none, 0, none, 0, none, 0, none, 0, none, 0⟩, rfl, ⟨eown_nil _ _ (by simp), own_nilM _ _ (by simp), down_nil _ _ (by simp), own_nilM _ _ (by simp), own_nilM _ _ (by simp), apt_nil _, apt_nil _, apt_nil _, apt_nil _, apt_nil _, apt_nil _, apt_nil _, apt_nil _, apt_nil _, apt_nil _⟩, by first | exact below_a _ | exact below_al (below_a _)⟩
  have h2' : ¬ (100000 < monSum p) := by omega
  have h5 : p.length = 5 := (Tm.monOk_iff.1 h1).1
  obtain ⟨ad, rfl⟩ : ∃ ad, ao = some ad := by
    cases ao with
    | none => have h0 := row_none hr; rw [h0] at h5; simp at h5
    | some ad => exact ⟨ad, rfl⟩
  obtain ⟨i0, hi, hz0, hz1, hz2⟩ := info_parts Try.info3
  have H5 := hide h5
  clear h5
  have hH : newH p = ⟨[], p, [], 0, [0, 0, 0, 0, 0], [0, 0, 0, 0, 0]⟩ := if_pos ⟨h1, h2⟩
  rw [hH]
  have HR := hide hr
  have HX' := hide (box_new w [.slice none 0 0, .slice none 0 0, .slice none 0 0, .int .i64 0, .slice none 0 0, .slice none 0 0] 28 (by simp [Value.oneCell']))
  have HB' := hide (below_a (w := w) (.cells #[.slice none 0 0, .slice none 0 0, .slice none 0 0, .int .i64 0, .slice none 0 0, .slice none 0 0] 28))
  have HR' := hide (hr.bel (below_a (.cells #[.slice none 0 0, .slice none 0 0, .slice none 0 0, .int .i64 0, .slice none 0 0, .slice none 0 0] 28)))
  clear hr hH
  go_enter Try.func23, Try.ntmps23
  go_wp2_with (first | (go_at_call 24; refine (c24 p _ _ _ _ rfl (by omega) ((unhide HR).bel (below_a _))).mono ?_; rintro e w' ⟨rfl, rfl⟩) | (go_at_call 108; refine (c108 p _ _ _ _ rfl (by omega) ((unhide HR).bel (below_a _))).mono ?_; rintro e w' ⟨rfl, rfl⟩))
  have HX := (unhide HX').drew
  have HB := below_tr (unhide HB') (below_drew _)
  have HR := (unhide HR').bel (below_drew _)
  have hV0 : w.heap.size < (w.alloc (.cells #[.slice none 0 0, .slice none 0 0, .slice none 0 0, .int .i64 0, .slice none 0 0, .slice none 0 0] 28)).drew.heap.size := HX.lt
  clear HX' HB' HR'
  refine wp_region_held_drew (S := fun _ => True) (by kernel_rfl) trivial (fun hHeld => ?_)
  generalize (w.alloc (.cells #[.slice none 0 0, .slice none 0 0, .slice none 0 0, .int .i64 0, .slice none 0 0, .slice none 0 0] 28)).drew = V0 at *
  have hsz : V0.heap.size ≤ V0.heap.size := Nat.le_refl _
  have hSn : (fun _ : World => True) V0 := trivial
  refine wpAnyH_take (i := 1) (oi := { dst := some 13, op := _, type := _, pos := _, after := _, guard := _ }) (v := ?_) rfl (by kernel_rfl) (by kernel_rfl) (by kernel_rfl) (fun _ _ _ h => h) (Or.inl ⟨by rfl, ?_⟩) (by assumption) ?_
  rotate_left
  · intro w hSw
    first | (go_simp; done) | (go_simp; with_reducible rfl)
  try simp only [Act.put, List.setIfInBounds_toArray, List.set_cons_zero, List.set_cons_succ]
  clear hSn
  refine wpAnyH_ready (rs := [0, 3, 4]) (by kernel_rfl) (by simp) ?_
  refine AllReadyH.cons (o := { dst := some 12, op := _, type := _, pos := _, after := _, guard := _ }) rfl (fun K hK => ?_) ?_
  · go_simp
    try go_wp2_with fail
    refine hK.out _ _ trivial (fun hHeld => ?_)
    clear hK K hHeld
    try simp only [Act.put, List.setIfInBounds_toArray, List.set_cons_zero, List.set_cons_succ]
    have ho := own_empty V0 V0.heap.size (Nat.le_refl _)
    have hb : Below V0.heap.size V0 (V0.alloc (.cells #[] 3)) := below_a _
    have HX := HX.below hb
    have HB := below_tr HB hb
    have HR := HR.bel hb
    have hE := ho.mono hsz
    have hsz := Nat.le_trans hsz hb.size
    clear ho hb
    generalize (V0.alloc (.cells #[] 3)) = v1 at *
    generalize (some (⟨V0.heap.size, 0, none⟩ : Addr)) = aE at *
    refine wpAnyH_ready (rs := [2, 3, 4]) (by kernel_rfl) (by simp) ?_
    refine AllReadyH.cons (o := { dst := some 14, op := _, type := _, pos := _, after := _, guard := _ }) rfl (fun K hK => ?_) ?_
    · skip
      refine step_append_lies _ (by rfl) _ _ 23 (by rfl) V0.heap.size 3 i0 (.int .i64 0) 1 8 Try.underlying23 hi hz0 hz1 hz2 rfl (by decide) (.slice aE 0 0) 0 [] (by rfl) hE.2 ad p.length cap (p.map (Value.int .i64)) (by rfl) (by simp) (row_src HR) (ints_oneCell _ _) (by have := unhide H5; omega) (by unfold maxLen; omega) (by omega) hsz _ rfl ?_
      intro g1 k1 v2 hown hgrow hat hlt
      have hO1 : Own v2 V0.heap.size (.slice (some ⟨g1, 0, none⟩) p.length k1) p := ⟨HR.1, by simpa using hown⟩
      have HX := box_kpt HX hgrow (fun e => by have := (hE.2.lt _ e.symm).1; omega)
      have HB := grown_below HB hgrow (fun k hk => by have := (hE.2.lt k hk).1; omega)
      have hsz := Nat.le_trans hsz hgrow.size
      simp only [Nat.zero_add]
      refine hK.out _ _ trivial (fun hHeld => ?_)
      clear hK K hHeld
      try simp only [Act.put, List.setIfInBounds_toArray, List.set_cons_zero, List.set_cons_succ]
      clear hown hgrow hat hlt hE HR
      generalize (some (⟨g1, 0, none⟩ : Addr)) = a1 at *
      refine wpAnyH_ready (rs := [3, 4]) (by kernel_rfl) (by simp) ?_
      refine AllReadyH.cons (o := { dst := some 15, op := _, type := _, pos := _, after := _, guard := _ }) rfl (fun K hK => ?_) ?_
      · go_simp
        refine upon_run (mk5 _) ?_
        try go_wp2_with fail
        refine hK.out _ _ trivial (fun hHeld => ?_)
        clear hK K hHeld
        try simp only [Act.put, List.setIfInBounds_toArray, List.set_cons_zero, List.set_cons_succ]
        have ho := own5 v2
        have hb : Below v2.heap.size v2 (v2.alloc (.cells #[.int .i64 0, .int .i64 0, .int .i64 0, .int .i64 0, .int .i64 0] 3)) := below_a _
        have A14 := apt_new hO1 ho
        have hO1 := hO1.bel hb
        have HX := HX.below hb
        have HB := below_tr HB hb
        have hO4 := ho.mono hsz
        have hsz := Nat.le_trans hsz hb.size
        clear ho hb
        generalize (v2.alloc (.cells #[.int .i64 0, .int .i64 0, .int .i64 0, .int .i64 0, .int .i64 0] 3)) = v3 at *
        generalize (some (⟨v2.heap.size, 0, none⟩ : Addr)) = a4 at *
        refine wpAnyH_ready (rs := [4]) (by kernel_rfl) (by simp) ?_
        refine AllReadyH.cons (o := { dst := some 16, op := _, type := _, pos := _, after := _, guard := _ }) rfl (fun K hK => ?_) ?_
        · go_simp
          refine upon_run (mk5 _) ?_
          try go_wp2_with fail
          refine hK.out _ _ trivial (fun hHeld => ?_)
          clear hK K hHeld
          try simp only [Act.put, List.setIfInBounds_toArray, List.set_cons_zero, List.set_cons_succ]
          have ho := own5 v3
          have hb : Below v3.heap.size v3 (v3.alloc (.cells #[.int .i64 0, .int .i64 0, .int .i64 0, .int .i64 0, .int .i64 0] 3)) := below_a _
          have A15 := apt_new hO1 ho
          have A45 := apt_new hO4 ho
          have hO1 := hO1.bel hb
          have hO4 := hO4.bel hb
          have HX := HX.below hb
          have HB := below_tr HB hb
          have hO5 := ho.mono hsz
          have hsz := Nat.le_trans hsz hb.size
          clear ho hb
          generalize (v3.alloc (.cells #[.int .i64 0, .int .i64 0, .int .i64 0, .int .i64 0, .int .i64 0] 3)) = v4 at *
          generalize (some (⟨v3.heap.size, 0, none⟩ : Addr)) = a5 at *
          have hSn : (fun _ : World => True) v4 := trivial
          refine wpAnyH_take (i := 5) (oi := { dst := some 17, op := _, type := _, pos := _, after := _, guard := _ }) (v := ?_) rfl (by kernel_rfl) (by kernel_rfl) (by kernel_rfl) (fun _ _ _ h => h) (Or.inl ⟨by rfl, ?_⟩) (by assumption) ?_
          rotate_left
          · intro w hSw
            first | (go_simp; done) | (go_simp; with_reducible rfl)
          try simp only [Act.put, List.setIfInBounds_toArray, List.set_cons_zero, List.set_cons_succ]
          clear hSn
          refine wpAnyH_ready (rs := [6]) (by kernel_rfl) (by simp) ?_
          refine AllReadyH.cons (o := { dst := none, op := _, type := _, pos := _, after := _, guard := _ }) rfl (fun K hK => ?_) ?_
          · have q0 := HX.cell 0 rfl
            have p0 := HX.frozen 0 rfl
            have q1 := HX.cell 1 rfl
            have p1 := HX.frozen 1 rfl
            have q2 := HX.cell 2 rfl
            have p2 := HX.frozen 2 rfl
            have q3 := HX.cell 3 rfl
            have p3 := HX.frozen 3 rfl
            have q4 := HX.cell 4 rfl
            have p4 := HX.frozen 4 rfl
            have q5 := HX.cell 5 rfl
            have p5 := HX.frozen 5 rfl
            go_simp
            try go_wp2_with fail
            refine hK.out _ _ trivial (fun hHeld => ?_)
            clear hK K hHeld
            try simp only [Act.put, List.setIfInBounds_toArray, List.set_cons_zero, List.set_cons_succ]
            have hg := six_grown v4 w.heap.size (.slice none 0 0) (.slice a1 p.length k1) (.slice none 0 0) (.int .i64 0) (.slice a4 5 5) (.slice a5 5 5)
            have HY := box_put6 HX (.slice none 0 0) (.slice a1 p.length k1) (.slice none 0 0) (.int .i64 0) (.slice a4 5 5) (.slice a5 5 5)
            have hne : ∀ (v : Value) (zs : List Int), Own v4 V0.heap.size v zs → ∀ b, v.ownBlock = some b → some b ≠ some w.heap.size := fun v zs ho b hb e => by cases e; have := (ho.2.lt _ hb).1; omega
            have hO1 := (hO1.kpt hg (hne _ _ hO1)).mono (Nat.le_of_lt hV0)
            have hO4 := (hO4.kpt hg (hne _ _ hO4)).mono (Nat.le_of_lt hV0)
            have hO5 := (hO5.kpt hg (hne _ _ hO5)).mono (Nat.le_of_lt hV0)
            have HB := grown_below HB hg (fun k hk => by cases hk; exact Nat.le_refl _)
            have e0 := HY.cell 0 rfl
            have e1 := HY.cell 1 rfl
            have e2 := HY.cell 2 rfl
            have e3 := HY.cell 3 rfl
            have e4 := HY.cell 4 rfl
            have e5 := HY.cell 5 rfl
            clear hg HY HX hne q0 p0 q1 p1 q2 p2 q3 p3 q4 p4 q5 p5
            generalize ((((((v4.setCell ⟨w.heap.size, 0, none⟩ (.slice none 0 0)).setCell ⟨w.heap.size, 1, none⟩ (.slice a1 p.length k1)).setCell ⟨w.heap.size, 2, none⟩ (.slice none 0 0)).setCell ⟨w.heap.size, 3, none⟩ (.int .i64 0)).setCell ⟨w.heap.size, 4, none⟩ (.slice a4 5 5)).setCell ⟨w.heap.size, 5, none⟩ (.slice a5 5 5)) = v5 at *
            refine wpAnyH_done (by kernel_rfl) ?_ _
            have HO1 := hide hO1
            have HO4 := hide hO4
            have HO5 := hide hO5
            have HAA := hide (And.intro A14 (And.intro A15 A45))
            have HBB := hide HB
            clear hO1 hO4 hO5 A14 A15 A45 HB
            go_wp2_with fail
            exact bodyPost_ret (v := .agg #[.slice none 0 0, .slice a1 p.length k1, .slice none 0 0, .int .i64 0, .slice a4 5 5, .slice a5 5 5]) (by simp [results, Try.results23, go_sem, e0, e1, e2, e3, e4, e5]) rfl
              (newT (unhide HO1) (unhide HO4) (unhide HO5) (unhide HAA).1 (unhide HAA).2.1 (unhide HAA).2.2 (unhide HBB))
          exact AllReadyH.nil
        exact AllReadyH.nil
      refine AllReadyH.cons (o := { dst := some 16, op := _, type := _, pos := _, after := _, guard := _ }) rfl (fun K hK => ?_) ?_
      · go_simp
        refine upon_run (mk5 _) ?_
        try go_wp2_with fail
        refine hK.out _ _ trivial (fun hHeld => ?_)
        clear hK K hHeld
        try simp only [Act.put, List.setIfInBounds_toArray, List.set_cons_zero, List.set_cons_succ]
        have ho := own5 v2
        have hb : Below v2.heap.size v2 (v2.alloc (.cells #[.int .i64 0, .int .i64 0, .int .i64 0, .int .i64 0, .int .i64 0] 3)) := below_a _
        have A15 := apt_new hO1 ho
        have hO1 := hO1.bel hb
        have HX := HX.below hb
        have HB := below_tr HB hb
        have hO5 := ho.mono hsz
        have hsz := Nat.le_trans hsz hb.size
        clear ho hb
        generalize (v2.alloc (.cells #[.int .i64 0, .int .i64 0, .int .i64 0, .int .i64 0, .int .i64 0] 3)) = v6 at *
        generalize (some (⟨v2.heap.size, 0, none⟩ : Addr)) = a5 at *
        refine wpAnyH_ready (rs := [3]) (by kernel_rfl) (by simp) ?_
        refine AllReadyH.cons (o := { dst := some 15, op := _, type := _, pos := _, after := _, guard := _ }) rfl (fun K hK => ?_) ?_
        · go_simp
          refine upon_run (mk5 _) ?_
          try go_wp2_with fail
          refine hK.out _ _ trivial (fun hHeld => ?_)
          clear hK K hHeld
          try simp only [Act.put, List.setIfInBounds_toArray, List.set_cons_zero, List.set_cons_succ]
          have ho := own5 v6
          have hb : Below v6.heap.size v6 (v6.alloc (.cells #[.int .i64 0, .int .i64 0, .int .i64 0, .int .i64 0, .int .i64 0] 3)) := below_a _
          have A14 := apt_new hO1 ho
          have A45 := (apt_new hO5 ho).symm
          have hO1 := hO1.bel hb
          have hO5 := hO5.bel hb
          have HX := HX.below hb
          have HB := below_tr HB hb
          have hO4 := ho.mono hsz
          have hsz := Nat.le_trans hsz hb.size
          clear ho hb
          generalize (v6.alloc (.cells #[.int .i64 0, .int .i64 0, .int .i64 0, .int .i64 0, .int .i64 0] 3)) = v7 at *
          generalize (some (⟨v6.heap.size, 0, none⟩ : Addr)) = a4 at *
          have hSn : (fun _ : World => True) v7 := trivial
          refine wpAnyH_take (i := 5) (oi := { dst := some 17, op := _, type := _, pos := _, after := _, guard := _ }) (v := ?_) rfl (by kernel_rfl) (by kernel_rfl) (by kernel_rfl) (fun _ _ _ h => h) (Or.inl ⟨by rfl, ?_⟩) (by assumption) ?_
          rotate_left
          · intro w hSw
            first | (go_simp; done) | (go_simp; with_reducible rfl)
          try simp only [Act.put, List.setIfInBounds_toArray, List.set_cons_zero, List.set_cons_succ]
          clear hSn
          refine wpAnyH_ready (rs := [6]) (by kernel_rfl) (by simp) ?_
          refine AllReadyH.cons (o := { dst := none, op := _, type := _, pos := _, after := _, guard := _ }) rfl (fun K hK => ?_) ?_
          · have q0 := HX.cell 0 rfl
            have p0 := HX.frozen 0 rfl
            have q1 := HX.cell 1 rfl
            have p1 := HX.frozen 1 rfl
            have q2 := HX.cell 2 rfl
            have p2 := HX.frozen 2 rfl
            have q3 := HX.cell 3 rfl
            have p3 := HX.frozen 3 rfl
            have q4 := HX.cell 4 rfl
            have p4 := HX.frozen 4 rfl
            have q5 := HX.cell 5 rfl
            have p5 := HX.frozen 5 rfl
            go_simp
            try go_wp2_with fail
            refine hK.out _ _ trivial (fun hHeld => ?_)
            clear hK K hHeld
            try simp only [Act.put, List.setIfInBounds_toArray, List.set_cons_zero, List.set_cons_succ]
            have hg := six_grown v7 w.heap.size (.slice none 0 0) (.slice a1 p.length k1) (.slice none 0 0) (.int .i64 0) (.slice a4 5 5) (.slice a5 5 5)
            have HY := box_put6 HX (.slice none 0 0) (.slice a1 p.length k1) (.slice none 0 0) (.int .i64 0) (.slice a4 5 5) (.slice a5 5 5)
            have hne : ∀ (v : Value) (zs : List Int), Own v7 V0.heap.size v zs → ∀ b, v.ownBlock = some b → some b ≠ some w.heap.size := fun v zs ho b hb e => by cases e; have := (ho.2.lt _ hb).1; omega
            have hO1 := (hO1.kpt hg (hne _ _ hO1)).mono (Nat.le_of_lt hV0)
            have hO4 := (hO4.kpt hg (hne _ _ hO4)).mono (Nat.le_of_lt hV0)
            have hO5 := (hO5.kpt hg (hne _ _ hO5)).mono (Nat.le_of_lt hV0)
            have HB := grown_below HB hg (fun k hk => by cases hk; exact Nat.le_refl _)
            have e0 := HY.cell 0 rfl
            have e1 := HY.cell 1 rfl
            have e2 := HY.cell 2 rfl
            have e3 := HY.cell 3 rfl
            have e4 := HY.cell 4 rfl
            have e5 := HY.cell 5 rfl
            clear hg HY HX hne q0 p0 q1 p1 q2 p2 q3 p3 q4 p4 q5 p5
            generalize ((((((v7.setCell ⟨w.heap.size, 0, none⟩ (.slice none 0 0)).setCell ⟨w.heap.size, 1, none⟩ (.slice a1 p.length k1)).setCell ⟨w.heap.size, 2, none⟩ (.slice none 0 0)).setCell ⟨w.heap.size, 3, none⟩ (.int .i64 0)).setCell ⟨w.heap.size, 4, none⟩ (.slice a4 5 5)).setCell ⟨w.heap.size, 5, none⟩ (.slice a5 5 5)) = v8 at *
            refine wpAnyH_done (by kernel_rfl) ?_ _
            have HO1 := hide hO1
            have HO4 := hide hO4
            have HO5 := hide hO5
            have HAA := hide (And.intro A14 (And.intro A15 A45))
            have HBB := hide HB
            clear hO1 hO4 hO5 A14 A15 A45 HB
            go_wp2_with fail
            exact bodyPost_ret (v := .agg #[.slice none 0 0, .slice a1 p.length k1, .slice none 0 0, .int .i64 0, .slice a4 5 5, .slice a5 5 5]) (by simp [results, Try.results23, go_sem, e0, e1, e2, e3, e4, e5]) rfl
              (newT (unhide HO1) (unhide HO4) (unhide HO5) (unhide HAA).1 (unhide HAA).2.1 (unhide HAA).2.2 (unhide HBB))
          exact AllReadyH.nil
        exact AllReadyH.nil
      exact AllReadyH.nil
    refine AllReadyH.cons (o := { dst := some 15, op := _, type := _, pos := _, after := _, guard := _ }) rfl (fun K hK => ?_) ?_
    · go_simp
      refine upon_run (mk5 _) ?_
      try go_wp2_with fail
      refine hK.out _ _ trivial (fun hHeld => ?_)
      clear hK K hHeld
      try simp only [Act.put, List.setIfInBounds_toArray, List.set_cons_zero, List.set_cons_succ]
      have ho := own5 v1
      have hb : Below v1.heap.size v1 (v1.alloc (.cells #[.int .i64 0, .int .i64 0, .int .i64 0, .int .i64 0, .int .i64 0] 3)) := below_a _
      have AE4 := apt_new hE ho
      have hE := hE.bel hb
      have HX := HX.below hb
      have HB := below_tr HB hb
      have HR := HR.bel hb
      have hO4 := ho.mono hsz
      have hsz := Nat.le_trans hsz hb.size
      clear ho hb
      generalize (v1.alloc (.cells #[.int .i64 0, .int .i64 0, .int .i64 0, .int .i64 0, .int .i64 0] 3)) = v9 at *
      generalize (some (⟨v1.heap.size, 0, none⟩ : Addr)) = a4 at *
      refine wpAnyH_ready (rs := [2, 4]) (by kernel_rfl) (by simp) ?_
      refine AllReadyH.cons (o := { dst := some 14, op := _, type := _, pos := _, after := _, guard := _ }) rfl (fun K hK => ?_) ?_
      · skip
        refine step_append_lies _ (by rfl) _ _ 23 (by rfl) V0.heap.size 3 i0 (.int .i64 0) 1 8 Try.underlying23 hi hz0 hz1 hz2 rfl (by decide) (.slice aE 0 0) 0 [] (by rfl) hE.2 ad p.length cap (p.map (Value.int .i64)) (by rfl) (by simp) (row_src HR) (ints_oneCell _ _) (by have := unhide H5; omega) (by unfold maxLen; omega) (by omega) hsz _ rfl ?_
        intro g1 k1 v10 hown hgrow hat hlt
        have hO1 : Own v10 V0.heap.size (.slice (some ⟨g1, 0, none⟩) p.length k1) p := ⟨HR.1, by simpa using hown⟩
        have A14 : Apt (.slice (some ⟨g1, 0, none⟩) p.length k1) (.slice a4 5 5) := apt_app hO4 AE4 hat
        have hO4 := hO4.kpt hgrow AE4.symm
        have HX := box_kpt HX hgrow (fun e => by have := (hE.2.lt _ e.symm).1; omega)
        have HB := grown_below HB hgrow (fun k hk => by have := (hE.2.lt k hk).1; omega)
        have hsz := Nat.le_trans hsz hgrow.size
        simp only [Nat.zero_add]
        refine hK.out _ _ trivial (fun hHeld => ?_)
        clear hK K hHeld
        try simp only [Act.put, List.setIfInBounds_toArray, List.set_cons_zero, List.set_cons_succ]
        clear hown hgrow hat hlt hE HR AE4
        generalize (some (⟨g1, 0, none⟩ : Addr)) = a1 at *
        refine wpAnyH_ready (rs := [4]) (by kernel_rfl) (by simp) ?_
        refine AllReadyH.cons (o := { dst := some 16, op := _, type := _, pos := _, after := _, guard := _ }) rfl (fun K hK => ?_) ?_
        · go_simp
          refine upon_run (mk5 _) ?_
          try go_wp2_with fail
          refine hK.out _ _ trivial (fun hHeld => ?_)
          clear hK K hHeld
          try simp only [Act.put, List.setIfInBounds_toArray, List.set_cons_zero, List.set_cons_succ]
          have ho := own5 v10
          have hb : Below v10.heap.size v10 (v10.alloc (.cells #[.int .i64 0, .int .i64 0, .int .i64 0, .int .i64 0, .int .i64 0] 3)) := below_a _
          have A15 := apt_new hO1 ho
          have A45 := apt_new hO4 ho
          have hO1 := hO1.bel hb
          have hO4 := hO4.bel hb
          have HX := HX.below hb
          have HB := below_tr HB hb
          have hO5 := ho.mono hsz
          have hsz := Nat.le_trans hsz hb.size
          clear ho hb
          generalize (v10.alloc (.cells #[.int .i64 0, .int .i64 0, .int .i64 0, .int .i64 0, .int .i64 0] 3)) = v11 at *
          generalize (some (⟨v10.heap.size, 0, none⟩ : Addr)) = a5 at *
          have hSn : (fun _ : World => True) v11 := trivial
          refine wpAnyH_take (i := 5) (oi := { dst := some 17, op := _, type := _, pos := _, after := _, guard := _ }) (v := ?_) rfl (by kernel_rfl) (by kernel_rfl) (by kernel_rfl) (fun _ _ _ h => h) (Or.inl ⟨by rfl, ?_⟩) (by assumption) ?_
          rotate_left
          · intro w hSw
            first | (go_simp; done) | (go_simp; with_reducible rfl)
          try simp only [Act.put, List.setIfInBounds_toArray, List.set_cons_zero, List.set_cons_succ]
          clear hSn
          refine wpAnyH_ready (rs := [6]) (by kernel_rfl) (by simp) ?_
          refine AllReadyH.cons (o := { dst := none, op := _, type := _, pos := _, after := _, guard := _ }) rfl (fun K hK => ?_) ?_
          · have q0 := HX.cell 0 rfl
            have p0 := HX.frozen 0 rfl
            have q1 := HX.cell 1 rfl
            have p1 := HX.frozen 1 rfl
            have q2 := HX.cell 2 rfl
            have p2 := HX.frozen 2 rfl
            have q3 := HX.cell 3 rfl
            have p3 := HX.frozen 3 rfl
            have q4 := HX.cell 4 rfl
            have p4 := HX.frozen 4 rfl
            have q5 := HX.cell 5 rfl
            have p5 := HX.frozen 5 rfl
            go_simp
            try go_wp2_with fail
            refine hK.out _ _ trivial (fun hHeld => ?_)
            clear hK K hHeld
            try simp only [Act.put, List.setIfInBounds_toArray, List.set_cons_zero, List.set_cons_succ]
            have hg := six_grown v11 w.heap.size (.slice none 0 0) (.slice a1 p.length k1) (.slice none 0 0) (.int .i64 0) (.slice a4 5 5) (.slice a5 5 5)
            have HY := box_put6 HX (.slice none 0 0) (.slice a1 p.length k1) (.slice none 0 0) (.int .i64 0) (.slice a4 5 5) (.slice a5 5 5)
            have hne : ∀ (v : Value) (zs : List Int), Own v11 V0.heap.size v zs → ∀ b, v.ownBlock = some b → some b ≠ some w.heap.size := fun v zs ho b hb e => by cases e; have := (ho.2.lt _ hb).1; omega
            have hO1 := (hO1.kpt hg (hne _ _ hO1)).mono (Nat.le_of_lt hV0)
            have hO4 := (hO4.kpt hg (hne _ _ hO4)).mono (Nat.le_of_lt hV0)
            have hO5 := (hO5.kpt hg (hne _ _ hO5)).mono (Nat.le_of_lt hV0)
            have HB := grown_below HB hg (fun k hk => by cases hk; exact Nat.le_refl _)
            have e0 := HY.cell 0 rfl
            have e1 := HY.cell 1 rfl
            have e2 := HY.cell 2 rfl
            have e3 := HY.cell 3 rfl
            have e4 := HY.cell 4 rfl
            have e5 := HY.cell 5 rfl
            clear hg HY HX hne q0 p0 q1 p1 q2 p2 q3 p3 q4 p4 q5 p5
            generalize ((((((v11.setCell ⟨w.heap.size, 0, none⟩ (.slice none 0 0)).setCell ⟨w.heap.size, 1, none⟩ (.slice a1 p.length k1)).setCell ⟨w.heap.size, 2, none⟩ (.slice none 0 0)).setCell ⟨w.heap.size, 3, none⟩ (.int .i64 0)).setCell ⟨w.heap.size, 4, none⟩ (.slice a4 5 5)).setCell ⟨w.heap.size, 5, none⟩ (.slice a5 5 5)) = v12 at *
            refine wpAnyH_done (by kernel_rfl) ?_ _
            have HO1 := hide hO1
            have HO4 := hide hO4
            have HO5 := hide hO5
            have HAA := hide (And.intro A14 (And.intro A15 A45))
            have HBB := hide HB
            clear hO1 hO4 hO5 A14 A15 A45 HB
            go_wp2_with fail
            exact bodyPost_ret (v := .agg #[.slice none 0 0, .slice a1 p.length k1, .slice none 0 0, .int .i64 0, .slice a4 5 5, .slice a5 5 5]) (by simp [results, Try.results23, go_sem, e0, e1, e2, e3, e4, e5]) rfl
              (newT (unhide HO1) (unhide HO4) (unhide HO5) (unhide HAA).1 (unhide HAA).2.1 (unhide HAA).2.2 (unhide HBB))
          exact AllReadyH.nil
        exact AllReadyH.nil
      refine AllReadyH.cons (o := { dst := some 16, op := _, type := _, pos := _, after := _, guard := _ }) rfl (fun K hK => ?_) ?_
      · go_simp
        refine upon_run (mk5 _) ?_
        try go_wp2_with fail
        refine hK.out _ _ trivial (fun hHeld => ?_)
        clear hK K hHeld
        try simp only [Act.put, List.setIfInBounds_toArray, List.set_cons_zero, List.set_cons_succ]
        have ho := own5 v9
        have hb : Below v9.heap.size v9 (v9.alloc (.cells #[.int .i64 0, .int .i64 0, .int .i64 0, .int .i64 0, .int .i64 0] 3)) := below_a _
        have AE5 := apt_new hE ho
        have A45 := apt_new hO4 ho
        have hE := hE.bel hb
        have hO4 := hO4.bel hb
        have HX := HX.below hb
        have HB := below_tr HB hb
        have HR := HR.bel hb
        have hO5 := ho.mono hsz
        have hsz := Nat.le_trans hsz hb.size
        clear ho hb
        generalize (v9.alloc (.cells #[.int .i64 0, .int .i64 0, .int .i64 0, .int .i64 0, .int .i64 0] 3)) = v13 at *
        generalize (some (⟨v9.heap.size, 0, none⟩ : Addr)) = a5 at *
        refine wpAnyH_ready (rs := [2]) (by kernel_rfl) (by simp) ?_
        refine AllReadyH.cons (o := { dst := some 14, op := _, type := _, pos := _, after := _, guard := _ }) rfl (fun K hK => ?_) ?_
        · skip
          refine step_append_lies _ (by rfl) _ _ 23 (by rfl) V0.heap.size 3 i0 (.int .i64 0) 1 8 Try.underlying23 hi hz0 hz1 hz2 rfl (by decide) (.slice aE 0 0) 0 [] (by rfl) hE.2 ad p.length cap (p.map (Value.int .i64)) (by rfl) (by simp) (row_src HR) (ints_oneCell _ _) (by have := unhide H5; omega) (by unfold maxLen; omega) (by omega) hsz _ rfl ?_
          intro g1 k1 v14 hown hgrow hat hlt
          have hO1 : Own v14 V0.heap.size (.slice (some ⟨g1, 0, none⟩) p.length k1) p := ⟨HR.1, by simpa using hown⟩
          have A14 : Apt (.slice (some ⟨g1, 0, none⟩) p.length k1) (.slice a4 5 5) := apt_app hO4 AE4 hat
          have hO4 := hO4.kpt hgrow AE4.symm
          have A15 : Apt (.slice (some ⟨g1, 0, none⟩) p.length k1) (.slice a5 5 5) := apt_app hO5 AE5 hat
          have hO5 := hO5.kpt hgrow AE5.symm
          have HX := box_kpt HX hgrow (fun e => by have := (hE.2.lt _ e.symm).1; omega)
          have HB := grown_below HB hgrow (fun k hk => by have := (hE.2.lt k hk).1; omega)
          have hsz := Nat.le_trans hsz hgrow.size
          simp only [Nat.zero_add]
          refine hK.out _ _ trivial (fun hHeld => ?_)
          clear hK K hHeld
          try simp only [Act.put, List.setIfInBounds_toArray, List.set_cons_zero, List.set_cons_succ]
          clear hown hgrow hat hlt hE HR AE4 AE5
          generalize (some (⟨g1, 0, none⟩ : Addr)) = a1 at *
          have hSn : (fun _ : World => True) v14 := trivial
          refine wpAnyH_take (i := 5) (oi := { dst := some 17, op := _, type := _, pos := _, after := _, guard := _ }) (v := ?_) rfl (by kernel_rfl) (by kernel_rfl) (by kernel_rfl) (fun _ _ _ h => h) (Or.inl ⟨by rfl, ?_⟩) (by assumption) ?_
          rotate_left
          · intro w hSw
            first | (go_simp; done) | (go_simp; with_reducible rfl)
          try simp only [Act.put, List.setIfInBounds_toArray, List.set_cons_zero, List.set_cons_succ]
          clear hSn
          refine wpAnyH_ready (rs := [6]) (by kernel_rfl) (by simp) ?_
          refine AllReadyH.cons (o := { dst := none, op := _, type := _, pos := _, after := _, guard := _ }) rfl (fun K hK => ?_) ?_
          · have q0 := HX.cell 0 rfl
            have p0 := HX.frozen 0 rfl
            have q1 := HX.cell 1 rfl
            have p1 := HX.frozen 1 rfl
            have q2 := HX.cell 2 rfl
            have p2 := HX.frozen 2 rfl
            have q3 := HX.cell 3 rfl
            have p3 := HX.frozen 3 rfl
            have q4 := HX.cell 4 rfl
            have p4 := HX.frozen 4 rfl
            have q5 := HX.cell 5 rfl
            have p5 := HX.frozen 5 rfl
            go_simp
            try go_wp2_with fail
            refine hK.out _ _ trivial (fun hHeld => ?_)
            clear hK K hHeld
            try simp only [Act.put, List.setIfInBounds_toArray, List.set_cons_zero, List.set_cons_succ]
            have hg := six_grown v14 w.heap.size (.slice none 0 0) (.slice a1 p.length k1) (.slice none 0 0) (.int .i64 0) (.slice a4 5 5) (.slice a5 5 5)
            have HY := box_put6 HX (.slice none 0 0) (.slice a1 p.length k1) (.slice none 0 0) (.int .i64 0) (.slice a4 5 5) (.slice a5 5 5)
            have hne : ∀ (v : Value) (zs : List Int), Own v14 V0.heap.size v zs → ∀ b, v.ownBlock = some b → some b ≠ some w.heap.size := fun v zs ho b hb e => by cases e; have := (ho.2.lt _ hb).1; omega
            have hO1 := (hO1.kpt hg (hne _ _ hO1)).mono (Nat.le_of_lt hV0)
            have hO4 := (hO4.kpt hg (hne _ _ hO4)).mono (Nat.le_of_lt hV0)
            have hO5 := (hO5.kpt hg (hne _ _ hO5)).mono (Nat.le_of_lt hV0)
            have HB := grown_below HB hg (fun k hk => by cases hk; exact Nat.le_refl _)
            have e0 := HY.cell 0 rfl
            have e1 := HY.cell 1 rfl
            have e2 := HY.cell 2 rfl
            have e3 := HY.cell 3 rfl
            have e4 := HY.cell 4 rfl
            have e5 := HY.cell 5 rfl
            clear hg HY HX hne q0 p0 q1 p1 q2 p2 q3 p3 q4 p4 q5 p5
            generalize ((((((v14.setCell ⟨w.heap.size, 0, none⟩ (.slice none 0 0)).setCell ⟨w.heap.size, 1, none⟩ (.slice a1 p.length k1)).setCell ⟨w.heap.size, 2, none⟩ (.slice none 0 0)).setCell ⟨w.heap.size, 3, none⟩ (.int .i64 0)).setCell ⟨w.heap.size, 4, none⟩ (.slice a4 5 5)).setCell ⟨w.heap.size, 5, none⟩ (.slice a5 5 5)) = v15 at *
            refine wpAnyH_done (by kernel_rfl) ?_ _
            have HO1 := hide hO1
            have HO4 := hide hO4
            have HO5 := hide hO5
            have HAA := hide (And.intro A14 (And.intro A15 A45))
            have HBB := hide HB
            clear hO1 hO4 hO5 A14 A15 A45 HB
            go_wp2_with fail
            exact bodyPost_ret (v := .agg #[.slice none 0 0, .slice a1 p.length k1, .slice none 0 0, .int .i64 0, .slice a4 5 5, .slice a5 5 5]) (by simp [results, Try.results23, go_sem, e0, e1, e2, e3, e4, e5]) rfl
              (newT (unhide HO1) (unhide HO4) (unhide HO5) (unhide HAA).1 (unhide HAA).2.1 (unhide HAA).2.2 (unhide HBB))
          exact AllReadyH.nil
        exact AllReadyH.nil
      exact AllReadyH.nil
    refine AllReadyH.cons (o := { dst := some 16, op := _, type := _, pos := _, after := _, guard := _ }) rfl (fun K hK => ?_) ?_
    · go_simp
      refine upon_run (mk5 _) ?_
      try go_wp2_with fail
      refine hK.out _ _ trivial (fun hHeld => ?_)
      clear hK K hHeld
      try simp only [Act.put, List.setIfInBounds_toArray, List.set_cons_zero, List.set_cons_succ]
      have ho := own5 v1
      have hb : Below v1.heap.size v1 (v1.alloc (.cells #[.int .i64 0, .int .i64 0, .int .i64 0, .int .i64 0, .int .i64 0] 3)) := below_a _
      have AE5 := apt_new hE ho
      have hE := hE.bel hb
      have HX := HX.below hb
      have HB := below_tr HB hb
      have HR := HR.bel hb
      have hO5 := ho.mono hsz
      have hsz := Nat.le_trans hsz hb.size
      clear ho hb
      generalize (v1.alloc (.cells #[.int .i64 0, .int .i64 0, .int .i64 0, .int .i64 0, .int .i64 0] 3)) = v16 at *
      generalize (some (⟨v1.heap.size, 0, none⟩ : Addr)) = a5 at *
      refine wpAnyH_ready (rs := [2, 3]) (by kernel_rfl) (by simp) ?_
      refine AllReadyH.cons (o := { dst := some 14, op := _, type := _, pos := _, after := _, guard := _ }) rfl (fun K hK => ?_) ?_
      · skip
        refine step_append_lies _ (by rfl) _ _ 23 (by rfl) V0.heap.size 3 i0 (.int .i64 0) 1 8 Try.underlying23 hi hz0 hz1 hz2 rfl (by decide) (.slice aE 0 0) 0 [] (by rfl) hE.2 ad p.length cap (p.map (Value.int .i64)) (by rfl) (by simp) (row_src HR) (ints_oneCell _ _) (by have := unhide H5; omega) (by unfold maxLen; omega) (by omega) hsz _ rfl ?_
        intro g1 k1 v17 hown hgrow hat hlt
        have hO1 : Own v17 V0.heap.size (.slice (some ⟨g1, 0, none⟩) p.length k1) p := ⟨HR.1, by simpa using hown⟩
        have A15 : Apt (.slice (some ⟨g1, 0, none⟩) p.length k1) (.slice a5 5 5) := apt_app hO5 AE5 hat
        have hO5 := hO5.kpt hgrow AE5.symm
        have HX := box_kpt HX hgrow (fun e => by have := (hE.2.lt _ e.symm).1; omega)
        have HB := grown_below HB hgrow (fun k hk => by have := (hE.2.lt k hk).1; omega)
        have hsz := Nat.le_trans hsz hgrow.size
        simp only [Nat.zero_add]
        refine hK.out _ _ trivial (fun hHeld => ?_)
        clear hK K hHeld
        try simp only [Act.put, List.setIfInBounds_toArray, List.set_cons_zero, List.set_cons_succ]
        clear hown hgrow hat hlt hE HR AE5
        generalize (some (⟨g1, 0, none⟩ : Addr)) = a1 at *
        refine wpAnyH_ready (rs := [3]) (by kernel_rfl) (by simp) ?_
        refine AllReadyH.cons (o := { dst := some 15, op := _, type := _, pos := _, after := _, guard := _ }) rfl (fun K hK => ?_) ?_
        · go_simp
          refine upon_run (mk5 _) ?_
          try go_wp2_with fail
          refine hK.out _ _ trivial (fun hHeld => ?_)
          clear hK K hHeld
          try simp only [Act.put, List.setIfInBounds_toArray, List.set_cons_zero, List.set_cons_succ]
          have ho := own5 v17
          have hb : Below v17.heap.size v17 (v17.alloc (.cells #[.int .i64 0, .int .i64 0, .int .i64 0, .int .i64 0, .int .i64 0] 3)) := below_a _
          have A14 := apt_new hO1 ho
          have A45 := (apt_new hO5 ho).symm
          have hO1 := hO1.bel hb
          have hO5 := hO5.bel hb
          have HX := HX.below hb
          have HB := below_tr HB hb
          have hO4 := ho.mono hsz
          have hsz := Nat.le_trans hsz hb.size
          clear ho hb
          generalize (v17.alloc (.cells #[.int .i64 0, .int .i64 0, .int .i64 0, .int .i64 0, .int .i64 0] 3)) = v18 at *
          generalize (some (⟨v17.heap.size, 0, none⟩ : Addr)) = a4 at *
          have hSn : (fun _ : World => True) v18 := trivial
          refine wpAnyH_take (i := 5) (oi := { dst := some 17, op := _, type := _, pos := _, after := _, guard := _ }) (v := ?_) rfl (by kernel_rfl) (by kernel_rfl) (by kernel_rfl) (fun _ _ _ h => h) (Or.inl ⟨by rfl, ?_⟩) (by assumption) ?_
          rotate_left
          · intro w hSw
            first | (go_simp; done) | (go_simp; with_reducible rfl)
          try simp only [Act.put, List.setIfInBounds_toArray, List.set_cons_zero, List.set_cons_succ]
          clear hSn
          refine wpAnyH_ready (rs := [6]) (by kernel_rfl) (by simp) ?_
          refine AllReadyH.cons (o := { dst := none, op := _, type := _, pos := _, after := _, guard := _ }) rfl (fun K hK => ?_) ?_
          · have q0 := HX.cell 0 rfl
            have p0 := HX.frozen 0 rfl
            have q1 := HX.cell 1 rfl
            have p1 := HX.frozen 1 rfl
            have q2 := HX.cell 2 rfl
            have p2 := HX.frozen 2 rfl
            have q3 := HX.cell 3 rfl
            have p3 := HX.frozen 3 rfl
            have q4 := HX.cell 4 rfl
            have p4 := HX.frozen 4 rfl
            have q5 := HX.cell 5 rfl
            have p5 := HX.frozen 5 rfl
            go_simp
            try go_wp2_with fail
            refine hK.out _ _ trivial (fun hHeld => ?_)
            clear hK K hHeld
            try simp only [Act.put, List.setIfInBounds_toArray, List.set_cons_zero, List.set_cons_succ]
            have hg := six_grown v18 w.heap.size (.slice none 0 0) (.slice a1 p.length k1) (.slice none 0 0) (.int .i64 0) (.slice a4 5 5) (.slice a5 5 5)
            have HY := box_put6 HX (.slice none 0 0) (.slice a1 p.length k1) (.slice none 0 0) (.int .i64 0) (.slice a4 5 5) (.slice a5 5 5)
            have hne : ∀ (v : Value) (zs : List Int), Own v18 V0.heap.size v zs → ∀ b, v.ownBlock = some b → some b ≠ some w.heap.size := fun v zs ho b hb e => by cases e; have := (ho.2.lt _ hb).1; omega
            have hO1 := (hO1.kpt hg (hne _ _ hO1)).mono (Nat.le_of_lt hV0)
            have hO4 := (hO4.kpt hg (hne _ _ hO4)).mono (Nat.le_of_lt hV0)
            have hO5 := (hO5.kpt hg (hne _ _ hO5)).mono (Nat.le_of_lt hV0)
            have HB := grown_below HB hg (fun k hk => by cases hk; exact Nat.le_refl _)
            have e0 := HY.cell 0 rfl
            have e1 := HY.cell 1 rfl
            have e2 := HY.cell 2 rfl
            have e3 := HY.cell 3 rfl
            have e4 := HY.cell 4 rfl
            have e5 := HY.cell 5 rfl
            clear hg HY HX hne q0 p0 q1 p1 q2 p2 q3 p3 q4 p4 q5 p5
            generalize ((((((v18.setCell ⟨w.heap.size, 0, none⟩ (.slice none 0 0)).setCell ⟨w.heap.size, 1, none⟩ (.slice a1 p.length k1)).setCell ⟨w.heap.size, 2, none⟩ (.slice none 0 0)).setCell ⟨w.heap.size, 3, none⟩ (.int .i64 0)).setCell ⟨w.heap.size, 4, none⟩ (.slice a4 5 5)).setCell ⟨w.heap.size, 5, none⟩ (.slice a5 5 5)) = v19 at *
            refine wpAnyH_done (by kernel_rfl) ?_ _
            have HO1 := hide hO1
            have HO4 := hide hO4
            have HO5 := hide hO5
            have HAA := hide (And.intro A14 (And.intro A15 A45))
            have HBB := hide HB
            clear hO1 hO4 hO5 A14 A15 A45 HB
            go_wp2_with fail
            exact bodyPost_ret (v := .agg #[.slice none 0 0, .slice a1 p.length k1, .slice none 0 0, .int .i64 0, .slice a4 5 5, .slice a5 5 5]) (by simp [results, Try.results23, go_sem, e0, e1, e2, e3, e4, e5]) rfl
              (newT (unhide HO1) (unhide HO4) (unhide HO5) (unhide HAA).1 (unhide HAA).2.1 (unhide HAA).2.2 (unhide HBB))
          exact AllReadyH.nil
        exact AllReadyH.nil
      refine AllReadyH.cons (o := { dst := some 15, op := _, type := _, pos := _, after := _, guard := _ }) rfl (fun K hK => ?_) ?_
      · go_simp
        refine upon_run (mk5 _) ?_
        try go_wp2_with fail
        refine hK.out _ _ trivial (fun hHeld => ?_)
        clear hK K hHeld
        try simp only [Act.put, List.setIfInBounds_toArray, List.set_cons_zero, List.set_cons_succ]
        have ho := own5 v16
        have hb : Below v16.heap.size v16 (v16.alloc (.cells #[.int .i64 0, .int .i64 0, .int .i64 0, .int .i64 0, .int .i64 0] 3)) := below_a _
        have AE4 := apt_new hE ho
        have A45 := (apt_new hO5 ho).symm
        have hE := hE.bel hb
        have hO5 := hO5.bel hb
        have HX := HX.below hb
        have HB := below_tr HB hb
        have HR := HR.bel hb
        have hO4 := ho.mono hsz
        have hsz := Nat.le_trans hsz hb.size
        clear ho hb
        generalize (v16.alloc (.cells #[.int .i64 0, .int .i64 0, .int .i64 0, .int .i64 0, .int .i64 0] 3)) = v20 at *
        generalize (some (⟨v16.heap.size, 0, none⟩ : Addr)) = a4 at *
        refine wpAnyH_ready (rs := [2]) (by kernel_rfl) (by simp) ?_
        refine AllReadyH.cons (o := { dst := some 14, op := _, type := _, pos := _, after := _, guard := _ }) rfl (fun K hK => ?_) ?_
        · skip
          refine step_append_lies _ (by rfl) _ _ 23 (by rfl) V0.heap.size 3 i0 (.int .i64 0) 1 8 Try.underlying23 hi hz0 hz1 hz2 rfl (by decide) (.slice aE 0 0) 0 [] (by rfl) hE.2 ad p.length cap (p.map (Value.int .i64)) (by rfl) (by simp) (row_src HR) (ints_oneCell _ _) (by have := unhide H5; omega) (by unfold maxLen; omega) (by omega) hsz _ rfl ?_
          intro g1 k1 v21 hown hgrow hat hlt
          have hO1 : Own v21 V0.heap.size (.slice (some ⟨g1, 0, none⟩) p.length k1) p := ⟨HR.1, by simpa using hown⟩
          have A14 : Apt (.slice (some ⟨g1, 0, none⟩) p.length k1) (.slice a4 5 5) := apt_app hO4 AE4 hat
          have hO4 := hO4.kpt hgrow AE4.symm
          have A15 : Apt (.slice (some ⟨g1, 0, none⟩) p.length k1) (.slice a5 5 5) := apt_app hO5 AE5 hat
          have hO5 := hO5.kpt hgrow AE5.symm
          have HX := box_kpt HX hgrow (fun e => by have := (hE.2.lt _ e.symm).1; omega)
          have HB := grown_below HB hgrow (fun k hk => by have := (hE.2.lt k hk).1; omega)
          have hsz := Nat.le_trans hsz hgrow.size
          simp only [Nat.zero_add]
          refine hK.out _ _ trivial (fun hHeld => ?_)
          clear hK K hHeld
          try simp only [Act.put, List.setIfInBounds_toArray, List.set_cons_zero, List.set_cons_succ]
          clear hown hgrow hat hlt hE HR AE4 AE5
          generalize (some (⟨g1, 0, none⟩ : Addr)) = a1 at *
          have hSn : (fun _ : World => True) v21 := trivial
          refine wpAnyH_take (i := 5) (oi := { dst := some 17, op := _, type := _, pos := _, after := _, guard := _ }) (v := ?_) rfl (by kernel_rfl) (by kernel_rfl) (by kernel_rfl) (fun _ _ _ h => h) (Or.inl ⟨by rfl, ?_⟩) (by assumption) ?_
          rotate_left
          · intro w hSw
            first | (go_simp; done) | (go_simp; with_reducible rfl)
          try simp only [Act.put, List.setIfInBounds_toArray, List.set_cons_zero, List.set_cons_succ]
          clear hSn
          refine wpAnyH_ready (rs := [6]) (by kernel_rfl) (by simp) ?_
          refine AllReadyH.cons (o := { dst := none, op := _, type := _, pos := _, after := _, guard := _ }) rfl (fun K hK => ?_) ?_
          · have q0 := HX.cell 0 rfl
            have p0 := HX.frozen 0 rfl
            have q1 := HX.cell 1 rfl
            have p1 := HX.frozen 1 rfl
            have q2 := HX.cell 2 rfl
            have p2 := HX.frozen 2 rfl
            have q3 := HX.cell 3 rfl
            have p3 := HX.frozen 3 rfl
            have q4 := HX.cell 4 rfl
            have p4 := HX.frozen 4 rfl
            have q5 := HX.cell 5 rfl
            have p5 := HX.frozen 5 rfl
            go_simp
            try go_wp2_with fail
            refine hK.out _ _ trivial (fun hHeld => ?_)
            clear hK K hHeld
            try simp only [Act.put, List.setIfInBounds_toArray, List.set_cons_zero, List.set_cons_succ]
            have hg := six_grown v21 w.heap.size (.slice none 0 0) (.slice a1 p.length k1) (.slice none 0 0) (.int .i64 0) (.slice a4 5 5) (.slice a5 5 5)
            have HY := box_put6 HX (.slice none 0 0) (.slice a1 p.length k1) (.slice none 0 0) (.int .i64 0) (.slice a4 5 5) (.slice a5 5 5)
            have hne : ∀ (v : Value) (zs : List Int), Own v21 V0.heap.size v zs → ∀ b, v.ownBlock = some b → some b ≠ some w.heap.size := fun v zs ho b hb e => by cases e; have := (ho.2.lt _ hb).1; omega
            have hO1 := (hO1.kpt hg (hne _ _ hO1)).mono (Nat.le_of_lt hV0)
            have hO4 := (hO4.kpt hg (hne _ _ hO4)).mono (Nat.le_of_lt hV0)
            have hO5 := (hO5.kpt hg (hne _ _ hO5)).mono (Nat.le_of_lt hV0)
            have HB := grown_below HB hg (fun k hk => by cases hk; exact Nat.le_refl _)
            have e0 := HY.cell 0 rfl
            have e1 := HY.cell 1 rfl
            have e2 := HY.cell 2 rfl
            have e3 := HY.cell 3 rfl
            have e4 := HY.cell 4 rfl
            have e5 := HY.cell 5 rfl
            clear hg HY HX hne q0 p0 q1 p1 q2 p2 q3 p3 q4 p4 q5 p5
            generalize ((((((v21.setCell ⟨w.heap.size, 0, none⟩ (.slice none 0 0)).setCell ⟨w.heap.size, 1, none⟩ (.slice a1 p.length k1)).setCell ⟨w.heap.size, 2, none⟩ (.slice none 0 0)).setCell ⟨w.heap.size, 3, none⟩ (.int .i64 0)).setCell ⟨w.heap.size, 4, none⟩ (.slice a4 5 5)).setCell ⟨w.heap.size, 5, none⟩ (.slice a5 5 5)) = v22 at *
            refine wpAnyH_done (by kernel_rfl) ?_ _
            have HO1 := hide hO1
            have HO4 := hide hO4
            have HO5 := hide hO5
            have HAA := hide (And.intro A14 (And.intro A15 A45))
            have HBB := hide HB
            clear hO1 hO4 hO5 A14 A15 A45 HB
            go_wp2_with fail
            exact bodyPost_ret (v := .agg #[.slice none 0 0, .slice a1 p.length k1, .slice none 0 0, .int .i64 0, .slice a4 5 5, .slice a5 5 5]) (by simp [results, Try.results23, go_sem, e0, e1, e2, e3, e4, e5]) rfl
              (newT (unhide HO1) (unhide HO4) (unhide HO5) (unhide HAA).1 (unhide HAA).2.1 (unhide HAA).2.2 (unhide HBB))
          exact AllReadyH.nil
        exact AllReadyH.nil
      exact AllReadyH.nil
    exact AllReadyH.nil
  refine AllReadyH.cons (o := { dst := some 15, op := _, type := _, pos := _, after := _, guard := _ }) rfl (fun K hK => ?_) ?_
  · go_simp
    refine upon_run (mk5 _) ?_
    try go_wp2_with fail
    refine hK.out _ _ trivial (fun hHeld => ?_)
    clear hK K hHeld
    try simp only [Act.put, List.setIfInBounds_toArray, List.set_cons_zero, List.set_cons_succ]
    have ho := own5 V0
    have hb : Below V0.heap.size V0 (V0.alloc (.cells #[.int .i64 0, .int .i64 0, .int .i64 0, .int .i64 0, .int .i64 0] 3)) := below_a _
    have HX := HX.below hb
    have HB := below_tr HB hb
    have HR := HR.bel hb
    have hO4 := ho.mono hsz
    have hsz := Nat.le_trans hsz hb.size
    clear ho hb
    generalize (V0.alloc (.cells #[.int .i64 0, .int .i64 0, .int .i64 0, .int .i64 0, .int .i64 0] 3)) = v23 at *
    generalize (some (⟨V0.heap.size, 0, none⟩ : Addr)) = a4 at *
    refine wpAnyH_ready (rs := [0, 4]) (by kernel_rfl) (by simp) ?_
    refine AllReadyH.cons (o := { dst := some 12, op := _, type := _, pos := _, after := _, guard := _ }) rfl (fun K hK => ?_) ?_
    · go_simp
      try go_wp2_with fail
      refine hK.out _ _ trivial (fun hHeld => ?_)
      clear hK K hHeld
      try simp only [Act.put, List.setIfInBounds_toArray, List.set_cons_zero, List.set_cons_succ]
      have ho := own_empty v23 v23.heap.size (Nat.le_refl _)
      have hb : Below v23.heap.size v23 (v23.alloc (.cells #[] 3)) := below_a _
      have AE4 := (apt_new hO4 ho).symm
      have hO4 := hO4.bel hb
      have HX := HX.below hb
      have HB := below_tr HB hb
      have HR := HR.bel hb
      have hE := ho.mono hsz
      have hsz := Nat.le_trans hsz hb.size
      clear ho hb
      generalize (v23.alloc (.cells #[] 3)) = v24 at *
      generalize (some (⟨v23.heap.size, 0, none⟩ : Addr)) = aE at *
      refine wpAnyH_ready (rs := [2, 4]) (by kernel_rfl) (by simp) ?_
      refine AllReadyH.cons (o := { dst := some 14, op := _, type := _, pos := _, after := _, guard := _ }) rfl (fun K hK => ?_) ?_
      · skip
        refine step_append_lies _ (by rfl) _ _ 23 (by rfl) V0.heap.size 3 i0 (.int .i64 0) 1 8 Try.underlying23 hi hz0 hz1 hz2 rfl (by decide) (.slice aE 0 0) 0 [] (by rfl) hE.2 ad p.length cap (p.map (Value.int .i64)) (by rfl) (by simp) (row_src HR) (ints_oneCell _ _) (by have := unhide H5; omega) (by unfold maxLen; omega) (by omega) hsz _ rfl ?_
        intro g1 k1 v25 hown hgrow hat hlt
        have hO1 : Own v25 V0.heap.size (.slice (some ⟨g1, 0, none⟩) p.length k1) p := ⟨HR.1, by simpa using hown⟩
        have A14 : Apt (.slice (some ⟨g1, 0, none⟩) p.length k1) (.slice a4 5 5) := apt_app hO4 AE4 hat
        have hO4 := hO4.kpt hgrow AE4.symm
        have HX := box_kpt HX hgrow (fun e => by have := (hE.2.lt _ e.symm).1; omega)
        have HB := grown_below HB hgrow (fun k hk => by have := (hE.2.lt k hk).1; omega)
        have hsz := Nat.le_trans hsz hgrow.size
        simp only [Nat.zero_add]
        refine hK.out _ _ trivial (fun hHeld => ?_)
        clear hK K hHeld
        try simp only [Act.put, List.setIfInBounds_toArray, List.set_cons_zero, List.set_cons_succ]
        clear hown hgrow hat hlt hE HR AE4
        generalize (some (⟨g1, 0, none⟩ : Addr)) = a1 at *
        refine wpAnyH_ready (rs := [4]) (by kernel_rfl) (by simp) ?_
        refine AllReadyH.cons (o := { dst := some 16, op := _, type := _, pos := _, after := _, guard := _ }) rfl (fun K hK => ?_) ?_
        · go_simp
          refine upon_run (mk5 _) ?_
          try go_wp2_with fail
          refine hK.out _ _ trivial (fun hHeld => ?_)
          clear hK K hHeld
          try simp only [Act.put, List.setIfInBounds_toArray, List.set_cons_zero, List.set_cons_succ]
          have ho := own5 v25
          have hb : Below v25.heap.size v25 (v25.alloc (.cells #[.int .i64 0, .int .i64 0, .int .i64 0, .int .i64 0, .int .i64 0] 3)) := below_a _
          have A15 := apt_new hO1 ho
          have A45 := apt_new hO4 ho
          have hO1 := hO1.bel hb
          have hO4 := hO4.bel hb
          have HX := HX.below hb
          have HB := below_tr HB hb
          have hO5 := ho.mono hsz
          have hsz := Nat.le_trans hsz hb.size
          clear ho hb
          generalize (v25.alloc (.cells #[.int .i64 0, .int .i64 0, .int .i64 0, .int .i64 0, .int .i64 0] 3)) = v26 at *
          generalize (some (⟨v25.heap.size, 0, none⟩ : Addr)) = a5 at *
          have hSn : (fun _ : World => True) v26 := trivial
          refine wpAnyH_take (i := 5) (oi := { dst := some 17, op := _, type := _, pos := _, after := _, guard := _ }) (v := ?_) rfl (by kernel_rfl) (by kernel_rfl) (by kernel_rfl) (fun _ _ _ h => h) (Or.inl ⟨by rfl, ?_⟩) (by assumption) ?_
          rotate_left
          · intro w hSw
            first | (go_simp; done) | (go_simp; with_reducible rfl)
          try simp only [Act.put, List.setIfInBounds_toArray, List.set_cons_zero, List.set_cons_succ]
          clear hSn
          refine wpAnyH_ready (rs := [6]) (by kernel_rfl) (by simp) ?_
          refine AllReadyH.cons (o := { dst := none, op := _, type := _, pos := _, after := _, guard := _ }) rfl (fun K hK => ?_) ?_
          · have q0 := HX.cell 0 rfl
            have p0 := HX.frozen 0 rfl
            have q1 := HX.cell 1 rfl
            have p1 := HX.frozen 1 rfl
            have q2 := HX.cell 2 rfl
            have p2 := HX.frozen 2 rfl
            have q3 := HX.cell 3 rfl
            have p3 := HX.frozen 3 rfl
            have q4 := HX.cell 4 rfl
            have p4 := HX.frozen 4 rfl
            have q5 := HX.cell 5 rfl
            have p5 := HX.frozen 5 rfl
            go_simp
            try go_wp2_with fail
            refine hK.out _ _ trivial (fun hHeld => ?_)
            clear hK K hHeld
            try simp only [Act.put, List.setIfInBounds_toArray, List.set_cons_zero, List.set_cons_succ]
            have hg := six_grown v26 w.heap.size (.slice none 0 0) (.slice a1 p.length k1) (.slice none 0 0) (.int .i64 0) (.slice a4 5 5) (.slice a5 5 5)
            have HY := box_put6 HX (.slice none 0 0) (.slice a1 p.length k1) (.slice none 0 0) (.int .i64 0) (.slice a4 5 5) (.slice a5 5 5)
            have hne : ∀ (v : Value) (zs : List Int), Own v26 V0.heap.size v zs → ∀ b, v.ownBlock = some b → some b ≠ some w.heap.size := fun v zs ho b hb e => by cases e; have := (ho.2.lt _ hb).1; omega
            have hO1 := (hO1.kpt hg (hne _ _ hO1)).mono (Nat.le_of_lt hV0)
            have hO4 := (hO4.kpt hg (hne _ _ hO4)).mono (Nat.le_of_lt hV0)
            have hO5 := (hO5.kpt hg (hne _ _ hO5)).mono (Nat.le_of_lt hV0)
            have HB := grown_below HB hg (fun k hk => by cases hk; exact Nat.le_refl _)
            have e0 := HY.cell 0 rfl
            have e1 := HY.cell 1 rfl
            have e2 := HY.cell 2 rfl
            have e3 := HY.cell 3 rfl
            have e4 := HY.cell 4 rfl
            have e5 := HY.cell 5 rfl
            clear hg HY HX hne q0 p0 q1 p1 q2 p2 q3 p3 q4 p4 q5 p5
            generalize ((((((v26.setCell ⟨w.heap.size, 0, none⟩ (.slice none 0 0)).setCell ⟨w.heap.size, 1, none⟩ (.slice a1 p.length k1)).setCell ⟨w.heap.size, 2, none⟩ (.slice none 0 0)).setCell ⟨w.heap.size, 3, none⟩ (.int .i64 0)).setCell ⟨w.heap.size, 4, none⟩ (.slice a4 5 5)).setCell ⟨w.heap.size, 5, none⟩ (.slice a5 5 5)) = v27 at *
            refine wpAnyH_done (by kernel_rfl) ?_ _
            have HO1 := hide hO1
            have HO4 := hide hO4
            have HO5 := hide hO5
            have HAA := hide (And.intro A14 (And.intro A15 A45))
            have HBB := hide HB
            clear hO1 hO4 hO5 A14 A15 A45 HB
            go_wp2_with fail
            exact bodyPost_ret (v := .agg #[.slice none 0 0, .slice a1 p.length k1, .slice none 0 0, .int .i64 0, .slice a4 5 5, .slice a5 5 5]) (by simp [results, Try.results23, go_sem, e0, e1, e2, e3, e4, e5]) rfl
              (newT (unhide HO1) (unhide HO4) (unhide HO5) (unhide HAA).1 (unhide HAA).2.1 (unhide HAA).2.2 (unhide HBB))
          exact AllReadyH.nil
        exact AllReadyH.nil
      refine AllReadyH.cons (o := { dst := some 16, op := _, type := _, pos := _, after := _, guard := _ }) rfl (fun K hK => ?_) ?_
      · go_simp
        refine upon_run (mk5 _) ?_
        try go_wp2_with fail
        refine hK.out _ _ trivial (fun hHeld => ?_)
        clear hK K hHeld
        try simp only [Act.put, List.setIfInBounds_toArray, List.set_cons_zero, List.set_cons_succ]
        have ho := own5 v24
        have hb : Below v24.heap.size v24 (v24.alloc (.cells #[.int .i64 0, .int .i64 0, .int .i64 0, .int .i64 0, .int .i64 0] 3)) := below_a _
        have AE5 := apt_new hE ho
        have A45 := apt_new hO4 ho
        have hE := hE.bel hb
        have hO4 := hO4.bel hb
        have HX := HX.below hb
        have HB := below_tr HB hb
        have HR := HR.bel hb
        have hO5 := ho.mono hsz
        have hsz := Nat.le_trans hsz hb.size
        clear ho hb
        generalize (v24.alloc (.cells #[.int .i64 0, .int .i64 0, .int .i64 0, .int .i64 0, .int .i64 0] 3)) = v28 at *
        generalize (some (⟨v24.heap.size, 0, none⟩ : Addr)) = a5 at *
        refine wpAnyH_ready (rs := [2]) (by kernel_rfl) (by simp) ?_
        refine AllReadyH.cons (o := { dst := some 14, op := _, type := _, pos := _, after := _, guard := _ }) rfl (fun K hK => ?_) ?_
        · skip
          refine step_append_lies _ (by rfl) _ _ 23 (by rfl) V0.heap.size 3 i0 (.int .i64 0) 1 8 Try.underlying23 hi hz0 hz1 hz2 rfl (by decide) (.slice aE 0 0) 0 [] (by rfl) hE.2 ad p.length cap (p.map (Value.int .i64)) (by rfl) (by simp) (row_src HR) (ints_oneCell _ _) (by have := unhide H5; omega) (by unfold maxLen; omega) (by omega) hsz _ rfl ?_
          intro g1 k1 v29 hown hgrow hat hlt
          have hO1 : Own v29 V0.heap.size (.slice (some ⟨g1, 0, none⟩) p.length k1) p := ⟨HR.1, by simpa using hown⟩
          have A14 : Apt (.slice (some ⟨g1, 0, none⟩) p.length k1) (.slice a4 5 5) := apt_app hO4 AE4 hat
          have hO4 := hO4.kpt hgrow AE4.symm
          have A15 : Apt (.slice (some ⟨g1, 0, none⟩) p.length k1) (.slice a5 5 5) := apt_app hO5 AE5 hat
          have hO5 := hO5.kpt hgrow AE5.symm
          have HX := box_kpt HX hgrow (fun e => by have := (hE.2.lt _ e.symm).1; omega)
          have HB := grown_below HB hgrow (fun k hk => by have := (hE.2.lt k hk).1; omega)
          have hsz := Nat.le_trans hsz hgrow.size
          simp only [Nat.zero_add]
          refine hK.out _ _ trivial (fun hHeld => ?_)
          clear hK K hHeld
          try simp only [Act.put, List.setIfInBounds_toArray, List.set_cons_zero, List.set_cons_succ]
          clear hown hgrow hat hlt hE HR AE4 AE5
          generalize (some (⟨g1, 0, none⟩ : Addr)) = a1 at *
          have hSn : (fun _ : World => True) v29 := trivial
          refine wpAnyH_take (i := 5) (oi := { dst := some 17, op := _, type := _, pos := _, after := _, guard := _ }) (v := ?_) rfl (by kernel_rfl) (by kernel_rfl) (by kernel_rfl) (fun _ _ _ h => h) (Or.inl ⟨by rfl, ?_⟩) (by assumption) ?_
          rotate_left
          · intro w hSw
            first | (go_simp; done) | (go_simp; with_reducible rfl)
          try simp only [Act.put, List.setIfInBounds_toArray, List.set_cons_zero, List.set_cons_succ]
          clear hSn
          refine wpAnyH_ready (rs := [6]) (by kernel_rfl) (by simp) ?_
          refine AllReadyH.cons (o := { dst := none, op := _, type := _, pos := _, after := _, guard := _ }) rfl (fun K hK => ?_) ?_
          · have q0 := HX.cell 0 rfl
            have p0 := HX.frozen 0 rfl
            have q1 := HX.cell 1 rfl
            have p1 := HX.frozen 1 rfl
            have q2 := HX.cell 2 rfl
            have p2 := HX.frozen 2 rfl
            have q3 := HX.cell 3 rfl
            have p3 := HX.frozen 3 rfl
            have q4 := HX.cell 4 rfl
            have p4 := HX.frozen 4 rfl
            have q5 := HX.cell 5 rfl
            have p5 := HX.frozen 5 rfl
            go_simp
            try go_wp2_with fail
            refine hK.out _ _ trivial (fun hHeld => ?_)
            clear hK K hHeld
            try simp only [Act.put, List.setIfInBounds_toArray, List.set_cons_zero, List.set_cons_succ]
            have hg := six_grown v29 w.heap.size (.slice none 0 0) (.slice a1 p.length k1) (.slice none 0 0) (.int .i64 0) (.slice a4 5 5) (.slice a5 5 5)
            have HY := box_put6 HX (.slice none 0 0) (.slice a1 p.length k1) (.slice none 0 0) (.int .i64 0) (.slice a4 5 5) (.slice a5 5 5)
            have hne : ∀ (v : Value) (zs : List Int), Own v29 V0.heap.size v zs → ∀ b, v.ownBlock = some b → some b ≠ some w.heap.size := fun v zs ho b hb e => by cases e; have := (ho.2.lt _ hb).1; omega
            have hO1 := (hO1.kpt hg (hne _ _ hO1)).mono (Nat.le_of_lt hV0)
            have hO4 := (hO4.kpt hg (hne _ _ hO4)).mono (Nat.le_of_lt hV0)
            have hO5 := (hO5.kpt hg (hne _ _ hO5)).mono (Nat.le_of_lt hV0)
            have HB := grown_below HB hg (fun k hk => by cases hk; exact Nat.le_refl _)
            have e0 := HY.cell 0 rfl
            have e1 := HY.cell 1 rfl
            have e2 := HY.cell 2 rfl
            have e3 := HY.cell 3 rfl
            have e4 := HY.cell 4 rfl
            have e5 := HY.cell 5 rfl
            clear hg HY HX hne q0 p0 q1 p1 q2 p2 q3 p3 q4 p4 q5 p5
            generalize ((((((v29.setCell ⟨w.heap.size, 0, none⟩ (.slice none 0 0)).setCell ⟨w.heap.size, 1, none⟩ (.slice a1 p.length k1)).setCell ⟨w.heap.size, 2, none⟩ (.slice none 0 0)).setCell ⟨w.heap.size, 3, none⟩ (.int .i64 0)).setCell ⟨w.heap.size, 4, none⟩ (.slice a4 5 5)).setCell ⟨w.heap.size, 5, none⟩ (.slice a5 5 5)) = v30 at *
            refine wpAnyH_done (by kernel_rfl) ?_ _
            have HO1 := hide hO1
            have HO4 := hide hO4
            have HO5 := hide hO5
            have HAA := hide (And.intro A14 (And.intro A15 A45))
            have HBB := hide HB
            clear hO1 hO4 hO5 A14 A15 A45 HB
            go_wp2_with fail
            exact bodyPost_ret (v := .agg #[.slice none 0 0, .slice a1 p.length k1, .slice none 0 0, .int .i64 0, .slice a4 5 5, .slice a5 5 5]) (by simp [results, Try.results23, go_sem, e0, e1, e2, e3, e4, e5]) rfl
              (newT (unhide HO1) (unhide HO4) (unhide HO5) (unhide HAA).1 (unhide HAA).2.1 (unhide HAA).2.2 (unhide HBB))
          exact AllReadyH.nil
        exact AllReadyH.nil
      exact AllReadyH.nil
    refine AllReadyH.cons (o := { dst := some 16, op := _, type := _, pos := _, after := _, guard := _ }) rfl (fun K hK => ?_) ?_
    · go_simp
      refine upon_run (mk5 _) ?_
      try go_wp2_with fail
      refine hK.out _ _ trivial (fun hHeld => ?_)
      clear hK K hHeld
      try simp only [Act.put, List.setIfInBounds_toArray, List.set_cons_zero, List.set_cons_succ]
      have ho := own5 v23
      have hb : Below v23.heap.size v23 (v23.alloc (.cells #[.int .i64 0, .int .i64 0, .int .i64 0, .int .i64 0, .int .i64 0] 3)) := below_a _
      have A45 := apt_new hO4 ho
      have hO4 := hO4.bel hb
      have HX := HX.below hb
      have HB := below_tr HB hb
      have HR := HR.bel hb
      have hO5 := ho.mono hsz
      have hsz := Nat.le_trans hsz hb.size
      clear ho hb
      generalize (v23.alloc (.cells #[.int .i64 0, .int .i64 0, .int .i64 0, .int .i64 0, .int .i64 0] 3)) = v31 at *
      generalize (some (⟨v23.heap.size, 0, none⟩ : Addr)) = a5 at *
      refine wpAnyH_ready (rs := [0]) (by kernel_rfl) (by simp) ?_
      refine AllReadyH.cons (o := { dst := some 12, op := _, type := _, pos := _, after := _, guard := _ }) rfl (fun K hK => ?_) ?_
      · go_simp
        try go_wp2_with fail
        refine hK.out _ _ trivial (fun hHeld => ?_)
        clear hK K hHeld
        try simp only [Act.put, List.setIfInBounds_toArray, List.set_cons_zero, List.set_cons_succ]
        have ho := own_empty v31 v31.heap.size (Nat.le_refl _)
        have hb : Below v31.heap.size v31 (v31.alloc (.cells #[] 3)) := below_a _
        have AE4 := (apt_new hO4 ho).symm
        have AE5 := (apt_new hO5 ho).symm
        have hO4 := hO4.bel hb
        have hO5 := hO5.bel hb
        have HX := HX.below hb
        have HB := below_tr HB hb
        have HR := HR.bel hb
        have hE := ho.mono hsz
        have hsz := Nat.le_trans hsz hb.size
        clear ho hb
        generalize (v31.alloc (.cells #[] 3)) = v32 at *
        generalize (some (⟨v31.heap.size, 0, none⟩ : Addr)) = aE at *
        refine wpAnyH_ready (rs := [2]) (by kernel_rfl) (by simp) ?_
        refine AllReadyH.cons (o := { dst := some 14, op := _, type := _, pos := _, after := _, guard := _ }) rfl (fun K hK => ?_) ?_
        · skip
          refine step_append_lies _ (by rfl) _ _ 23 (by rfl) V0.heap.size 3 i0 (.int .i64 0) 1 8 Try.underlying23 hi hz0 hz1 hz2 rfl (by decide) (.slice aE 0 0) 0 [] (by rfl) hE.2 ad p.length cap (p.map (Value.int .i64)) (by rfl) (by simp) (row_src HR) (ints_oneCell _ _) (by have := unhide H5; omega) (by unfold maxLen; omega) (by omega) hsz _ rfl ?_
          intro g1 k1 v33 hown hgrow hat hlt
          have hO1 : Own v33 V0.heap.size (.slice (some ⟨g1, 0, none⟩) p.length k1) p := ⟨HR.1, by simpa using hown⟩
          have A14 : Apt (.slice (some ⟨g1, 0, none⟩) p.length k1) (.slice a4 5 5) := apt_app hO4 AE4 hat
          have hO4 := hO4.kpt hgrow AE4.symm
          have A15 : Apt (.slice (some ⟨g1, 0, none⟩) p.length k1) (.slice a5 5 5) := apt_app hO5 AE5 hat
          have hO5 := hO5.kpt hgrow AE5.symm
          have HX := box_kpt HX hgrow (fun e => by have := (hE.2.lt _ e.symm).1; omega)
          have HB := grown_below HB hgrow (fun k hk => by have := (hE.2.lt k hk).1; omega)
          have hsz := Nat.le_trans hsz hgrow.size
          simp only [Nat.zero_add]
          refine hK.out _ _ trivial (fun hHeld => ?_)
          clear hK K hHeld
          try simp only [Act.put, List.setIfInBounds_toArray, List.set_cons_zero, List.set_cons_succ]
          clear hown hgrow hat hlt hE HR AE4 AE5
          generalize (some (⟨g1, 0, none⟩ : Addr)) = a1 at *
          have hSn : (fun _ : World => True) v33 := trivial
          refine wpAnyH_take (i := 5) (oi := { dst := some 17, op := _, type := _, pos := _, after := _, guard := _ }) (v := ?_) rfl (by kernel_rfl) (by kernel_rfl) (by kernel_rfl) (fun _ _ _ h => h) (Or.inl ⟨by rfl, ?_⟩) (by assumption) ?_
          rotate_left
          · intro w hSw
            first | (go_simp; done) | (go_simp; with_reducible rfl)
          try simp only [Act.put, List.setIfInBounds_toArray, List.set_cons_zero, List.set_cons_succ]
          clear hSn
          refine wpAnyH_ready (rs := [6]) (by kernel_rfl) (by simp) ?_
          refine AllReadyH.cons (o := { dst := none, op := _, type := _, pos := _, after := _, guard := _ }) rfl (fun K hK => ?_) ?_
          · have q0 := HX.cell 0 rfl
            have p0 := HX.frozen 0 rfl
            have q1 := HX.cell 1 rfl
            have p1 := HX.frozen 1 rfl
            have q2 := HX.cell 2 rfl
            have p2 := HX.frozen 2 rfl
            have q3 := HX.cell 3 rfl
            have p3 := HX.frozen 3 rfl
            have q4 := HX.cell 4 rfl
            have p4 := HX.frozen 4 rfl
            have q5 := HX.cell 5 rfl
            have p5 := HX.frozen 5 rfl
            go_simp
            try go_wp2_with fail
            refine hK.out _ _ trivial (fun hHeld => ?_)
            clear hK K hHeld
            try simp only [Act.put, List.setIfInBounds_toArray, List.set_cons_zero, List.set_cons_succ]
            have hg := six_grown v33 w.heap.size (.slice none 0 0) (.slice a1 p.length k1) (.slice none 0 0) (.int .i64 0) (.slice a4 5 5) (.slice a5 5 5)
            have HY := box_put6 HX (.slice none 0 0) (.slice a1 p.length k1) (.slice none 0 0) (.int .i64 0) (.slice a4 5 5) (.slice a5 5 5)
            have hne : ∀ (v : Value) (zs : List Int), Own v33 V0.heap.size v zs → ∀ b, v.ownBlock = some b → some b ≠ some w.heap.size := fun v zs ho b hb e => by cases e; have := (ho.2.lt _ hb).1; omega
            have hO1 := (hO1.kpt hg (hne _ _ hO1)).mono (Nat.le_of_lt hV0)
            have hO4 := (hO4.kpt hg (hne _ _ hO4)).mono (Nat.le_of_lt hV0)
            have hO5 := (hO5.kpt hg (hne _ _ hO5)).mono (Nat.le_of_lt hV0)
            have HB := grown_below HB hg (fun k hk => by cases hk; exact Nat.le_refl _)
            have e0 := HY.cell 0 rfl
            have e1 := HY.cell 1 rfl
            have e2 := HY.cell 2 rfl
            have e3 := HY.cell 3 rfl
            have e4 := HY.cell 4 rfl
            have e5 := HY.cell 5 rfl
            clear hg HY HX hne q0 p0 q1 p1 q2 p2 q3 p3 q4 p4 q5 p5
            generalize ((((((v33.setCell ⟨w.heap.size, 0, none⟩ (.slice none 0 0)).setCell ⟨w.heap.size, 1, none⟩ (.slice a1 p.length k1)).setCell ⟨w.heap.size, 2, none⟩ (.slice none 0 0)).setCell ⟨w.heap.size, 3, none⟩ (.int .i64 0)).setCell ⟨w.heap.size, 4, none⟩ (.slice a4 5 5)).setCell ⟨w.heap.size, 5, none⟩ (.slice a5 5 5)) = v34 at *
            refine wpAnyH_done (by kernel_rfl) ?_ _
            have HO1 := hide hO1
            have HO4 := hide hO4
            have HO5 := hide hO5
            have HAA := hide (And.intro A14 (And.intro A15 A45))
            have HBB := hide HB
            clear hO1 hO4 hO5 A14 A15 A45 HB
            go_wp2_with fail
            exact bodyPost_ret (v := .agg #[.slice none 0 0, .slice a1 p.length k1, .slice none 0 0, .int .i64 0, .slice a4 5 5, .slice a5 5 5]) (by simp [results, Try.results23, go_sem, e0, e1, e2, e3, e4, e5]) rfl
              (newT (unhide HO1) (unhide HO4) (unhide HO5) (unhide HAA).1 (unhide HAA).2.1 (unhide HAA).2.2 (unhide HBB))
          exact AllReadyH.nil
        exact AllReadyH.nil
      exact AllReadyH.nil
    exact AllReadyH.nil
  refine AllReadyH.cons (o := { dst := some 16, op := _, type := _, pos := _, after := _, guard := _ }) rfl (fun K hK => ?_) ?_
  · go_simp
    refine upon_run (mk5 _) ?_
    try go_wp2_with fail
    refine hK.out _ _ trivial (fun hHeld => ?_)
    clear hK K hHeld
    try simp only [Act.put, List.setIfInBounds_toArray, List.set_cons_zero, List.set_cons_succ]
    have ho := own5 V0
    have hb : Below V0.heap.size V0 (V0.alloc (.cells #[.int .i64 0, .int .i64 0, .int .i64 0, .int .i64 0, .int .i64 0] 3)) := below_a _
    have HX := HX.below hb
    have HB := below_tr HB hb
    have HR := HR.bel hb
    have hO5 := ho.mono hsz
    have hsz := Nat.le_trans hsz hb.size
    clear ho hb
    generalize (V0.alloc (.cells #[.int .i64 0, .int .i64 0, .int .i64 0, .int .i64 0, .int .i64 0] 3)) = v35 at *
    generalize (some (⟨V0.heap.size, 0, none⟩ : Addr)) = a5 at *
    refine wpAnyH_ready (rs := [0, 3]) (by kernel_rfl) (by simp) ?_
    refine AllReadyH.cons (o := { dst := some 12, op := _, type := _, pos := _, after := _, guard := _ }) rfl (fun K hK => ?_) ?_
    · go_simp
      try go_wp2_with fail
      refine hK.out _ _ trivial (fun hHeld => ?_)
      clear hK K hHeld
      try simp only [Act.put, List.setIfInBounds_toArray, List.set_cons_zero, List.set_cons_succ]
      have ho := own_empty v35 v35.heap.size (Nat.le_refl _)
      have hb : Below v35.heap.size v35 (v35.alloc (.cells #[] 3)) := below_a _
      have AE5 := (apt_new hO5 ho).symm
      have hO5 := hO5.bel hb
      have HX := HX.below hb
      have HB := below_tr HB hb
      have HR := HR.bel hb
      have hE := ho.mono hsz
      have hsz := Nat.le_trans hsz hb.size
      clear ho hb
      generalize (v35.alloc (.cells #[] 3)) = v36 at *
      generalize (some (⟨v35.heap.size, 0, none⟩ : Addr)) = aE at *
      refine wpAnyH_ready (rs := [2, 3]) (by kernel_rfl) (by simp) ?_
      refine AllReadyH.cons (o := { dst := some 14, op := _, type := _, pos := _, after := _, guard := _ }) rfl (fun K hK => ?_) ?_
      · skip
        refine step_append_lies _ (by rfl) _ _ 23 (by rfl) V0.heap.size 3 i0 (.int .i64 0) 1 8 Try.underlying23 hi hz0 hz1 hz2 rfl (by decide) (.slice aE 0 0) 0 [] (by rfl) hE.2 ad p.length cap (p.map (Value.int .i64)) (by rfl) (by simp) (row_src HR) (ints_oneCell _ _) (by have := unhide H5; omega) (by unfold maxLen; omega) (by omega) hsz _ rfl ?_
        intro g1 k1 v37 hown hgrow hat hlt
        have hO1 : Own v37 V0.heap.size (.slice (some ⟨g1, 0, none⟩) p.length k1) p := ⟨HR.1, by simpa using hown⟩
        have A15 : Apt (.slice (some ⟨g1, 0, none⟩) p.length k1) (.slice a5 5 5) := apt_app hO5 AE5 hat
        have hO5 := hO5.kpt hgrow AE5.symm
        have HX := box_kpt HX hgrow (fun e => by have := (hE.2.lt _ e.symm).1; omega)
        have HB := grown_below HB hgrow (fun k hk => by have := (hE.2.lt k hk).1; omega)
        have hsz := Nat.le_trans hsz hgrow.size
        simp only [Nat.zero_add]
        refine hK.out _ _ trivial (fun hHeld => ?_)
        clear hK K hHeld
        try simp only [Act.put, List.setIfInBounds_toArray, List.set_cons_zero, List.set_cons_succ]
        clear hown hgrow hat hlt hE HR AE5
        generalize (some (⟨g1, 0, none⟩ : Addr)) = a1 at *
        refine wpAnyH_ready (rs := [3]) (by kernel_rfl) (by simp) ?_
        refine AllReadyH.cons (o := { dst := some 15, op := _, type := _, pos := _, after := _, guard := _ }) rfl (fun K hK => ?_) ?_
        · go_simp
          refine upon_run (mk5 _) ?_
          try go_wp2_with fail
          refine hK.out _ _ trivial (fun hHeld => ?_)
          clear hK K hHeld
          try simp only [Act.put, List.setIfInBounds_toArray, List.set_cons_zero, List.set_cons_succ]
          have ho := own5 v37
          have hb : Below v37.heap.size v37 (v37.alloc (.cells #[.int .i64 0, .int .i64 0, .int .i64 0, .int .i64 0, .int .i64 0] 3)) := below_a _
          have A14 := apt_new hO1 ho
          have A45 := (apt_new hO5 ho).symm
          have hO1 := hO1.bel hb
          have hO5 := hO5.bel hb
          have HX := HX.below hb
          have HB := below_tr HB hb
          have hO4 := ho.mono hsz
          have hsz := Nat.le_trans hsz hb.size
          clear ho hb
          generalize (v37.alloc (.cells #[.int .i64 0, .int .i64 0, .int .i64 0, .int .i64 0, .int .i64 0] 3)) = v38 at *
          generalize (some (⟨v37.heap.size, 0, none⟩ : Addr)) = a4 at *
          have hSn : (fun _ : World => True) v38 := trivial
          refine wpAnyH_take (i := 5) (oi := { dst := some 17, op := _, type := _, pos := _, after := _, guard := _ }) (v := ?_) rfl (by kernel_rfl) (by kernel_rfl) (by kernel_rfl) (fun _ _ _ h => h) (Or.inl ⟨by rfl, ?_⟩) (by assumption) ?_
          rotate_left
          · intro w hSw
            first | (go_simp; done) | (go_simp; with_reducible rfl)
          try simp only [Act.put, List.setIfInBounds_toArray, List.set_cons_zero, List.set_cons_succ]
          clear hSn
          refine wpAnyH_ready (rs := [6]) (by kernel_rfl) (by simp) ?_
          refine AllReadyH.cons (o := { dst := none, op := _, type := _, pos := _, after := _, guard := _ }) rfl (fun K hK => ?_) ?_
          · have q0 := HX.cell 0 rfl
            have p0 := HX.frozen 0 rfl
            have q1 := HX.cell 1 rfl
            have p1 := HX.frozen 1 rfl
            have q2 := HX.cell 2 rfl
            have p2 := HX.frozen 2 rfl
            have q3 := HX.cell 3 rfl
            have p3 := HX.frozen 3 rfl
            have q4 := HX.cell 4 rfl
            have p4 := HX.frozen 4 rfl
            have q5 := HX.cell 5 rfl
            have p5 := HX.frozen 5 rfl
            go_simp
            try go_wp2_with fail
            refine hK.out _ _ trivial (fun hHeld => ?_)
            clear hK K hHeld
            try simp only [Act.put, List.setIfInBounds_toArray, List.set_cons_zero, List.set_cons_succ]
            have hg := six_grown v38 w.heap.size (.slice none 0 0) (.slice a1 p.length k1) (.slice none 0 0) (.int .i64 0) (.slice a4 5 5) (.slice a5 5 5)
            have HY := box_put6 HX (.slice none 0 0) (.slice a1 p.length k1) (.slice none 0 0) (.int .i64 0) (.slice a4 5 5) (.slice a5 5 5)
            have hne : ∀ (v : Value) (zs : List Int), Own v38 V0.heap.size v zs → ∀ b, v.ownBlock = some b → some b ≠ some w.heap.size := fun v zs ho b hb e => by cases e; have := (ho.2.lt _ hb).1; omega
            have hO1 := (hO1.kpt hg (hne _ _ hO1)).mono (Nat.le_of_lt hV0)
            have hO4 := (hO4.kpt hg (hne _ _ hO4)).mono (Nat.le_of_lt hV0)
            have hO5 := (hO5.kpt hg (hne _ _ hO5)).mono (Nat.le_of_lt hV0)
            have HB := grown_below HB hg (fun k hk => by cases hk; exact Nat.le_refl _)
            have e0 := HY.cell 0 rfl
            have e1 := HY.cell 1 rfl
            have e2 := HY.cell 2 rfl
            have e3 := HY.cell 3 rfl
            have e4 := HY.cell 4 rfl
            have e5 := HY.cell 5 rfl
            clear hg HY HX hne q0 p0 q1 p1 q2 p2 q3 p3 q4 p4 q5 p5
            generalize ((((((v38.setCell ⟨w.heap.size, 0, none⟩ (.slice none 0 0)).setCell ⟨w.heap.size, 1, none⟩ (.slice a1 p.length k1)).setCell ⟨w.heap.size, 2, none⟩ (.slice none 0 0)).setCell ⟨w.heap.size, 3, none⟩ (.int .i64 0)).setCell ⟨w.heap.size, 4, none⟩ (.slice a4 5 5)).setCell ⟨w.heap.size, 5, none⟩ (.slice a5 5 5)) = v39 at *
            refine wpAnyH_done (by kernel_rfl) ?_ _
            have HO1 := hide hO1
            have HO4 := hide hO4
            have HO5 := hide hO5
            have HAA := hide (And.intro A14 (And.intro A15 A45))
            have HBB := hide HB
            clear hO1 hO4 hO5 A14 A15 A45 HB
            go_wp2_with fail
            exact bodyPost_ret (v := .agg #[.slice none 0 0, .slice a1 p.length k1, .slice none 0 0, .int .i64 0, .slice a4 5 5, .slice a5 5 5]) (by simp [results, Try.results23, go_sem, e0, e1, e2, e3, e4, e5]) rfl
              (newT (unhide HO1) (unhide HO4) (unhide HO5) (unhide HAA).1 (unhide HAA).2.1 (unhide HAA).2.2 (unhide HBB))
          exact AllReadyH.nil
        exact AllReadyH.nil
      refine AllReadyH.cons (o := { dst := some 15, op := _, type := _, pos := _, after := _, guard := _ }) rfl (fun K hK => ?_) ?_
      · go_simp
        refine upon_run (mk5 _) ?_
        try go_wp2_with fail
        refine hK.out _ _ trivial (fun hHeld => ?_)
        clear hK K hHeld
        try simp only [Act.put, List.setIfInBounds_toArray, List.set_cons_zero, List.set_cons_succ]
        have ho := own5 v36
        have hb : Below v36.heap.size v36 (v36.alloc (.cells #[.int .i64 0, .int .i64 0, .int .i64 0, .int .i64 0, .int .i64 0] 3)) := below_a _
        have AE4 := apt_new hE ho
        have A45 := (apt_new hO5 ho).symm
        have hE := hE.bel hb
        have hO5 := hO5.bel hb
        have HX := HX.below hb
        have HB := below_tr HB hb
        have HR := HR.bel hb
        have hO4 := ho.mono hsz
        have hsz := Nat.le_trans hsz hb.size
        clear ho hb
        generalize (v36.alloc (.cells #[.int .i64 0, .int .i64 0, .int .i64 0, .int .i64 0, .int .i64 0] 3)) = v40 at *
        generalize (some (⟨v36.heap.size, 0, none⟩ : Addr)) = a4 at *
        refine wpAnyH_ready (rs := [2]) (by kernel_rfl) (by simp) ?_
        refine AllReadyH.cons (o := { dst := some 14, op := _, type := _, pos := _, after := _, guard := _ }) rfl (fun K hK => ?_) ?_
        · skip
          refine step_append_lies _ (by rfl) _ _ 23 (by rfl) V0.heap.size 3 i0 (.int .i64 0) 1 8 Try.underlying23 hi hz0 hz1 hz2 rfl (by decide) (.slice aE 0 0) 0 [] (by rfl) hE.2 ad p.length cap (p.map (Value.int .i64)) (by rfl) (by simp) (row_src HR) (ints_oneCell _ _) (by have := unhide H5; omega) (by unfold maxLen; omega) (by omega) hsz _ rfl ?_
          intro g1 k1 v41 hown hgrow hat hlt
          have hO1 : Own v41 V0.heap.size (.slice (some ⟨g1, 0, none⟩) p.length k1) p := ⟨HR.1, by simpa using hown⟩
          have A14 : Apt (.slice (some ⟨g1, 0, none⟩) p.length k1) (.slice a4 5 5) := apt_app hO4 AE4 hat
          have hO4 := hO4.kpt hgrow AE4.symm
          have A15 : Apt (.slice (some ⟨g1, 0, none⟩) p.length k1) (.slice a5 5 5) := apt_app hO5 AE5 hat
          have hO5 := hO5.kpt hgrow AE5.symm
          have HX := box_kpt HX hgrow (fun e => by have := (hE.2.lt _ e.symm).1; omega)
          have HB := grown_below HB hgrow (fun k hk => by have := (hE.2.lt k hk).1; omega)
          have hsz := Nat.le_trans hsz hgrow.size
          simp only [Nat.zero_add]
          refine hK.out _ _ trivial (fun hHeld => ?_)
          clear hK K hHeld
          try simp only [Act.put, List.setIfInBounds_toArray, List.set_cons_zero, List.set_cons_succ]
          clear hown hgrow hat hlt hE HR AE4 AE5
          generalize (some (⟨g1, 0, none⟩ : Addr)) = a1 at *
          have hSn : (fun _ : World => True) v41 := trivial
          refine wpAnyH_take (i := 5) (oi := { dst := some 17, op := _, type := _, pos := _, after := _, guard := _ }) (v := ?_) rfl (by kernel_rfl) (by kernel_rfl) (by kernel_rfl) (fun _ _ _ h => h) (Or.inl ⟨by rfl, ?_⟩) (by assumption) ?_
          rotate_left
          · intro w hSw
            first | (go_simp; done) | (go_simp; with_reducible rfl)
          try simp only [Act.put, List.setIfInBounds_toArray, List.set_cons_zero, List.set_cons_succ]
          clear hSn
          refine wpAnyH_ready (rs := [6]) (by kernel_rfl) (by simp) ?_
          refine AllReadyH.cons (o := { dst := none, op := _, type := _, pos := _, after := _, guard := _ }) rfl (fun K hK => ?_) ?_
          · have q0 := HX.cell 0 rfl
            have p0 := HX.frozen 0 rfl
            have q1 := HX.cell 1 rfl
            have p1 := HX.frozen 1 rfl
            have q2 := HX.cell 2 rfl
            have p2 := HX.frozen 2 rfl
            have q3 := HX.cell 3 rfl
            have p3 := HX.frozen 3 rfl
            have q4 := HX.cell 4 rfl
            have p4 := HX.frozen 4 rfl
            have q5 := HX.cell 5 rfl
            have p5 := HX.frozen 5 rfl
            go_simp
            try go_wp2_with fail
            refine hK.out _ _ trivial (fun hHeld => ?_)
            clear hK K hHeld
            try simp only [Act.put, List.setIfInBounds_toArray, List.set_cons_zero, List.set_cons_succ]
            have hg := six_grown v41 w.heap.size (.slice none 0 0) (.slice a1 p.length k1) (.slice none 0 0) (.int .i64 0) (.slice a4 5 5) (.slice a5 5 5)
            have HY := box_put6 HX (.slice none 0 0) (.slice a1 p.length k1) (.slice none 0 0) (.int .i64 0) (.slice a4 5 5) (.slice a5 5 5)
            have hne : ∀ (v : Value) (zs : List Int), Own v41 V0.heap.size v zs → ∀ b, v.ownBlock = some b → some b ≠ some w.heap.size := fun v zs ho b hb e => by cases e; have := (ho.2.lt _ hb).1; omega
            have hO1 := (hO1.kpt hg (hne _ _ hO1)).mono (Nat.le_of_lt hV0)
            have hO4 := (hO4.kpt hg (hne _ _ hO4)).mono (Nat.le_of_lt hV0)
            have hO5 := (hO5.kpt hg (hne _ _ hO5)).mono (Nat.le_of_lt hV0)
            have HB := grown_below HB hg (fun k hk => by cases hk; exact Nat.le_refl _)
            have e0 := HY.cell 0 rfl
            have e1 := HY.cell 1 rfl
            have e2 := HY.cell 2 rfl
            have e3 := HY.cell 3 rfl
            have e4 := HY.cell 4 rfl
            have e5 := HY.cell 5 rfl
            clear hg HY HX hne q0 p0 q1 p1 q2 p2 q3 p3 q4 p4 q5 p5
            generalize ((((((v41.setCell ⟨w.heap.size, 0, none⟩ (.slice none 0 0)).setCell ⟨w.heap.size, 1, none⟩ (.slice a1 p.length k1)).setCell ⟨w.heap.size, 2, none⟩ (.slice none 0 0)).setCell ⟨w.heap.size, 3, none⟩ (.int .i64 0)).setCell ⟨w.heap.size, 4, none⟩ (.slice a4 5 5)).setCell ⟨w.heap.size, 5, none⟩ (.slice a5 5 5)) = v42 at *
            refine wpAnyH_done (by kernel_rfl) ?_ _
            have HO1 := hide hO1
            have HO4 := hide hO4
            have HO5 := hide hO5
            have HAA := hide (And.intro A14 (And.intro A15 A45))
            have HBB := hide HB
            clear hO1 hO4 hO5 A14 A15 A45 HB
            go_wp2_with fail
            exact bodyPost_ret (v := .agg #[.slice none 0 0, .slice a1 p.length k1, .slice none 0 0, .int .i64 0, .slice a4 5 5, .slice a5 5 5]) (by simp [results, Try.results23, go_sem, e0, e1, e2, e3, e4, e5]) rfl
              (newT (unhide HO1) (unhide HO4) (unhide HO5) (unhide HAA).1 (unhide HAA).2.1 (unhide HAA).2.2 (unhide HBB))
          exact AllReadyH.nil
        exact AllReadyH.nil
      exact AllReadyH.nil
    refine AllReadyH.cons (o := { dst := some 15, op := _, type := _, pos := _, after := _, guard := _ }) rfl (fun K hK => ?_) ?_
    · go_simp
      refine upon_run (mk5 _) ?_
      try go_wp2_with fail
      refine hK.out _ _ trivial (fun hHeld => ?_)
      clear hK K hHeld
      try simp only [Act.put, List.setIfInBounds_toArray, List.set_cons_zero, List.set_cons_succ]
      have ho := own5 v35
      have hb : Below v35.heap.size v35 (v35.alloc (.cells #[.int .i64 0, .int .i64 0, .int .i64 0, .int .i64 0, .int .i64 0] 3)) := below_a _
      have A45 := (apt_new hO5 ho).symm
      have hO5 := hO5.bel hb
      have HX := HX.below hb
      have HB := below_tr HB hb
      have HR := HR.bel hb
      have hO4 := ho.mono hsz
      have hsz := Nat.le_trans hsz hb.size
      clear ho hb
      generalize (v35.alloc (.cells #[.int .i64 0, .int .i64 0, .int .i64 0, .int .i64 0, .int .i64 0] 3)) = v43 at *
      generalize (some (⟨v35.heap.size, 0, none⟩ : Addr)) = a4 at *
      refine wpAnyH_ready (rs := [0]) (by kernel_rfl) (by simp) ?_
      refine AllReadyH.cons (o := { dst := some 12, op := _, type := _, pos := _, after := _, guard := _ }) rfl (fun K hK => ?_) ?_
      · go_simp
        try go_wp2_with fail
        refine hK.out _ _ trivial (fun hHeld => ?_)
        clear hK K hHeld
        try simp only [Act.put, List.setIfInBounds_toArray, List.set_cons_zero, List.set_cons_succ]
        have ho := own_empty v43 v43.heap.size (Nat.le_refl _)
        have hb : Below v43.heap.size v43 (v43.alloc (.cells #[] 3)) := below_a _
        have AE4 := (apt_new hO4 ho).symm
        have AE5 := (apt_new hO5 ho).symm
        have hO4 := hO4.bel hb
        have hO5 := hO5.bel hb
        have HX := HX.below hb
        have HB := below_tr HB hb
        have HR := HR.bel hb
        have hE := ho.mono hsz
        have hsz := Nat.le_trans hsz hb.size
        clear ho hb
        generalize (v43.alloc (.cells #[] 3)) = v44 at *
        generalize (some (⟨v43.heap.size, 0, none⟩ : Addr)) = aE at *
        refine wpAnyH_ready (rs := [2]) (by kernel_rfl) (by simp) ?_
        refine AllReadyH.cons (o := { dst := some 14, op := _, type := _, pos := _, after := _, guard := _ }) rfl (fun K hK => ?_) ?_
        · skip
          refine step_append_lies _ (by rfl) _ _ 23 (by rfl) V0.heap.size 3 i0 (.int .i64 0) 1 8 Try.underlying23 hi hz0 hz1 hz2 rfl (by decide) (.slice aE 0 0) 0 [] (by rfl) hE.2 ad p.length cap (p.map (Value.int .i64)) (by rfl) (by simp) (row_src HR) (ints_oneCell _ _) (by have := unhide H5; omega) (by unfold maxLen; omega) (by omega) hsz _ rfl ?_
          intro g1 k1 v45 hown hgrow hat hlt
          have hO1 : Own v45 V0.heap.size (.slice (some ⟨g1, 0, none⟩) p.length k1) p := ⟨HR.1, by simpa using hown⟩
          have A14 : Apt (.slice (some ⟨g1, 0, none⟩) p.length k1) (.slice a4 5 5) := apt_app hO4 AE4 hat
          have hO4 := hO4.kpt hgrow AE4.symm
          have A15 : Apt (.slice (some ⟨g1, 0, none⟩) p.length k1) (.slice a5 5 5) := apt_app hO5 AE5 hat
          have hO5 := hO5.kpt hgrow AE5.symm
          have HX := box_kpt HX hgrow (fun e => by have := (hE.2.lt _ e.symm).1; omega)
          have HB := grown_below HB hgrow (fun k hk => by have := (hE.2.lt k hk).1; omega)
          have hsz := Nat.le_trans hsz hgrow.size
          simp only [Nat.zero_add]
          refine hK.out _ _ trivial (fun hHeld => ?_)
          clear hK K hHeld
          try simp only [Act.put, List.setIfInBounds_toArray, List.set_cons_zero, List.set_cons_succ]
          clear hown hgrow hat hlt hE HR AE4 AE5
          generalize (some (⟨g1, 0, none⟩ : Addr)) = a1 at *
          have hSn : (fun _ : World => True) v45 := trivial
          refine wpAnyH_take (i := 5) (oi := { dst := some 17, op := _, type := _, pos := _, after := _, guard := _ }) (v := ?_) rfl (by kernel_rfl) (by kernel_rfl) (by kernel_rfl) (fun _ _ _ h => h) (Or.inl ⟨by rfl, ?_⟩) (by assumption) ?_
          rotate_left
          · intro w hSw
            first | (go_simp; done) | (go_simp; with_reducible rfl)
          try simp only [Act.put, List.setIfInBounds_toArray, List.set_cons_zero, List.set_cons_succ]
          clear hSn
          refine wpAnyH_ready (rs := [6]) (by kernel_rfl) (by simp) ?_
          refine AllReadyH.cons (o := { dst := none, op := _, type := _, pos := _, after := _, guard := _ }) rfl (fun K hK => ?_) ?_
          · have q0 := HX.cell 0 rfl
            have p0 := HX.frozen 0 rfl
            have q1 := HX.cell 1 rfl
            have p1 := HX.frozen 1 rfl
            have q2 := HX.cell 2 rfl
            have p2 := HX.frozen 2 rfl
            have q3 := HX.cell 3 rfl
            have p3 := HX.frozen 3 rfl
            have q4 := HX.cell 4 rfl
            have p4 := HX.frozen 4 rfl
            have q5 := HX.cell 5 rfl
            have p5 := HX.frozen 5 rfl
            go_simp
            try go_wp2_with fail
            refine hK.out _ _ trivial (fun hHeld => ?_)
            clear hK K hHeld
            try simp only [Act.put, List.setIfInBounds_toArray, List.set_cons_zero, List.set_cons_succ]
            have hg := six_grown v45 w.heap.size (.slice none 0 0) (.slice a1 p.length k1) (.slice none 0 0) (.int .i64 0) (.slice a4 5 5) (.slice a5 5 5)
            have HY := box_put6 HX (.slice none 0 0) (.slice a1 p.length k1) (.slice none 0 0) (.int .i64 0) (.slice a4 5 5) (.slice a5 5 5)
            have hne : ∀ (v : Value) (zs : List Int), Own v45 V0.heap.size v zs → ∀ b, v.ownBlock = some b → some b ≠ some w.heap.size := fun v zs ho b hb e => by cases e; have := (ho.2.lt _ hb).1; omega
            have hO1 := (hO1.kpt hg (hne _ _ hO1)).mono (Nat.le_of_lt hV0)
            have hO4 := (hO4.kpt hg (hne _ _ hO4)).mono (Nat.le_of_lt hV0)
            have hO5 := (hO5.kpt hg (hne _ _ hO5)).mono (Nat.le_of_lt hV0)
            have HB := grown_below HB hg (fun k hk => by cases hk; exact Nat.le_refl _)
            have e0 := HY.cell 0 rfl
            have e1 := HY.cell 1 rfl
            have e2 := HY.cell 2 rfl
            have e3 := HY.cell 3 rfl
            have e4 := HY.cell 4 rfl
            have e5 := HY.cell 5 rfl
            clear hg HY HX hne q0 p0 q1 p1 q2 p2 q3 p3 q4 p4 q5 p5
            generalize ((((((v45.setCell ⟨w.heap.size, 0, none⟩ (.slice none 0 0)).setCell ⟨w.heap.size, 1, none⟩ (.slice a1 p.length k1)).setCell ⟨w.heap.size, 2, none⟩ (.slice none 0 0)).setCell ⟨w.heap.size, 3, none⟩ (.int .i64 0)).setCell ⟨w.heap.size, 4, none⟩ (.slice a4 5 5)).setCell ⟨w.heap.size, 5, none⟩ (.slice a5 5 5)) = v46 at *
            refine wpAnyH_done (by kernel_rfl) ?_ _
            have HO1 := hide hO1
            have HO4 := hide hO4
            have HO5 := hide hO5
            have HAA := hide (And.intro A14 (And.intro A15 A45))
            have HBB := hide HB
            clear hO1 hO4 hO5 A14 A15 A45 HB
            go_wp2_with fail
            exact bodyPost_ret (v := .agg #[.slice none 0 0, .slice a1 p.length k1, .slice none 0 0, .int .i64 0, .slice a4 5 5, .slice a5 5 5]) (by simp [results, Try.results23, go_sem, e0, e1, e2, e3, e4, e5]) rfl
              (newT (unhide HO1) (unhide HO4) (unhide HO5) (unhide HAA).1 (unhide HAA).2.1 (unhide HAA).2.2 (unhide HBB))
          exact AllReadyH.nil
        exact AllReadyH.nil
      exact AllReadyH.nil
    exact AllReadyH.nil
  exact AllReadyH.nil
end Go.Proofs.Ytmlbphmbffkdnaa
