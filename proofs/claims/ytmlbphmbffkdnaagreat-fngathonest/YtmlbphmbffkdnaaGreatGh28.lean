/-
  Texts of the proof, what it needs of them: L21h.
-/
import Derived.Test.YtmlbphmbffkdnaaGreatGh18
import Derived.Test.YtmlbphmbffkdnaaGreatGh19
import Derived.Test.YtmlbphmbffkdnaaGreatGh27
namespace Go.Proofs.YtmlbphmbffkdnaaGreat
open Go.RowKit
set_option linter.unusedVariables false
set_option maxRecDepth 100000

theorem aS_bd (es : List Tm.Ent) (i : Int) : 0 ≤ aS es i ∧ aS es i ≤ 40 := by
  unfold aS
  split
  · unfold hS
    split
    · rename_i h; have := foldIs_len h; omega
    · omega
  · omega

set_option maxHeartbeats 8000000 in
theorem c72 (r k : Nat) (n : Int) (es : List Tm.Ent) (al : Option Addr) (len cap base : Nat) (w : World) (hk : k ≤ 900000) (hn : 1 ≤ n ∧ n ≤ 1000000) (h : Rd w r k) (hl : es.length = len) (hl2 : len ≤ 41) (hc : len ≤ cap) (hb : r < base) (ho : EOwn w base (.slice al len cap) es) :
    Calls Tryz.prog 72 #[.pointer (some ⟨r, 0, none⟩), .slice al len cap, .int .i64 n] w (HeadD w r (k + 10)) := by
  have hrl := h.lt
  have HN := hide hn
  have HZ := hide (box_new w [.int .i64 0, .int .i64 0, .int .i64 0] 24 (by simp [Value.oneCell']))
  have HG := hide (World.grownBy_alloc w (.cells #[.int .i64 0, .int .i64 0, .int .i64 0] 24) (some r))
  have HRd := hide (h.alloc (.cells #[.int .i64 0, .int .i64 0, .int .i64 0] 24))
  have HO := hide (ho.bel (below_a (.cells #[.int .i64 0, .int .i64 0, .int .i64 0] 24)))
  have HL := hide hl
  clear h hn ho hl
  have z0 := (unhide HZ).cell 0 rfl
  have z0f := (unhide HZ).frozen 0 rfl
  have z1 := (unhide HZ).cell 1 rfl
  have z1f := (unhide HZ).frozen 1 rfl
  have z2 := (unhide HZ).cell 2 rfl
  have z2f := (unhide HZ).frozen 2 rfl
  go_enter Tryz.func72, Tryz.ntmps72
  go_wp2_with fail
  refine (c26 r (k) ((len : Int) + 1) _ (by omega) (unhide HRd)).mono ?_
  rintro e w1 ⟨x, rfl, xa, xb, hr, hg⟩
  have xb := xb (by omega)
  clear z0 z0f z1 z1f z2 z2f
  replace HG := hide (grown_trans (unhide HG) hg)
  replace HZ := hide ((unhide HZ).kg hg (by omega))
  replace HO := hide ((unhide HO).kg hg (by omega))
  replace HRd := hide hr
  clear hr hg
  have z0 := (unhide HZ).cell 0 rfl
  have z0f := (unhide HZ).frozen 0 rfl
  have z1 := (unhide HZ).cell 1 rfl
  have z1f := (unhide HZ).frozen 1 rfl
  have z2 := (unhide HZ).cell 2 rfl
  have z2f := (unhide HZ).frozen 2 rfl
  go_wp2_with fail
  generalize hs1 : aS es x = s at *
  generalize hl1 : aL es x = l at *
  generalize ho1 : aO es x = o at *
  generalize hbb1 : aI es x = b at *
  have hsb := aS_bd es x
  rw [hs1] at hsb
  have HS1 := hide hs1
  have HL1 := hide hl1
  have HO1 := hide ho1
  have HB1 := hide hbb1
  clear hs1 hl1 ho1 hbb1
  refine (c71 es x al len cap _ (unhide HL) hc (by omega) ((unhide HO).rd (unhide HL))).mono ?_
  rintro e w2 ⟨rfl, hb⟩
  rw [unhide HS1, unhide HL1, unhide HO1, unhide HB1]
  clear z0 z0f z1 z1f z2 z2f
  replace HG := hide (grown_bel (unhide HG) hb)
  replace HRd := hide ((unhide HRd).bel hb)
  replace HZ := hide ((unhide HZ).bel hb)
  clear HO
  clear hb
  have z0 := (unhide HZ).cell 0 rfl
  have z0f := (unhide HZ).frozen 0 rfl
  have z1 := (unhide HZ).cell 1 rfl
  have z1f := (unhide HZ).frozen 1 rfl
  have z2 := (unhide HZ).cell 2 rfl
  have z2f := (unhide HZ).frozen 2 rfl
  clear HS1 HL1 HO1 HB1
  have hlw := (unhide HZ).lt
  clear z0 z0f z1 z1f z2 z2f
  have hzHX : r < w2.heap.size := (unhide HRd).lt
  replace HG := hide (grown_trans (unhide HG) (World.grownBy_alloc _ (.cells #[.int .i64 s, .int .i64 l, .int .i64 o] 24) _))
  replace HRd := hide ((unhide HRd).alloc (.cells #[.int .i64 s, .int .i64 l, .int .i64 o] 24))
  replace HZ := hide ((unhide HZ).bel (below_a (.cells #[.int .i64 s, .int .i64 l, .int .i64 o] 24)))
  have HX := hide (box_new w2 [.int .i64 s, .int .i64 l, .int .i64 o] 24 (by simp [Value.oneCell']))
  have z0 := (unhide HZ).cell 0 rfl
  have z0f := (unhide HZ).frozen 0 rfl
  have z1 := (unhide HZ).cell 1 rfl
  have z1f := (unhide HZ).frozen 1 rfl
  have z2 := (unhide HZ).cell 2 rfl
  have z2f := (unhide HZ).frozen 2 rfl
  have x0 := (unhide HX).cell 0 rfl
  have x0f := (unhide HX).frozen 0 rfl
  have x1 := (unhide HX).cell 1 rfl
  have x1f := (unhide HX).frozen 1 rfl
  have x2 := (unhide HX).cell 2 rfl
  have x2f := (unhide HX).frozen 2 rfl
  go_wp2_with fail
  refine (c27 r (k + 1) n _ (by omega) (unhide HN) (unhide HRd)).mono ?_
  rintro e w3 ⟨b1, rfl, hr, hg⟩
  clear z0 z0f z1 z1f z2 z2f x0 x0f x1 x1f x2 x2f
  replace HG := hide (grown_trans (unhide HG) hg)
  replace HZ := hide ((unhide HZ).kg hg (by omega))
  replace HX := hide ((unhide HX).kg hg (by omega))
  replace HRd := hide hr
  clear hr hg
  have z0 := (unhide HZ).cell 0 rfl
  have z0f := (unhide HZ).frozen 0 rfl
  have z1 := (unhide HZ).cell 1 rfl
  have z1f := (unhide HZ).frozen 1 rfl
  have z2 := (unhide HZ).cell 2 rfl
  have z2f := (unhide HZ).frozen 2 rfl
  have x0 := (unhide HX).cell 0 rfl
  have x0f := (unhide HX).frozen 0 rfl
  have x1 := (unhide HX).cell 1 rfl
  have x1f := (unhide HX).frozen 1 rfl
  have x2 := (unhide HX).cell 2 rfl
  have x2f := (unhide HX).frozen 2 rfl
  cases b1
  case false =>
    go_wp2_with fail
    exact bodyPost_ret (v := hedV (s) (l) (o)) (by simp [results, Tryz.results72, go_sem, z0, z1, z2]) rfl ⟨_, _, _, rfl, ((((unhide HRd).oth _ hrl).oth _ hrl).oth _ hrl).mono (by omega), grown_oth (grown_oth (grown_oth (unhide HG) _ (Nat.le_refl _)) _ (Nat.le_refl _)) _ (Nat.le_refl _)⟩
  go_wp2_with fail
  refine (c26 r (k + 1 + 1) 3 _ (by omega) (unhide HRd)).mono ?_
  rintro e w4 ⟨y, rfl, ya, yb, hr, hg⟩
  have yb := yb (by omega)
  clear z0 z0f z1 z1f z2 z2f x0 x0f x1 x1f x2 x2f
  replace HG := hide (grown_trans (unhide HG) hg)
  replace HZ := hide ((unhide HZ).kg hg (by omega))
  replace HX := hide ((unhide HX).kg hg (by omega))
  replace HRd := hide hr
  clear hr hg
  have z0 := (unhide HZ).cell 0 rfl
  have z0f := (unhide HZ).frozen 0 rfl
  have z1 := (unhide HZ).cell 1 rfl
  have z1f := (unhide HZ).frozen 1 rfl
  have z2 := (unhide HZ).cell 2 rfl
  have z2f := (unhide HZ).frozen 2 rfl
  have x0 := (unhide HX).cell 0 rfl
  have x0f := (unhide HX).frozen 0 rfl
  have x1 := (unhide HX).cell 1 rfl
  have x1f := (unhide HX).frozen 1 rfl
  have x2 := (unhide HX).cell 2 rfl
  have x2f := (unhide HX).frozen 2 rfl
  by_cases h0 : y = 0
  case pos =>
    subst h0
    go_wp2_with fail
    have HXr := (unhide HX).drew
    have HZr := (unhide HZ).drew
    have HRr := (unhide HRd).kept (grown_drew _ none) (fun b hb => by cases hb)
    have HGr := grown_trans (unhide HG) (grown_drew _ (some r))
    clear HX HZ HRd HG
    clear z0 z0f z1 z1f z2 z2f x0 x0f x1 x1f x2 x2f
    refine wp_region_held_drew (S := fun _ => True) (by kernel_rfl) trivial (fun hHeld => ?_)
    generalize w4.drew = V0 at *
    generalize w2.heap.size = gx at *
    have hSn : (fun _ : World => True) V0 := trivial
    refine tk 0 (some 29) (v := ?_) ?_ ?_
    rotate_left
    · intro w hSw
      first | (go_simp; done) | (go_simp; with_reducible rfl)
    try simp only [Act.put, List.setIfInBounds_toArray, List.set_cons_zero, List.set_cons_succ]
    clear hSn
    have hSn : (fun _ : World => True) V0 := trivial
    refine tk 4 (some 33) (v := ?_) ?_ ?_
    rotate_left
    · intro w hSw
      first | (go_simp; done) | (go_simp; with_reducible rfl)
    try simp only [Act.put, List.setIfInBounds_toArray, List.set_cons_zero, List.set_cons_succ]
    clear hSn
    refine wpAnyH_ready (rs := [1, 5]) (by kernel_rfl) (by simp) ?_
    refine AllReadyH.cons (o := { dst := some 30, op := _, type := _, pos := _, after := _, guard := _ }) rfl (fun K hK => ?_) ?_
    · have p0 := HXr.cell 0 rfl
      have p1 := HXr.cell 1 rfl
      have p2 := HXr.cell 2 rfl
      have p0f := HXr.frozen 0 rfl
      have p1f := HXr.frozen 1 rfl
      have p2f := HXr.frozen 2 rfl
      go_simp
      try go_wp2_with fail
      clear p0 p1 p2 p0f p1f p2f
      refine hK.out _ _ trivial (fun hHeld => ?_)
      clear hK K hHeld
      try simp only [Act.put, List.setIfInBounds_toArray, List.set_cons_zero, List.set_cons_succ]
      have hwr : IntKind.i64.wrap (s + 1) = s + 1 := wrap_sub (by omega) (by omega)
      have hSn : (fun _ : World => True) V0 := trivial
      refine tk 2 (some 31) (v := ?_) ?_ ?_
      rotate_left
      · intro w hSw
        first | (go_simp; done) | (go_simp; with_reducible rfl)
      try simp only [Act.put, List.setIfInBounds_toArray, List.set_cons_zero, List.set_cons_succ]
      clear hSn
      refine wpAnyH_ready (rs := [3, 5]) (by kernel_rfl) (by simp) ?_
      refine AllReadyH.cons (o := { dst := some 32, op := _, type := _, pos := _, after := _, guard := _ }) rfl (fun K hK => ?_) ?_
      · go_simp
        refine hK.out _ _ trivial (fun hHeld => ?_)
        clear hK K hHeld
        try simp only [Act.put, List.setIfInBounds_toArray, List.set_cons_zero, List.set_cons_succ]
        have HLr : Lits (V0.alloc (.cells #[.int .i64 (-1), .int .i64 (41), .int .i64 (s + 1)] 3)) V0.heap.size [-1, 41, s + 1] := lits_new V0 [-1, 41, s + 1]
        have hgb : r < V0.heap.size := HRr.lt
        have hga := World.grownBy_alloc V0 (.cells #[.int .i64 (-1), .int .i64 (41), .int .i64 (s + 1)] 3) (some r)
        have HRr := HRr.alloc (.cells #[.int .i64 (-1), .int .i64 (41), .int .i64 (s + 1)] 3)
        have HGr := grown_trans HGr hga
        have HXr := HXr.alloc (.cells #[.int .i64 (-1), .int .i64 (41), .int .i64 (s + 1)] 3)
        have HZr := HZr.alloc (.cells #[.int .i64 (-1), .int .i64 (41), .int .i64 (s + 1)] 3)
        clear hga
        generalize V0.alloc (.cells #[.int .i64 (-1), .int .i64 (41), .int .i64 (s + 1)] 3) = v2 at *
        generalize V0.heap.size = gb at *
        refine wpAnyH_ready (rs := [5]) (by kernel_rfl) (by simp) ?_
        refine AllReadyH.cons (o := { dst := some 34, op := _, type := _, pos := _, after := _, guard := _ }) rfl (fun K hK => ?_) ?_
        · go_simp
          go_at_call 26
          refine (c26 _ (k + 1 + 1 + 1) 3 _ (by omega) HRr).mono ?_
          rintro e v3 ⟨q, rfl, qa, qb, hr, hg⟩
          have qb := qb (by omega)
          have HRr := hr
          have HGr := grown_trans HGr hg
          have HXr := HXr.kg hg (by omega)
          have HZr := HZr.kg hg (by omega)
          have HLr := HLr.kept hg hgb
          clear hr hg
          try go_wp2_with fail
          refine hK.out _ _ trivial (fun hHeld => ?_)
          clear hK K hHeld
          try simp only [Act.put, List.setIfInBounds_toArray, List.set_cons_zero, List.set_cons_succ]
          obtain ⟨jN, yy, rfl, hjN, hy, hcy0⟩ := lit_val (l := [-1, 41, s + 1]) HLr qa (by simpa using qb)
          have hj9 : jN < 3 := by simpa using hjN
          have hjI : (jN : Int) < 3 := by omega
          have hjP : (0 : Int) ≤ (jN : Int) := by omega
          have hyG : ∀ W : World, Lits W gb [-1, 41, s + 1] → W.cell? ⟨gb, jN, none⟩ = some (.int .i64 yy) := lit_any hcy0 HLr hjN
          clear hcy0
          have hSn : (fun _ : World => True) v3 := trivial
          refine tk 6 (some 35) (v := ?_) ?_ ?_
          rotate_left
          · intro w hSw
            first | (go_simp; done) | (go_simp; with_reducible rfl)
          try simp only [Act.put, List.setIfInBounds_toArray, List.set_cons_zero, List.set_cons_succ]
          clear hSn
          refine wpAnyH_ready (rs := [7]) (by kernel_rfl) (by simp) ?_
          refine AllReadyH.cons (o := { dst := some 36, op := _, type := _, pos := _, after := _, guard := _ }) rfl (fun K hK => ?_) ?_
          · have hcy := hyG v3 HLr
            go_simp
            try go_wp2_with fail
            refine hK.out _ _ trivial (fun hHeld => ?_)
            clear hK K hHeld
            try simp only [Act.put, List.setIfInBounds_toArray, List.set_cons_zero, List.set_cons_succ]
            have hSn : (fun _ : World => True) v3 := trivial
            refine tk 8 (some 37) (v := ?_) ?_ ?_
            rotate_left
            · intro w hSw
              first | (go_simp; done) | (go_simp; with_reducible rfl)
            try simp only [Act.put, List.setIfInBounds_toArray, List.set_cons_zero, List.set_cons_succ]
            clear hSn
            refine wpAnyH_ready (rs := [9]) (by kernel_rfl) (by simp) ?_
            refine AllReadyH.cons (o := { dst := none, op := _, type := _, pos := _, after := _, guard := _ }) rfl (fun K hK => ?_) ?_
            · have p0 := HXr.cell 0 rfl
              have p1 := HXr.cell 1 rfl
              have p2 := HXr.cell 2 rfl
              have p0f := HXr.frozen 0 rfl
              have p1f := HXr.frozen 1 rfl
              have p2f := HXr.frozen 2 rfl
              go_simp
              try go_wp2_with fail
              clear p0 p1 p2 p0f p1f p2f
              have HRr := HRr.oth (i := 0) (g := gx) (.int .i64 yy) (by omega)
              have HGr := grown_oth (i := 0) (g := gx) HGr (.int .i64 yy) (by omega)
              have HZr := HZr.oth (i := 0) (g' := gx) (.int .i64 yy) (by omega)
              have HXr : Box _ _ [.int .i64 yy, .int .i64 l, .int .i64 o] := box_put HXr 0 (.int .i64 yy) (by simp)
              refine hK.out _ _ trivial (fun hHeld => ?_)
              clear hK K hHeld
              try simp only [Act.put, List.setIfInBounds_toArray, List.set_cons_zero, List.set_cons_succ]
              generalize v3.setCell ⟨gx, 0, none⟩ (.int .i64 yy) = v5 at *
              refine wpAnyH_done (by kernel_rfl) ?_ _
              have HRd := hide HRr
              have HG := hide HGr
              have z0 := HZr.cell 0 rfl
              have z1 := HZr.cell 1 rfl
              have z2 := HZr.cell 2 rfl
              have z0f := HZr.frozen 0 rfl
              have z1f := HZr.frozen 1 rfl
              have z2f := HZr.frozen 2 rfl
              have x0 := HXr.cell 0 rfl
              have x1 := HXr.cell 1 rfl
              have x2 := HXr.cell 2 rfl
              clear HRr HGr HZr HXr HLr
              go_wp2_with fail
              exact bodyPost_ret (v := hedV yy l o) (by simp [results, Tryz.results72, go_sem, z0, z1, z2]) rfl ⟨_, _, _, rfl, ((((unhide HRd).oth _ hrl).oth _ hrl).oth _ hrl).mono (by omega), grown_oth (grown_oth (grown_oth (unhide HG) _ (Nat.le_refl _)) _ (Nat.le_refl _)) _ (Nat.le_refl _)⟩
            exact AllReadyH.nil
          exact AllReadyH.nil
        exact AllReadyH.nil
      refine AllReadyH.cons (o := { dst := some 34, op := _, type := _, pos := _, after := _, guard := _ }) rfl (fun K hK => ?_) ?_
      · go_simp
        go_at_call 26
        refine (c26 _ (k + 1 + 1 + 1) 3 _ (by omega) HRr).mono ?_
        rintro e v6 ⟨q, rfl, qa, qb, hr, hg⟩
        have qb := qb (by omega)
        have HRr := hr
        have HGr := grown_trans HGr hg
        have HXr := HXr.kg hg (by omega)
        have HZr := HZr.kg hg (by omega)
        clear hr hg
        try go_wp2_with fail
        refine hK.out _ _ trivial (fun hHeld => ?_)
        clear hK K hHeld
        try simp only [Act.put, List.setIfInBounds_toArray, List.set_cons_zero, List.set_cons_succ]
        refine wpAnyH_ready (rs := [3]) (by kernel_rfl) (by simp) ?_
        refine AllReadyH.cons (o := { dst := some 32, op := _, type := _, pos := _, after := _, guard := _ }) rfl (fun K hK => ?_) ?_
        · go_simp
          refine hK.out _ _ trivial (fun hHeld => ?_)
          clear hK K hHeld
          try simp only [Act.put, List.setIfInBounds_toArray, List.set_cons_zero, List.set_cons_succ]
          have HLr : Lits (v6.alloc (.cells #[.int .i64 (-1), .int .i64 (41), .int .i64 (s + 1)] 3)) v6.heap.size [-1, 41, s + 1] := lits_new v6 [-1, 41, s + 1]
          have hgb : r < v6.heap.size := HRr.lt
          have hga := World.grownBy_alloc v6 (.cells #[.int .i64 (-1), .int .i64 (41), .int .i64 (s + 1)] 3) (some r)
          have HRr := HRr.alloc (.cells #[.int .i64 (-1), .int .i64 (41), .int .i64 (s + 1)] 3)
          have HGr := grown_trans HGr hga
          have HXr := HXr.alloc (.cells #[.int .i64 (-1), .int .i64 (41), .int .i64 (s + 1)] 3)
          have HZr := HZr.alloc (.cells #[.int .i64 (-1), .int .i64 (41), .int .i64 (s + 1)] 3)
          clear hga
          generalize v6.alloc (.cells #[.int .i64 (-1), .int .i64 (41), .int .i64 (s + 1)] 3) = v7 at *
          generalize v6.heap.size = gb at *
          obtain ⟨jN, yy, rfl, hjN, hy, hcy0⟩ := lit_val (l := [-1, 41, s + 1]) HLr qa (by simpa using qb)
          have hj9 : jN < 3 := by simpa using hjN
          have hjI : (jN : Int) < 3 := by omega
          have hjP : (0 : Int) ≤ (jN : Int) := by omega
          have hyG : ∀ W : World, Lits W gb [-1, 41, s + 1] → W.cell? ⟨gb, jN, none⟩ = some (.int .i64 yy) := lit_any hcy0 HLr hjN
          clear hcy0
          have hSn : (fun _ : World => True) v7 := trivial
          refine tk 6 (some 35) (v := ?_) ?_ ?_
          rotate_left
          · intro w hSw
            first | (go_simp; done) | (go_simp; with_reducible rfl)
          try simp only [Act.put, List.setIfInBounds_toArray, List.set_cons_zero, List.set_cons_succ]
          clear hSn
          refine wpAnyH_ready (rs := [7]) (by kernel_rfl) (by simp) ?_
          refine AllReadyH.cons (o := { dst := some 36, op := _, type := _, pos := _, after := _, guard := _ }) rfl (fun K hK => ?_) ?_
          · have hcy := hyG v7 HLr
            go_simp
            try go_wp2_with fail
            refine hK.out _ _ trivial (fun hHeld => ?_)
            clear hK K hHeld
            try simp only [Act.put, List.setIfInBounds_toArray, List.set_cons_zero, List.set_cons_succ]
            have hSn : (fun _ : World => True) v7 := trivial
            refine tk 8 (some 37) (v := ?_) ?_ ?_
            rotate_left
            · intro w hSw
              first | (go_simp; done) | (go_simp; with_reducible rfl)
            try simp only [Act.put, List.setIfInBounds_toArray, List.set_cons_zero, List.set_cons_succ]
            clear hSn
            refine wpAnyH_ready (rs := [9]) (by kernel_rfl) (by simp) ?_
            refine AllReadyH.cons (o := { dst := none, op := _, type := _, pos := _, after := _, guard := _ }) rfl (fun K hK => ?_) ?_
            · have p0 := HXr.cell 0 rfl
              have p1 := HXr.cell 1 rfl
              have p2 := HXr.cell 2 rfl
              have p0f := HXr.frozen 0 rfl
              have p1f := HXr.frozen 1 rfl
              have p2f := HXr.frozen 2 rfl
              go_simp
              try go_wp2_with fail
              clear p0 p1 p2 p0f p1f p2f
              have HRr := HRr.oth (i := 0) (g := gx) (.int .i64 yy) (by omega)
              have HGr := grown_oth (i := 0) (g := gx) HGr (.int .i64 yy) (by omega)
              have HZr := HZr.oth (i := 0) (g' := gx) (.int .i64 yy) (by omega)
              have HXr : Box _ _ [.int .i64 yy, .int .i64 l, .int .i64 o] := box_put HXr 0 (.int .i64 yy) (by simp)
              refine hK.out _ _ trivial (fun hHeld => ?_)
              clear hK K hHeld
              try simp only [Act.put, List.setIfInBounds_toArray, List.set_cons_zero, List.set_cons_succ]
              generalize v7.setCell ⟨gx, 0, none⟩ (.int .i64 yy) = v9 at *
              refine wpAnyH_done (by kernel_rfl) ?_ _
              have HRd := hide HRr
              have HG := hide HGr
              have z0 := HZr.cell 0 rfl
              have z1 := HZr.cell 1 rfl
              have z2 := HZr.cell 2 rfl
              have z0f := HZr.frozen 0 rfl
              have z1f := HZr.frozen 1 rfl
              have z2f := HZr.frozen 2 rfl
              have x0 := HXr.cell 0 rfl
              have x1 := HXr.cell 1 rfl
              have x2 := HXr.cell 2 rfl
              clear HRr HGr HZr HXr HLr
              go_wp2_with fail
              exact bodyPost_ret (v := hedV yy l o) (by simp [results, Tryz.results72, go_sem, z0, z1, z2]) rfl ⟨_, _, _, rfl, ((((unhide HRd).oth _ hrl).oth _ hrl).oth _ hrl).mono (by omega), grown_oth (grown_oth (grown_oth (unhide HG) _ (Nat.le_refl _)) _ (Nat.le_refl _)) _ (Nat.le_refl _)⟩
            exact AllReadyH.nil
          exact AllReadyH.nil
        exact AllReadyH.nil
      exact AllReadyH.nil
    refine AllReadyH.cons (o := { dst := some 34, op := _, type := _, pos := _, after := _, guard := _ }) rfl (fun K hK => ?_) ?_
    · go_simp
      go_at_call 26
      refine (c26 _ (k + 1 + 1 + 1) 3 _ (by omega) HRr).mono ?_
      rintro e v10 ⟨q, rfl, qa, qb, hr, hg⟩
      have qb := qb (by omega)
      have HRr := hr
      have HGr := grown_trans HGr hg
      have HXr := HXr.kg hg (by omega)
      have HZr := HZr.kg hg (by omega)
      clear hr hg
      try go_wp2_with fail
      refine hK.out _ _ trivial (fun hHeld => ?_)
      clear hK K hHeld
      try simp only [Act.put, List.setIfInBounds_toArray, List.set_cons_zero, List.set_cons_succ]
      refine wpAnyH_ready (rs := [1]) (by kernel_rfl) (by simp) ?_
      refine AllReadyH.cons (o := { dst := some 30, op := _, type := _, pos := _, after := _, guard := _ }) rfl (fun K hK => ?_) ?_
      · have p0 := HXr.cell 0 rfl
        have p1 := HXr.cell 1 rfl
        have p2 := HXr.cell 2 rfl
        have p0f := HXr.frozen 0 rfl
        have p1f := HXr.frozen 1 rfl
        have p2f := HXr.frozen 2 rfl
        go_simp
        try go_wp2_with fail
        clear p0 p1 p2 p0f p1f p2f
        refine hK.out _ _ trivial (fun hHeld => ?_)
        clear hK K hHeld
        try simp only [Act.put, List.setIfInBounds_toArray, List.set_cons_zero, List.set_cons_succ]
        have hwr : IntKind.i64.wrap (s + 1) = s + 1 := wrap_sub (by omega) (by omega)
        have hSn : (fun _ : World => True) v10 := trivial
        refine tk 2 (some 31) (v := ?_) ?_ ?_
        rotate_left
        · intro w hSw
          first | (go_simp; done) | (go_simp; with_reducible rfl)
        try simp only [Act.put, List.setIfInBounds_toArray, List.set_cons_zero, List.set_cons_succ]
        clear hSn
        refine wpAnyH_ready (rs := [3]) (by kernel_rfl) (by simp) ?_
        refine AllReadyH.cons (o := { dst := some 32, op := _, type := _, pos := _, after := _, guard := _ }) rfl (fun K hK => ?_) ?_
        · go_simp
          refine hK.out _ _ trivial (fun hHeld => ?_)
          clear hK K hHeld
          try simp only [Act.put, List.setIfInBounds_toArray, List.set_cons_zero, List.set_cons_succ]
          have HLr : Lits (v10.alloc (.cells #[.int .i64 (-1), .int .i64 (41), .int .i64 (s + 1)] 3)) v10.heap.size [-1, 41, s + 1] := lits_new v10 [-1, 41, s + 1]
          have hgb : r < v10.heap.size := HRr.lt
          have hga := World.grownBy_alloc v10 (.cells #[.int .i64 (-1), .int .i64 (41), .int .i64 (s + 1)] 3) (some r)
          have HRr := HRr.alloc (.cells #[.int .i64 (-1), .int .i64 (41), .int .i64 (s + 1)] 3)
          have HGr := grown_trans HGr hga
          have HXr := HXr.alloc (.cells #[.int .i64 (-1), .int .i64 (41), .int .i64 (s + 1)] 3)
          have HZr := HZr.alloc (.cells #[.int .i64 (-1), .int .i64 (41), .int .i64 (s + 1)] 3)
          clear hga
          generalize v10.alloc (.cells #[.int .i64 (-1), .int .i64 (41), .int .i64 (s + 1)] 3) = v12 at *
          generalize v10.heap.size = gb at *
          obtain ⟨jN, yy, rfl, hjN, hy, hcy0⟩ := lit_val (l := [-1, 41, s + 1]) HLr qa (by simpa using qb)
          have hj9 : jN < 3 := by simpa using hjN
          have hjI : (jN : Int) < 3 := by omega
          have hjP : (0 : Int) ≤ (jN : Int) := by omega
          have hyG : ∀ W : World, Lits W gb [-1, 41, s + 1] → W.cell? ⟨gb, jN, none⟩ = some (.int .i64 yy) := lit_any hcy0 HLr hjN
          clear hcy0
          have hSn : (fun _ : World => True) v12 := trivial
          refine tk 6 (some 35) (v := ?_) ?_ ?_
          rotate_left
          · intro w hSw
            first | (go_simp; done) | (go_simp; with_reducible rfl)
          try simp only [Act.put, List.setIfInBounds_toArray, List.set_cons_zero, List.set_cons_succ]
          clear hSn
          refine wpAnyH_ready (rs := [7]) (by kernel_rfl) (by simp) ?_
          refine AllReadyH.cons (o := { dst := some 36, op := _, type := _, pos := _, after := _, guard := _ }) rfl (fun K hK => ?_) ?_
          · have hcy := hyG v12 HLr
            go_simp
            try go_wp2_with fail
            refine hK.out _ _ trivial (fun hHeld => ?_)
            clear hK K hHeld
            try simp only [Act.put, List.setIfInBounds_toArray, List.set_cons_zero, List.set_cons_succ]
            have hSn : (fun _ : World => True) v12 := trivial
            refine tk 8 (some 37) (v := ?_) ?_ ?_
            rotate_left
            · intro w hSw
              first | (go_simp; done) | (go_simp; with_reducible rfl)
            try simp only [Act.put, List.setIfInBounds_toArray, List.set_cons_zero, List.set_cons_succ]
            clear hSn
            refine wpAnyH_ready (rs := [9]) (by kernel_rfl) (by simp) ?_
            refine AllReadyH.cons (o := { dst := none, op := _, type := _, pos := _, after := _, guard := _ }) rfl (fun K hK => ?_) ?_
            · have p0 := HXr.cell 0 rfl
              have p1 := HXr.cell 1 rfl
              have p2 := HXr.cell 2 rfl
              have p0f := HXr.frozen 0 rfl
              have p1f := HXr.frozen 1 rfl
              have p2f := HXr.frozen 2 rfl
              go_simp
              try go_wp2_with fail
              clear p0 p1 p2 p0f p1f p2f
              have HRr := HRr.oth (i := 0) (g := gx) (.int .i64 yy) (by omega)
              have HGr := grown_oth (i := 0) (g := gx) HGr (.int .i64 yy) (by omega)
              have HZr := HZr.oth (i := 0) (g' := gx) (.int .i64 yy) (by omega)
              have HXr : Box _ _ [.int .i64 yy, .int .i64 l, .int .i64 o] := box_put HXr 0 (.int .i64 yy) (by simp)
              refine hK.out _ _ trivial (fun hHeld => ?_)
              clear hK K hHeld
              try simp only [Act.put, List.setIfInBounds_toArray, List.set_cons_zero, List.set_cons_succ]
              generalize v12.setCell ⟨gx, 0, none⟩ (.int .i64 yy) = v14 at *
              refine wpAnyH_done (by kernel_rfl) ?_ _
              have HRd := hide HRr
              have HG := hide HGr
              have z0 := HZr.cell 0 rfl
              have z1 := HZr.cell 1 rfl
              have z2 := HZr.cell 2 rfl
              have z0f := HZr.frozen 0 rfl
              have z1f := HZr.frozen 1 rfl
              have z2f := HZr.frozen 2 rfl
              have x0 := HXr.cell 0 rfl
              have x1 := HXr.cell 1 rfl
              have x2 := HXr.cell 2 rfl
              clear HRr HGr HZr HXr HLr
              go_wp2_with fail
              exact bodyPost_ret (v := hedV yy l o) (by simp [results, Tryz.results72, go_sem, z0, z1, z2]) rfl ⟨_, _, _, rfl, ((((unhide HRd).oth _ hrl).oth _ hrl).oth _ hrl).mono (by omega), grown_oth (grown_oth (grown_oth (unhide HG) _ (Nat.le_refl _)) _ (Nat.le_refl _)) _ (Nat.le_refl _)⟩
            exact AllReadyH.nil
          exact AllReadyH.nil
        exact AllReadyH.nil
      exact AllReadyH.nil
    exact AllReadyH.nil
  have d0 : (y == 0) = false := by rw [beq_eq_false_iff_ne]; exact h0
  by_cases h1 : y = 1
  case pos =>
    subst h1
    go_wp2_with fail
    refine (c32 r (k + 1 + 1 + 1) 3 _ (by omega) (by omega) (unhide HRd)).mono ?_
    rintro e w5 ⟨q, rfl, qb, hr, hg⟩
    clear z0 z0f z1 z1f z2 z2f x0 x0f x1 x1f x2 x2f
    replace HG := hide (grown_trans (unhide HG) hg)
    replace HZ := hide ((unhide HZ).kg hg (by omega))
    replace HX := hide ((unhide HX).kg hg (by omega))
    replace HRd := hide hr
    clear hr hg
    have z0 := (unhide HZ).cell 0 rfl
    have z0f := (unhide HZ).frozen 0 rfl
    have z1 := (unhide HZ).cell 1 rfl
    have z1f := (unhide HZ).frozen 1 rfl
    have z2 := (unhide HZ).cell 2 rfl
    have z2f := (unhide HZ).frozen 2 rfl
    have x0 := (unhide HX).cell 0 rfl
    have x0f := (unhide HX).frozen 0 rfl
    have x1 := (unhide HX).cell 1 rfl
    have x1f := (unhide HX).frozen 1 rfl
    have x2 := (unhide HX).cell 2 rfl
    have x2f := (unhide HX).frozen 2 rfl
    go_wp2_with fail
    exact bodyPost_ret (v := hedV s q o) (by simp [results, Tryz.results72, go_sem, z0, z1, z2]) rfl ⟨_, _, _, rfl, (((((unhide HRd).oth _ (show r < w2.heap.size by omega)).oth _ hrl).oth _ hrl).oth _ hrl).mono (by omega), grown_oth (grown_oth (grown_oth (grown_oth (unhide HG) _ (show w.heap.size ≤ w2.heap.size by omega)) _ (Nat.le_refl _)) _ (Nat.le_refl _)) _ (Nat.le_refl _)⟩
  have d1 : (y == 1) = false := by rw [beq_eq_false_iff_ne]; exact h1
  clear h0 h1
  go_wp2_with fail
  refine (c32 r (k + 1 + 1 + 1) 3 _ (by omega) (by omega) (unhide HRd)).mono ?_
  rintro e w5 ⟨q, rfl, qb, hr, hg⟩
  clear z0 z0f z1 z1f z2 z2f x0 x0f x1 x1f x2 x2f
  replace HG := hide (grown_trans (unhide HG) hg)
  replace HZ := hide ((unhide HZ).kg hg (by omega))
  replace HX := hide ((unhide HX).kg hg (by omega))
  replace HRd := hide hr
  clear hr hg
  have z0 := (unhide HZ).cell 0 rfl
  have z0f := (unhide HZ).frozen 0 rfl
  have z1 := (unhide HZ).cell 1 rfl
  have z1f := (unhide HZ).frozen 1 rfl
  have z2 := (unhide HZ).cell 2 rfl
  have z2f := (unhide HZ).frozen 2 rfl
  have x0 := (unhide HX).cell 0 rfl
  have x0f := (unhide HX).frozen 0 rfl
  have x1 := (unhide HX).cell 1 rfl
  have x1f := (unhide HX).frozen 1 rfl
  have x2 := (unhide HX).cell 2 rfl
  have x2f := (unhide HX).frozen 2 rfl
  go_wp2_with fail
  exact bodyPost_ret (v := hedV s l q) (by simp [results, Tryz.results72, go_sem, z0, z1, z2]) rfl ⟨_, _, _, rfl, (((((unhide HRd).oth _ (show r < w2.heap.size by omega)).oth _ hrl).oth _ hrl).oth _ hrl).mono (by omega), grown_oth (grown_oth (grown_oth (grown_oth (unhide HG) _ (show w.heap.size ≤ w2.heap.size by omega)) _ (Nat.le_refl _)) _ (Nat.le_refl _)) _ (Nat.le_refl _)⟩
end Go.Proofs.YtmlbphmbffkdnaaGreat
